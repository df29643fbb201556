import PyProof.Rows.All
import Wide.All
import OpenK.AllK
import Wide.FinOn
import HandS.GenOver
import HandS.GenList
import HandS.Zip
import HandS.ForMost
import HandS.ForExc
import HandS.Wide
import HandS.Gcd
import HandS.IsInst
import HandS.ExcIs
import HandS.TryMany
import HandS.Evl
import HandS.Style
import HandS.SetBool
import HandS.Strs
import HandS.SortInts
import PyProof.ListIndex
import PyProof.ListIndexNeg
import HandS.TupSets
import HandS.SortRule
import HandS.TupLe
import HandS.Deep
import HandS.More
import HandS.Defaults
import HandS.MakeKwOnly
import HandS.Property
import HandS.Walk
import HandS.CallSlots
import HandS.Comp
import HandS.AnyAll
import PyProof.TupleOfGen
import HandS.EndOwn
import HandS.WordsExc
import HandS.TupAny
import HandS.FStr
import HandS.RaiseMore
import HandS.Dict
import HandS.Conv
import HandS.TupLen
import HandS.WideBits
import KE.KAssignIn
import PySem.Challenge.RW_fontwinding_k68_whole_each_way_there_and
set_option Elab.async false
set_option linter.all false
set_option maxRecDepth 100000
set_option maxHeartbeats 4000000
/-! Sw: what runs while generators sleep leaves them as they are. Each sleeper is put in the place of one that cannot be woken; a run that ends there has woken none, so it ends alike with the sleepers themselves. -/
namespace Sw
open PySem
open Sem (wp)
/-- asleep, and without a way on -/
def St (x : GenState) : Prop := ∃ (w : String) (l : List Value) (c : Code) (p : Pos) (fs : List Frame) (cl : Bool), x = .suspended (fun _ => .unsupported w) l c p fs cl
def NG (x : GenState) : Prop := ∀ k l c p fs cl, x = .suspended k l c p fs cl → splitAtGen fs = none
def Rl (x y : GenState) : Prop := (x = y ∧ NG x) ∨ (St x ∧ x.seen = y.seen ∧ x.bare = y.bare)
structure GR (a b : Array GenState) : Prop where
  sz : b.size = a.size
  rl : ∀ (i : Nat) x y, a[i]? = some x → b[i]? = some y → Rl x y
structure Kp (a b c d : Array GenState) : Prop where
  kp : ∀ (i : Nat) x, a[i]? = some x → St x → c[i]? = some x ∧ d[i]? = b[i]?
theorem st_fresh {c : Code} : ¬ St (.fresh c) := by rintro ⟨_, _, _, _, _, _, e⟩; cases e
theorem st_run : ¬ St .running := by rintro ⟨_, _, _, _, _, _, e⟩; cases e
theorem st_fin : ¬ St .finished := by rintro ⟨_, _, _, _, _, _, e⟩; cases e
theorem rl_self {x : GenState} (h : NG x) : Rl x x := .inl ⟨rfl, h⟩
theorem ng_run : NG .running := by intro _ _ _ _ _ _ e; cases e
theorem ng_fin : NG .finished := by intro _ _ _ _ _ _ e; cases e
theorem ng_fresh {c : Code} : NG (.fresh c) := by intro _ _ _ _ _ _ e; cases e
variable {a b c d e f : Array GenState} {g : Nat} {x y : GenState}
theorem GR.get (h : GR a b) (e : a[g]? = some x) : ∃ y, b[g]? = some y ∧ Rl x y := by
  have hg : g < a.size := (Array.getElem?_eq_some_iff.mp e).1
  have hb : g < b.size := by rw [h.sz]; exact hg
  exact ⟨b[g], Array.getElem?_eq_getElem hb, h.rl g x _ e (Array.getElem?_eq_getElem hb)⟩
theorem GR.awake (h : GR a b) (e : a[g]? = some x) (n : ¬ St x) : b[g]? = some x ∧ NG x := by
  obtain ⟨y, hy, r⟩ := h.get e
  rcases r with ⟨rfl, ng⟩ | ⟨s, _⟩
  · exact ⟨hy, ng⟩
  · exact absurd s n
theorem get_set {i : Nat} : (a.setIfInBounds g x)[i]? = if i = g then (if g < a.size then some x else none) else a[i]? := by
  by_cases h : i = g
  · subst h
    rw [if_pos rfl]
    by_cases h2 : i < a.size
    · rw [if_pos h2]; simp [h2]
    · rw [if_neg h2]; simp [h2]
  · rw [if_neg h, Array.getElem?_setIfInBounds_ne (Ne.symm h)]
theorem GR.set (h : GR a b) (r : Rl x y) : GR (a.setIfInBounds g x) (b.setIfInBounds g y) := by
  refine ⟨by rw [Array.size_setIfInBounds, Array.size_setIfInBounds, h.sz], fun i u v e1 e2 => ?_⟩
  rw [get_set] at e1 e2
  by_cases z : i = g
  · rw [if_pos z] at e1 e2
    rw [h.sz] at e2
    by_cases z2 : g < a.size
    · rw [if_pos z2] at e1 e2
      cases e1; cases e2; exact r
    · rw [if_neg z2] at e1
      cases e1
  · rw [if_neg z] at e1 e2
    exact h.rl i u v e1 e2
theorem GR.push (h : GR a b) (r : Rl x y) : GR (a.push x) (b.push y) := by
  refine ⟨by rw [Array.size_push, Array.size_push, h.sz], fun i u v e1 e2 => ?_⟩
  rw [Array.getElem?_push] at e1 e2
  rw [h.sz] at e2
  split at e1
  · rename_i z
    rw [if_pos z] at e2
    cases e1; cases e2; exact r
  · rename_i z
    rw [if_neg z] at e2
    exact h.rl i u v e1 e2
theorem Kp.refl : Kp a b a b := ⟨fun _ _ e _ => ⟨e, rfl⟩⟩
theorem Kp.trans (h : Kp a b c d) (k : Kp c d e f) : Kp a b e f := ⟨fun i x ex sx => by
  obtain ⟨h1, h2⟩ := h.kp i x ex sx
  obtain ⟨k1, k2⟩ := k.kp i x h1 sx
  exact ⟨k1, k2.trans h2⟩⟩
theorem Kp.pushed (h : GR a b) : Kp a b (a.push x) (b.push y) := ⟨fun i u e _ => by
  have hi : i < a.size := (Array.getElem?_eq_some_iff.mp e).1
  rw [Array.getElem?_push, Array.getElem?_push, if_neg (by omega), if_neg (by rw [h.sz]; omega)]
  exact ⟨e, rfl⟩⟩
/-- one that is awake is set -/
theorem Kp.setr (k : Kp a b c d) (n : ∀ z, a[g]? = some z → ¬ St z) : Kp a b (c.setIfInBounds g x) (d.setIfInBounds g y) := ⟨fun i u e su => by
  have hne : i ≠ g := fun z => n u (by rw [← z]; exact e) su
  obtain ⟨h1, h2⟩ := k.kp i u e su
  rw [get_set, get_set, if_neg hne, if_neg hne]
  exact ⟨h1, h2⟩⟩
theorem Kp.setl (k : Kp (a.setIfInBounds g x) (b.setIfInBounds g y) c d) (n : ∀ z, a[g]? = some z → ¬ St z) : Kp a b c d := ⟨fun i u e su => by
  have hne : i ≠ g := fun z => n u (by rw [← z]; exact e) su
  obtain ⟨h1, h2⟩ := k.kp i u (by rw [get_set, if_neg hne]; exact e) su
  rw [get_set, if_neg hne] at h2
  exact ⟨h1, h2⟩⟩
theorem split_ret {k : Result → Sem Fin} {h : Option Value} {g : Bool} {l : List Value} {c : Code} {p : Pos} {kp : List Value} {fs : List Frame} (e : splitAtGen (.ret k h g l c p kp :: fs) = none) : splitAtGen fs = none := by
  have e : (splitAtGen fs).map _ = none := e
  cases q : splitAtGen fs with
  | none => rfl
  | some z => rw [q] at e; cases e
theorem split_gen {n : Nat} {k : GenResult → Sem Fin} {l : List Value} {c : Code} {p : Pos} {fs : List Frame} (e : splitAtGen (.gen n k l c p :: fs) = none) : False := by
  cases (show some _ = none from e)
theorem split_app : ∀ {fs gs : List Frame}, splitAtGen fs = none → splitAtGen gs = none → splitAtGen (fs ++ gs) = none
  | [], _, _, h => h
  | .gen .. :: _, _, h, _ => (split_gen h).elim
  | .ret k h g l c p kp :: fs, gs, h1, h2 => by
    show (splitAtGen (fs ++ gs)).map _ = none
    rw [split_app (split_ret h1) h2]
    rfl
def NGE : End → Prop
  | .ret _ => True
  | .susp _ _ _ _ _ _ fs => splitAtGen fs = none
theorem nge_gen {e : End} (h : NGE e) : NG e.genState := by
  cases e with
  | ret r => exact ng_fin
  | susp v g l k c p fs =>
    intro k' l' c' p' fs' cl' q
    cases q
    exact h
/-- nothing that cannot go on ends -/
theorem no_run {M : Model} {Γ : Ctx} {p : Pos} {t : Sem Fin} {fs : List Frame} {s s' : Shared} {e : End} (h : Runs M Γ p t fs s e s') : ∀ w, t ≠ .unsupported w := by
  induction h with
  | segRet _ _ ih _ => exact ih
  | segGen _ _ ih _ => exact ih
  | segSuspOut _ _ ih => exact ih
  | segSuspGen _ _ _ _ ih _ => exact ih
  | _ => intro w z; cases z
theorem not_st {M : Model} {Γ : Ctx} {p : Pos} {r : Resume} {k : Resume → Sem Fin} {l : List Value} {c : Code} {p0 : Pos} {fs : List Frame} {cl : Bool} {s s' : Shared} {e : End} (h : Runs M Γ p (k r) fs s e s') : ¬ St (.suspended k l c p0 fs cl) := by
  rintro ⟨w, _, _, _, _, _, z⟩
  cases z
  exact no_run h w rfl
theorem runs_sw {M : Model} {Γ : Ctx} {p : Pos} {t : Sem Fin} {fs : List Frame} {s s' : Shared} {e : End} (h : Runs M Γ p t fs s e s') : splitAtGen fs = none → ∀ G, GR s.gens G →
    ∃ G', Runs M Γ p t fs { s with gens := G } e { s' with gens := G' } ∧ GR s'.gens G' ∧ NGE e ∧ Kp s.gens G s'.gens G' := by
  induction h with
  | done => intro _ G hG; exact ⟨G, .done, hG, trivial, .refl⟩
  | raise => intro _ G hG; exact ⟨G, .raise, hG, trivial, .refl⟩
  | again q _ ih => intro hf G hG; obtain ⟨G', r, a1, a2, a3⟩ := ih hf G hG; exact ⟨G', .again q r, a1, a2, a3⟩
  | rule _ ih => intro hf G hG; obtain ⟨G', r, a1, a2, a3⟩ := ih hf G hG; exact ⟨G', .rule r, a1, a2, a3⟩
  | «at» _ ih => intro hf G hG; obtain ⟨G', r, a1, a2, a3⟩ := ih hf G hG; exact ⟨G', .at r, a1, a2, a3⟩
  | load q _ ih => intro hf G hG; obtain ⟨G', r, a1, a2, a3⟩ := ih hf G hG; exact ⟨G', .load q r, a1, a2, a3⟩
  | update q _ ih => intro hf G hG; obtain ⟨G', r, a1, a2, a3⟩ := ih hf G hG; exact ⟨G', .update q r, a1, a2, a3⟩
  | loadIfAlive _ ih => intro hf G hG; obtain ⟨G', r, a1, a2, a3⟩ := ih hf G hG; exact ⟨G', .loadIfAlive r, a1, a2, a3⟩
  | point _ ih => intro hf G hG; obtain ⟨G', r, a1, a2, a3⟩ := ih hf G hG; exact ⟨G', .point r, a1, a2, a3⟩
  | alloc _ ih => intro hf G hG; obtain ⟨G', r, a1, a2, a3⟩ := ih hf G hG; exact ⟨G', .alloc r, a1, a2, a3⟩
  | fresh _ ih => intro hf G hG; obtain ⟨G', r, a1, a2, a3⟩ := ih hf G hG; exact ⟨G', .fresh r, a1, a2, a3⟩
  | ask _ ih => intro hf G hG; obtain ⟨G', r, a1, a2, a3⟩ := ih hf G hG; exact ⟨G', .ask r, a1, a2, a3⟩
  | choose q _ ih => intro hf G hG; obtain ⟨G', r, a1, a2, a3⟩ := ih hf G hG; exact ⟨G', .choose q r, a1, a2, a3⟩
  | os _ ih => intro hf G hG; obtain ⟨G', r, a1, a2, a3⟩ := ih hf G hG; exact ⟨G', .os r, a1, a2, a3⟩
  | handled _ ih => intro hf G hG; obtain ⟨G', r, a1, a2, a3⟩ := ih hf G hG; exact ⟨G', .handled r, a1, a2, a3⟩
  | genState q _ ih =>
    intro hf G hG
    obtain ⟨G', r, a1, a2, a3⟩ := ih hf G hG
    obtain ⟨y, hy, rl⟩ := hG.get q
    rcases rl with ⟨rfl, _⟩ | ⟨_, z, _⟩
    · exact ⟨G', .genState hy r, a1, a2, a3⟩
    · rw [z] at r
      exact ⟨G', .genState hy r, a1, a2, a3⟩
  | stack _ ih => intro hf G hG; obtain ⟨G', r, a1, a2, a3⟩ := ih hf G hG; exact ⟨G', .stack r, a1, a2, a3⟩
  | thread _ ih => intro hf G hG; obtain ⟨G', r, a1, a2, a3⟩ := ih hf G hG; exact ⟨G', .thread r, a1, a2, a3⟩
  | newGen _ ih =>
    intro hf G hG
    obtain ⟨G', r, a1, a2, a3⟩ := ih hf _ (hG.push (rl_self ng_fresh))
    rw [← hG.sz] at r
    exact ⟨G', .newGen r, a1, a2, (Kp.pushed hG).trans a3⟩
  | call _ _ ih1 ih2 =>
    intro hf G hG
    obtain ⟨G1, r1, a1, a2, a3⟩ := ih1 rfl G hG
    obtain ⟨G2, r2, b1, b2, b3⟩ := ih2 rfl G1 a1
    exact ⟨G2, .call r1 r2, b1, b2, a3.trans b3⟩
  | callSusp _ ih =>
    intro hf G hG
    obtain ⟨G1, r1, a1, a2, a3⟩ := ih rfl G hG
    exact ⟨G1, .callSusp r1, a1, split_app a2 rfl, a3⟩
  | yield => intro hf G hG; exact ⟨G, .yield, hG, rfl, .refl⟩
  | @resumeFresh Γ p g l k s c e1 s1 e s' q _ hq _ ih1 ih2 =>
    intro hf G hG
    obtain ⟨hy, _⟩ := hG.awake q st_fresh
    have na : ∀ z, s.gens[g]? = some z → ¬ St z := fun z hz => by rw [q] at hz; cases hz; exact st_fresh
    obtain ⟨G1, r1, a1, a2, a3⟩ := ih1 rfl _ (hG.set (g := g) (rl_self ng_run))
    obtain ⟨G2, r2, b1, b2, b3⟩ := ih2 hf _ (a1.set (g := g) (rl_self (nge_gen a2)))
    exact ⟨G2, .resumeFresh hy r1 hq r2, b1, b2, ((Kp.setl a3 na).setr na).trans b3⟩
  | @resumeSuspended Γ p g r l k s k0 l0 c0 p0 fs cl e1 s1 e s' q h1 hq _ ih1 ih2 =>
    intro hf G hG
    obtain ⟨hy, ng⟩ := hG.awake q (not_st h1)
    have na : ∀ z, s.gens[g]? = some z → ¬ St z := fun z hz => by rw [q] at hz; cases hz; exact not_st h1
    obtain ⟨G1, r1, a1, a2, a3⟩ := ih1 (ng _ _ _ _ _ _ rfl) _ (hG.set (g := g) (rl_self ng_run))
    obtain ⟨G2, r2, b1, b2, b3⟩ := ih2 hf _ (a1.set (g := g) (rl_self (nge_gen a2)))
    exact ⟨G2, .resumeSuspended hy r1 hq r2, b1, b2, ((Kp.setl a3 na).setr na).trans b3⟩
  | resumeJustStarted q n _ ih =>
    intro hf G hG
    obtain ⟨hy, _⟩ := hG.awake q st_fresh
    obtain ⟨G', r, a1, a2, a3⟩ := ih hf G hG
    exact ⟨G', .resumeJustStarted hy n r, a1, a2, a3⟩
  | resumeThrowFresh q _ ih =>
    intro hf G hG
    obtain ⟨hy, _⟩ := hG.awake q st_fresh
    obtain ⟨G', r, a1, a2, a3⟩ := ih hf _ (hG.set (rl_self ng_fin))
    exact ⟨G', .resumeThrowFresh hy r, a1, a2, Kp.setl a3 (fun z hz => by rw [q] at hz; cases hz; exact st_fresh)⟩
  | resumeRunning q _ ih =>
    intro hf G hG
    obtain ⟨hy, _⟩ := hG.awake q st_run
    obtain ⟨G', r, a1, a2, a3⟩ := ih hf G hG
    exact ⟨G', .resumeRunning hy r, a1, a2, a3⟩
  | resumeFinished q _ ih =>
    intro hf G hG
    obtain ⟨hy, _⟩ := hG.awake q st_fin
    obtain ⟨G', r, a1, a2, a3⟩ := ih hf G hG
    exact ⟨G', .resumeFinished hy r, a1, a2, a3⟩
  | segRet _ _ ih1 ih2 =>
    intro hf G hG
    obtain ⟨G1, r1, a1, a2, a3⟩ := ih1 rfl G hG
    obtain ⟨G2, r2, b1, b2, b3⟩ := ih2 (split_ret hf) G1 a1
    exact ⟨G2, .segRet r1 r2, b1, b2, a3.trans b3⟩
  | segGen _ _ _ _ => intro hf; exact (split_gen hf).elim
  | segSuspOut q _ ih =>
    intro hf G hG
    obtain ⟨G1, r1, a1, a2, a3⟩ := ih rfl G hG
    exact ⟨G1, .segSuspOut q r1, a1, split_app a2 q, a3⟩
  | segSuspGen q _ _ _ _ _ => intro hf; rw [hf] at q; cases q
theorem returns_sw {M : Model} {Γ : Ctx} {p : Pos} {s s' : Shared} {r : Result} (h : Returns M Γ p s r s') {G : Array GenState} (hG : GR s.gens G) :
    ∃ G', Returns M Γ p { s with gens := G } r { s' with gens := G' } ∧ GR s'.gens G' ∧ Kp s.gens G s'.gens G' := by
  obtain ⟨G', a, b, _, d⟩ := runs_sw h rfl G hG
  exact ⟨G', a, b, d⟩
theorem wakes_sw {M : Model} {Γ : Ctx} {p : Pos} {g : Nat} {r : Resume} {s s' : Shared} {res : GenResult} (h : Wakes M Γ p g r s res s') {G : Array GenState} (hG : GR s.gens G) :
    ∃ G', Wakes M Γ p g r { s with gens := G } res { s' with gens := G' } ∧ GR s'.gens G' ∧ Kp s.gens G s'.gens G' := by
  unfold Wakes at h
  split at h
  · exact h.elim
  · rename_i c q
    obtain ⟨hy, _⟩ := hG.awake q st_fresh
    have na : ∀ z, s.gens[g]? = some z → ¬ St z := fun z hz => by rw [q] at hz; cases hz; exact st_fresh
    split at h
    · obtain ⟨e1, s1, hr, hq, rfl, rfl⟩ := h
      obtain ⟨G1, r1, a1, a2, a3⟩ := runs_sw hr rfl _ (hG.set (g := g) (rl_self ng_run))
      refine ⟨G1.setIfInBounds g e1.genState, ?_, a1.set (rl_self (nge_gen a2)), (Kp.setl a3 na).setr na⟩
      unfold Wakes
      rw [show ({ s with gens := G } : Shared).gens[g]? = some (.fresh c) from hy]
      exact ⟨e1, _, r1, hq, rfl, rfl⟩
    · obtain ⟨rfl, rfl⟩ := h
      refine ⟨G, ?_, hG, .refl⟩
      unfold Wakes
      rw [show ({ s' with gens := G } : Shared).gens[g]? = some (.fresh c) from hy]
      rename_i v hv
      cases v <;> first | exact ⟨rfl, rfl⟩ | exact absurd rfl hv
    · obtain ⟨rfl, rfl⟩ := h
      refine ⟨G.setIfInBounds g .finished, ?_, hG.set (rl_self ng_fin), (Kp.refl).setr na⟩
      unfold Wakes
      rw [show ({ s with gens := G } : Shared).gens[g]? = some (.fresh c) from hy]
      exact ⟨rfl, rfl⟩
  · rename_i k0 l0 c0 p0 fs cl q
    obtain ⟨e1, s1, hr, hq, rfl, rfl⟩ := h
    obtain ⟨hy, ng⟩ := hG.awake q (not_st hr)
    have na : ∀ z, s.gens[g]? = some z → ¬ St z := fun z hz => by rw [q] at hz; cases hz; exact not_st hr
    obtain ⟨G1, r1, a1, a2, a3⟩ := runs_sw hr (ng _ _ _ _ _ _ rfl) _ (hG.set (g := g) (rl_self ng_run))
    refine ⟨G1.setIfInBounds g e1.genState, ?_, a1.set (rl_self (nge_gen a2)), (Kp.setl a3 na).setr na⟩
    unfold Wakes
    rw [show ({ s with gens := G } : Shared).gens[g]? = _ from hy]
    exact ⟨e1, _, r1, hq, rfl, rfl⟩
  · rename_i q
    obtain ⟨rfl, rfl⟩ := h
    obtain ⟨hy, _⟩ := hG.awake q st_run
    refine ⟨G, ?_, hG, .refl⟩
    unfold Wakes
    rw [show ({ s' with gens := G } : Shared).gens[g]? = _ from hy]
    exact ⟨rfl, rfl⟩
  · rename_i q
    obtain ⟨rfl, rfl⟩ := h
    obtain ⟨hy, _⟩ := hG.awake q st_fin
    refine ⟨G, ?_, hG, .refl⟩
    unfold Wakes
    rw [show ({ s' with gens := G } : Shared).gens[g]? = _ from hy]
    exact ⟨rfl, rfl⟩
/-- how the run with the sleepers stands to the run without them -/
def SW (a b : Array GenState) (s0 s' : Shared) : Prop := ∃ G', s' = { s0 with gens := G' } ∧ GR s0.gens G' ∧ Kp a b s0.gens G'
theorem SW.pre {a b c d : Array GenState} {s0 s' : Shared} (k : Kp a b c d) (h : SW c d s0 s') : SW a b s0 s' := by
  obtain ⟨G', e, r, k'⟩ := h
  exact ⟨G', e, r, k.trans k'⟩
theorem wp_sw {α : Type} (M : Model) (Γ : Ctx) (t : Sem α) : ∀ (Q : α → Pos → Shared → Prop) (E : Value → Pos → Shared → Prop) (p : Pos) (s : Shared) (G : Array GenState), GR s.gens G → wp M Γ t Q E p s →
    wp M Γ t (fun a p' s' => ∃ s0, SW s.gens G s0 s' ∧ Q a p' s0) (fun e p' s' => ∃ s0, SW s.gens G s0 s' ∧ E e p' s0) p { s with gens := G } := by
  have fin : ∀ {s : Shared} {G : Array GenState}, GR s.gens G → SW s.gens G s { s with gens := G } := fun h => ⟨_, rfl, h, .refl⟩
  induction t with
  | pure a => intro Q E p s G hG h; exact ⟨s, fin hG, h⟩
  | raise e => intro Q E p s G hG h; exact ⟨s, fin hG, h⟩
  | unsupported _ => intro Q E p s G _ h; exact h
  | finish _ => intro Q E p s G _ h; exact h
  | rule _ k ih => intro Q E p s G hG h; exact ih () Q E p s G hG h
  | «at» p' k ih => intro Q E p s G hG h; exact ih () Q E p' s G hG h
  | load a _ k ih => intro Q E p s G hG h; obtain ⟨o, ho, h⟩ := h; exact ⟨o, ho, ih o Q E p s G hG h⟩
  | update a _ f k ih => intro Q E p s G hG h; exact ⟨h.1, ih () Q E p { s with heap := s.heap.update a f } G hG h.2⟩
  | loadIfAlive a k ih => intro Q E p s G hG h; exact ih _ Q E p s G hG h
  | point _ k ih => intro Q E p s G hG h; exact ih () Q E p s G hG h
  | register _ _ => intro Q E p s G _ h; exact h
  | alloc o k ih => intro Q E p s G hG h; exact ih _ Q E p { s with heap := s.heap.push o } G hG h
  | fresh k ih => intro Q E p s G hG h; exact ih _ Q E p { s with toks := s.toks + 1 } G hG h
  | ask k ih => intro Q E p s G hG h; exact ih _ Q E p s G hG h
  | choose src m k ih => intro Q E p s G hG h; exact ⟨h.1, ih _ Q E p { s with drawn := s.drawn.bump src } G hG h.2⟩
  | os q _ k ih => intro Q E p s G hG h; exact ih _ Q E p { s with os := (Os.step s.os q).1 } G hG h
  | call c hd _ _ k ih =>
    intro Q E p s G hG h
    obtain ⟨r, s', hr, h⟩ := h
    obtain ⟨G1, r1, a1, a2⟩ := returns_sw hr hG
    exact ⟨r, _, r1, Sem.wp_mono M Γ _ (fun _ _ _ ⟨s0, w, q⟩ => ⟨s0, w.pre a2, q⟩) (fun _ _ _ ⟨s0, w, q⟩ => ⟨s0, w.pre a2, q⟩) p _ (ih r Q E p s' G1 a1 h)⟩
  | handled own k ih => intro Q E p s G hG h; exact ih _ Q E p s G hG h
  | genState g k ih =>
    intro Q E p s G hG h
    obtain ⟨st, hs, h⟩ := h
    obtain ⟨y, hy, rl⟩ := hG.get hs
    have es : st.seen = y.seen := by
      rcases rl with ⟨rfl, _⟩ | ⟨_, z, _⟩
      · rfl
      · exact z
    refine ⟨y, hy, ?_⟩
    rw [← es]
    exact ih _ Q E p s G hG h
  | newGen c k ih =>
    intro Q E p s G hG h
    have k1 : Kp s.gens G (s.gens.push (.fresh c)) (G.push (.fresh c)) := .pushed hG
    have e := ih _ Q E p { s with gens := s.gens.push (.fresh c) } (G.push (.fresh c)) (hG.push (rl_self ng_fresh)) h
    have e2 : wp M Γ (k s.gens.size) (fun a p' s' => ∃ s0, SW s.gens G s0 s' ∧ Q a p' s0) (fun x p' s' => ∃ s0, SW s.gens G s0 s' ∧ E x p' s0) p { s with gens := G.push (.fresh c) } :=
      Sem.wp_mono M Γ _ (fun _ _ _ ⟨s0, w, q⟩ => ⟨s0, w.pre k1, q⟩) (fun _ _ _ ⟨s0, w, q⟩ => ⟨s0, w.pre k1, q⟩) p _ e
    show wp M Γ (k ({ s with gens := G } : Shared).gens.size) _ _ p _
    rw [show ({ s with gens := G } : Shared).gens.size = s.gens.size from hG.sz]
    exact e2
  | resume g r _ k ih =>
    intro Q E p s G hG h
    obtain ⟨res, s', hw, h⟩ := h
    obtain ⟨G1, r1, a1, a2⟩ := wakes_sw hw hG
    exact ⟨res, _, r1, Sem.wp_mono M Γ _ (fun _ _ _ ⟨s0, w, q⟩ => ⟨s0, w.pre a2, q⟩) (fun _ _ _ ⟨s0, w, q⟩ => ⟨s0, w.pre a2, q⟩) p _ (ih res Q E p s' G1 a1 h)⟩
  | yield _ _ _ _ => intro Q E p s G _ h; exact h
  | stack k ih => intro Q E p s G hG h; exact ih _ Q E p s G hG h
  | fork _ _ => intro Q E p s G _ h; exact h
  | thread k ih => intro Q E p s G hG h; exact ih _ Q E p s G hG h
  | await _ _ _ _ _ => intro Q E p s G _ h; exact h
/-- the sleepers cannot be woken -/
def lull : GenState → GenState
  | .suspended _ l c p fs cl => .suspended (fun _ => .unsupported "") l c p fs cl
  | x => x
theorem rl_lull (x : GenState) : Rl (lull x) x := by
  cases x with
  | suspended k l c p fs cl => exact .inr ⟨⟨_, _, _, _, _, _, rfl⟩, rfl, rfl⟩
  | fresh c => exact rl_self ng_fresh
  | running => exact rl_self ng_run
  | finished => exact rl_self ng_fin
def lulled (s : Shared) : Shared := { s with gens := s.gens.map lull }
theorem gr_lull (s : Shared) : GR (lulled s).gens s.gens := by
  refine ⟨by show s.gens.size = (s.gens.map lull).size; rw [Array.size_map], fun i x y e1 e2 => ?_⟩
  have e1 : (s.gens.map lull)[i]? = some x := e1
  rw [Array.getElem?_map, e2] at e1
  cases e1
  exact rl_lull y
theorem bare_lull (x : GenState) : (lull x).bare = x.bare := by cases x <;> rfl
theorem allBare_lull {s : Shared} (h : PyProof.Rows.AllBare s.gens) : PyProof.Rows.AllBare (lulled s).gens := fun y hy => by
  obtain ⟨x, hx, rfl⟩ := Array.mem_map.mp (show y ∈ s.gens.map lull from hy)
  rw [bare_lull]
  exact h x hx
/-- behind the run: the sleepers of before sleep on -/
structure Back (s s0 s' : Shared) : Prop where
  eq : ∃ G, s0 = { s' with gens := G }
  bare : PyProof.Rows.AllBare s0.gens → PyProof.Rows.AllBare s'.gens
  sleep : ∀ (i : Nat) k l c p fs cl, s.gens[i]? = some (.suspended k l c p fs cl) → s'.gens[i]? = s.gens[i]?
theorem Back.of {s s0 s' : Shared} (h : SW (lulled s).gens s.gens s0 s') : Back s s0 s' := by
  obtain ⟨G', rfl, r, k⟩ := h
  refine ⟨⟨s0.gens, rfl⟩, fun hb y hy => ?_, fun i kk l c p fs cl e => ?_⟩
  · obtain ⟨i, hi, rfl⟩ := Array.mem_iff_getElem.mp (show y ∈ G' from hy)
    have hi2 : i < s0.gens.size := by rw [← r.sz]; exact hi
    have rl := r.rl i s0.gens[i] G'[i] (Array.getElem?_eq_getElem hi2) (Array.getElem?_eq_getElem hi)
    have hb2 := hb _ (Array.getElem_mem hi2)
    rcases rl with ⟨z, _⟩ | ⟨_, _, z⟩
    · show (G'[i]).bare = true
      rw [← z]; exact hb2
    · show (G'[i]).bare = true
      rw [← z]; exact hb2
  · have e1 : (lulled s).gens[i]? = some (lull (.suspended kk l c p fs cl)) := by
      show (s.gens.map lull)[i]? = _
      rw [Array.getElem?_map, e]
      rfl
    exact (k.kp i _ e1 ⟨_, _, _, _, _, _, rfl⟩).2
/-- THE RULE -/
theorem wpAny_sw {α : Type} {M : Model} {A : Around} {t : Sem α} {Q : α → Shared → Prop} {E : Value → Shared → Prop} {s : Shared} (h : wpAny M A t Q E (lulled s)) :
    wpAny M A t (fun a s' => ∃ s0, Back s s0 s' ∧ Q a s0) (fun e s' => ∃ s0, Back s s0 s' ∧ E e s0) s := fun Γ p hΓ =>
  Sem.wp_mono M Γ t (fun _ _ _ ⟨s0, w, q⟩ => ⟨s0, .of w, q⟩) (fun _ _ _ ⟨s0, w, q⟩ => ⟨s0, .of w, q⟩) p s (wp_sw M Γ t _ _ p (lulled s) s.gens (gr_lull s) (h Γ p hΓ))
end Sw

/-! Gl: loops over a generator of the program's own that hands out what a zip gives. -/
namespace Gl
open PySem PySem.Spec PyProof.Rows L2 GenW
/-! ### a run up to its next stop, whatever is wanted there -/
def Sg (M : Model) (A : Around) (Φ : End → Shared → Prop) (c : Code) (t : Sem PySem.Fin) (fs : List Frame) (s : Shared) : Prop :=
  ∀ Γ p, Γ.code = c → Γ.Woken A → ∃ e s', Runs M Γ p t fs s e s' ∧ Φ e s'
section
variable {M : Model} {A : Around} {Φ : End → Shared → Prop} {c : Code} {fs : List Frame} {s : Shared}
theorem sg_wrap {α : Type} {m : Sem α} {K : α → Sem PySem.Fin} {J : Value → Sem PySem.Fin} {gd lv} (h : wpAny M (A.over c fs) m (fun a s' => Sg M A Φ c (K a) fs s') (fun x s' => Sg M A Φ c (J x) fs s') s) : Sg M A Φ c (m.wrap K J gd lv) fs s := by
  rintro Γ p rfl hΓ
  refine runs_wrap_of_wp K J gd lv m (h (Γ.over fs) p (hΓ.over fs)) ?_ ?_
  · intro a p' s' h'
    exact h' Γ p' rfl hΓ
  · intro x p' s' h'
    exact h' Γ p' rfl hΓ
theorem sg_bind {α : Type} {m : Sem α} {K : α → Sem PySem.Fin} (h : wpAny M (A.over c fs) m (fun a s' => Sg M A Φ c (K a) fs s') (fun x s' => Sg M A Φ c (.raise x) fs s') s) : Sg M A Φ c (m >>= K) fs s := by
  rw [Sem.bind_eq_wrap']
  exact sg_wrap h
theorem sg_at {p' : Pos} {k : Unit → Sem PySem.Fin} (h : Sg M A Φ c (k ()) fs s) : Sg M A Φ c (.at p' k) fs s :=
  sg_wrap (m := standAt p') (K := k) (J := .raise) (gd := id) (lv := id) (wpAny_standAt h)
theorem sg_point {l : List Value} {k : Unit → Sem PySem.Fin} (h : Sg M A Φ c (k ()) fs s) : Sg M A Φ c (.point l k) fs s :=
  sg_wrap (m := point) (K := k) (J := .raise) (gd := id) (lv := fun _ => l) (wpAny_point h)
theorem sg_call {c' : Code} {h g l} {k : Result → Sem PySem.Fin} (hc : ∀ p, Sg M A Φ c' (M.den c') (.ret k h g l c p [] :: fs) s) : Sg M A Φ c (.call c' h g l k) fs s := by
  rintro Γ p rfl hΓ
  obtain ⟨e, s', hr, he⟩ := hc p (Γ.goto c') p rfl (hΓ.goto c')
  exact ⟨e, s', runs_call_seg hr, he⟩
theorem sg_leaf {k h g l c₁ p₁ kp} (r : Result) (hk : Sg M A Φ c₁ (k r) fs s) : Sg M A Φ c (leafOf r) (.ret k h g l c₁ p₁ kp :: fs) s := by
  rintro Γ p rfl hΓ
  obtain ⟨e, s', hr, he⟩ := hk (Γ.goto c₁) p₁ rfl (hΓ.goto c₁)
  exact ⟨e, s', Runs.pop r hr, he⟩
theorem sg_again {c' : Code} (hq : c'.quiet = true) (hc : Sg M A Φ c' (M.den c') fs s) : Sg M A Φ c (.pure (.again c')) fs s := by
  rintro Γ p rfl hΓ
  obtain ⟨e, s', hr, he⟩ := hc (Γ.goto c') p rfl (hΓ.goto c')
  exact ⟨e, s', Runs.head (c₁ := c') (fun _ _ x => .again hq x) hr, he⟩
theorem sg_end (r : Result) (h : Φ (.ret r) s) : Sg M A Φ c (leafOf r) [] s := by
  rintro Γ p rfl _
  exact ⟨.ret r, s, Runs.leaf r, h⟩
theorem sg_yield {v g l} {k : Resume → Sem PySem.Fin} (hfs : splitAtGen fs = none) (h : ∀ p, Φ (.susp v g l k c p fs) s) : Sg M A Φ c (.yield v g l k) fs s := by
  rintro Γ p rfl _
  exact ⟨_, s, Runs.yield' fs hfs, h p⟩
end
/-! ### a heap up to L -/
def cut (h : Heap) (L : Nat) : Heap := ⟨h.objs.extract 0 L, h.life⟩
theorem cut_size {h : Heap} {L : Nat} (hl : L ≤ h.objs.size) : (cut h L).objs.size = L := by
  show (h.objs.extract 0 L).size = L
  rw [Array.size_extract]
  omega
theorem cut_lt {h : Heap} {L b : Nat} (hb : b < L) : (cut h L).get? b = h.get? b := by
  have e : (h.objs.extract 0 L)[b]? = h.objs[b]? := by
    rw [Array.getElem?_extract]
    by_cases hs : b < h.objs.size
    · rw [if_pos (by omega)]
      simp
    · rw [if_neg (by omega)]
      simp [hs]
  show (match (h.objs.extract 0 L)[b]? with | some ⟨_, _, .freed, _⟩ => none | o => o) = _
  rw [e]
  rfl
theorem cut_some {h : Heap} {L b : Nat} {o : Obj} (hl : L ≤ h.objs.size) (e : (cut h L).get? b = some o) : b < L ∧ h.get? b = some o := by
  have hb : b < L := by
    have := Heap.lt_size e
    rwa [cut_size hl] at this
  rw [cut_lt hb] at e
  exact ⟨hb, e⟩
theorem cut_funs {h base : Heap} {L : Nat} : ∀ {l : List Env}, h.FunFrames base l → (∀ b ∈ frs l, b < L) → (cut h L).FunFrames base l
  | [], _, _ => trivial
  | env :: l, ⟨hk, ⟨a, o, hf, hn, ho, hd⟩, hr⟩, hb => by
    have e : frs (env :: l) = a :: frs l := by
      show List.filterMap _ _ = _
      rw [List.filterMap_cons, hf]
      rfl
    rw [e] at hb
    exact ⟨hk, ⟨a, o, hf, hn, by rw [cut_lt (hb a List.mem_cons_self)]; exact ho, hd⟩, cut_funs hr fun b hm => hb b (List.mem_cons_of_mem _ hm)⟩
/-! ### all that stands, as it stands -/
/-- an object that is a list of these -/
def IsL (o : Obj) (xs : List V) : Prop := xs.length ≤ sizeLine ∧ ∃ (its : List Value) (n : Nat), Vals xs its ∧ o = { cls := .type "list", data := .seq its.toArray n }
def Fz (h base : Heap) (fs pr : List Addr) (ls : Addr → Option (List V)) : Hp := fun b =>
  if b ∈ pr then none else if b ∈ fs then none else if (base.get? b).isSome then none else
    match h.get? b with
    | none => none
    | some o => match ls b with
      | some xs => some (.frz o (.lst xs))
      | none => some (.frz o (.own 0))
section
variable {h base : Heap} {fs pr : List Addr} {ls : Addr → Option (List V)} {P : Program} {w : World}
theorem fz_pr {b : Addr} (hb : b ∈ pr) : Fz h base fs pr ls b = none := if_pos hb
theorem fz_fs {b : Addr} (hb : b ∈ fs) : Fz h base fs pr ls b = none := by
  unfold Fz
  by_cases hp : b ∈ pr
  · rw [if_pos hp]
  · rw [if_neg hp, if_pos hb]
theorem fz_base {b : Addr} {o : Obj} (hb : base.get? b = some o) : Fz h base fs pr ls b = none := by
  unfold Fz
  by_cases hp : b ∈ pr
  · rw [if_pos hp]
  by_cases hf : b ∈ fs
  · rw [if_neg hp, if_pos hf]
  · rw [if_neg hp, if_neg hf, if_pos (by rw [hb]; rfl)]
theorem fz_new {b : Addr} (hb : h.get? b = none) : Fz h base fs pr ls b = none := by
  unfold Fz
  by_cases hp : b ∈ pr
  · rw [if_pos hp]
  by_cases hf : b ∈ fs
  · rw [if_neg hp, if_pos hf]
  by_cases hz : (base.get? b).isSome = true
  · rw [if_neg hp, if_neg hf, if_pos hz]
  · rw [if_neg hp, if_neg hf, if_neg hz, hb]
/-- whatever else stands is locked -/
theorem fz_get {b : Addr} {o : Obj} (hb : h.get? b = some o) (h1 : b ∉ pr) (h2 : b ∉ fs) (h3 : base.get? b = none) : ∃ u, Fz h base fs pr ls b = some (.frz o u) := by
  unfold Fz
  rw [if_neg h1, if_neg h2, if_neg (by rw [h3]; exact Bool.false_ne_true), hb]
  cases ls b with
  | none => exact ⟨_, rfl⟩
  | some xs => exact ⟨_, rfl⟩
theorem fz_lst {b : Addr} {o : Obj} {xs : List V} (hb : h.get? b = some o) (h1 : b ∉ pr) (h2 : b ∉ fs) (h3 : base.get? b = none) (hl : ls b = some xs) : Fz h base fs pr ls b = some (.frz o (.lst xs)) := by
  unfold Fz
  rw [if_neg h1, if_neg h2, if_neg (by rw [h3]; exact Bool.false_ne_true), hb]
  simp only [hl]
theorem fz_inv {b : Addr} {u : HO} (e : Fz h base fs pr ls b = some u) : ∃ o, h.get? b = some o ∧ b ∉ pr ∧ b ∉ fs ∧ base.get? b = none ∧ ((∃ xs, ls b = some xs ∧ u = .frz o (.lst xs)) ∨ u = .frz o (.own 0)) := by
  unfold Fz at e
  by_cases hp : b ∈ pr
  · rw [if_pos hp] at e; cases e
  by_cases hf : b ∈ fs
  · rw [if_neg hp, if_pos hf] at e; cases e
  by_cases hz : (base.get? b).isSome = true
  · rw [if_neg hp, if_neg hf, if_pos hz] at e; cases e
  rw [if_neg hp, if_neg hf, if_neg hz] at e
  have hb : base.get? b = none := by
    cases q : base.get? b with
    | none => rfl
    | some o => rw [q] at hz; exact absurd rfl hz
  cases q : h.get? b with
  | none => rw [q] at e; cases e
  | some o =>
    rw [q] at e
    cases q2 : ls b with
    | none =>
      simp only [q2] at e
      cases e
      exact ⟨o, rfl, hp, hf, hb, .inr rfl⟩
    | some xs =>
      simp only [q2] at e
      cases e
      exact ⟨o, rfl, hp, hf, hb, .inl ⟨xs, rfl, rfl⟩⟩
theorem fz_hok (hl : ∀ b xs, ls b = some xs → ∃ o, h.get? b = some o ∧ IsL o xs) : HOk P w (Fz h base fs pr ls) h := fun b u e => by
  obtain ⟨o, ho, _, _, _, hu⟩ := fz_inv e
  rcases hu with ⟨xs, hx, rfl⟩ | rfl
  · obtain ⟨o', ho', z, its, n, r, eo⟩ := hl b xs hx
    rw [ho] at ho'
    cases ho'
    exact ⟨ho, z, its, n, r, by rw [ho, eo]⟩
  · exact ⟨ho, o, ho⟩
end
/-! ### the generator's own context -/
def gX (P : Program) (w : World) (K : PySem.W.Frag) (mg : Str → Option Value) (base : Heap) (N : List Str) (A : Around) (env : Env) (outer : List Env) (s0 : Shared) (H0 : Hp) : Cx where
  prog := P
  w := w
  K := K
  mg := mg
  base := base
  A := A
  N := N
  s_0 := s0
  H_0 := H0
  env := env
  outer := outer
  stack := env :: outer
  ex := []
  calm := true
  fn := fun _ => true
  pn := []
  xe := fun _ _ => False
/-- a generator def's frame, without cells -/
structure GEnv (env : Env) : Prop where
  kind : env.scope.kind = .function
  glob : env.globals = mainGlobals
  blt : env.builtins = builtinsNs
  fr : env.frame = some env.locals
  cells : env.cells = []
  nc : ∀ x, env.kindOf x ≠ some .cell ∧ env.kindOf x ≠ some .free
  co : env.scope.isCoroutine = false
section
variable {P : Program} {w : World} {K : PySem.W.Frag} {mg : Str → Option Value} {base : Heap} {N : List Str} {A : Around} {env : Env} {outer : List Env} {s : Shared} {H : Hp} {pr : List Addr} {ls : Addr → Option (List V)} {σ : L2.St}
/-- where a turn of the generator begins: all else is locked -/
abbrev Hz (env : Env) (base : Heap) (outer : List Env) (s : Shared) (pr : List Addr) (ls : Addr → Option (List V)) : Hp := Fz s.heap base (frs outer) (env.locals :: pr) ls
abbrev Xz (P : Program) (w : World) (K : PySem.W.Frag) (mg : Str → Option Value) (base : Heap) (N : List Str) (A : Around) (env : Env) (outer : List Env) (s : Shared) (pr : List Addr) (ls : Addr → Option (List V)) : Cx :=
  gX P w K mg base N A env outer { s with heap := cut s.heap env.locals } (Hz env base outer s pr ls)
theorem inv_fz (G : GEnv env) (e0 : Env0 P w K mg base A outer s H) (hfr : ∀ b ∈ frs outer, b < env.locals) (hbl : base.objs.size ≤ env.locals) (hd : A.handled = none) {A' : Around} (hA : A'.frames = some (env :: outer)) (hd' : A'.handled = none)
    (hls : ∀ b xs, ls b = some xs → ∃ o, s.heap.get? b = some o ∧ IsL o xs) (hlen : σ.length = N.length)
    (hns : ∃ m, s.heap.Ns env.locals m ∧ ∀ (i : Nat) (x : Str) (v : V), N[i]? = some x → σ[i]? = some (some v) → Vis env.scope x → ∃ u, RelV v u ∧ env.kindOf x = some .local ∧ m x = some u) :
    Inv (Xz P w K mg base N A' env outer s pr ls) [] σ (Hz env base outer s pr ls) s := by
  obtain ⟨m, hm, hv⟩ := hns
  have hL : env.locals < s.heap.objs.size := hm.lt
  have hL' : env.locals ≤ s.heap.objs.size := Nat.le_of_lt hL
  have ncl : ∀ y c, env.cells.lookup y ≠ some c := fun y c z => by rw [G.cells] at z; cases z
  refine ⟨⟨e0.mod, G.kind, G.glob, G.blt, ?_, fun x y c z => (ncl x c z).elim, fun x z => ?_, fun y c _ z => (ncl y c z).elim, fun _ => hd', hA, .inr ⟨rfl, G.fr⟩, fun b z => ?_, fun b o e => ?_, ?_, fun b _ _ z => ?_, fun b z => ?_, cut_funs e0.funs hfr, fun b hb => fz_fs hb⟩,
    rfl, e0.bare, ⟨fun b o e n _ _ => (cut_some hL' e).2, fun b o e _ _ _ => ⟨o.slots, (cut_some hL' e).2⟩, fun b o _ n _ => n, fun b o e _ => ⟨o, (cut_some hL' e).2⟩, fun b xs e => e, fun b o u e => e, fun b ps e => ⟨#[], by rw [Array.append_empty]; exact e⟩⟩,
    ⟨m, hm, fun i x v h1 h2 h3 => ?_⟩, fun y c z => (ncl y c z).elim, fz_pr List.mem_cons_self, fun y c z => (ncl y c z).elim, fun p hp => ?_, fz_hok hls, hlen⟩
  · show (cut s.heap env.locals).objs.size ≤ env.locals
    rw [cut_size hL']
    exact Nat.le_refl _
  · rcases z with z | z
    · exact absurd z (G.nc x).1
    · exact absurd z (G.nc x).2
  · exact absurd (show b ∈ ([] : List Addr) from z) (by simp)
  · obtain ⟨q1, _⟩ := e0.bs b o e
    exact ⟨by show (cut s.heap env.locals).get? b = _; rw [cut_lt (Nat.lt_of_lt_of_le (Heap.lt_size e) hbl)]; exact q1, fz_base e⟩
  · show base.objs.size ≤ (cut s.heap env.locals).objs.size
    rw [cut_size hL']
    exact hbl
  · exact absurd (show b ∈ ([] : List Addr) from z) (by simp)
  · exact absurd (show b ∈ ([] : List Addr) from z) (by simp)
  · obtain ⟨u, q1, q2, q3⟩ := hv i x v h1 h2 h3
    exact ⟨u, q1, .inl ⟨q2, q3⟩⟩
  · exact absurd (show p ∈ ([] : List (Addr × Obj)) from hp) (by simp)
/-- what a stretch of the generator's run leaves of the heap of before -/
structure Eff (base : Heap) (outer : List Env) (pr : List Addr) (s s' : Shared) : Prop where
  os : s'.os = s.os
  bare : AllBare s'.gens
  keep : ∀ b o, s.heap.get? b = some o → b ∉ pr → b ∉ frs outer → s'.heap.get? b = some o
  slot : ∀ b o, s.heap.get? b = some o → b ∈ frs outer → ∃ sl, s'.heap.get? b = some { o with slots := sl }
theorem eff_of {A' : Around} {pins : List (Addr × Obj)} {H1 : Hp} {s1 : Shared} (e0 : Env0 P w K mg base A outer s H) (hfr : ∀ b ∈ frs outer, b < env.locals) (hbl : base.objs.size ≤ env.locals)
    (I : Inv (Xz P w K mg base N A' env outer s pr ls) pins σ H1 s1) : Eff base outer (env.locals :: pr) s s1 := by
  refine ⟨I.os, I.bare, fun b o e n nf => ?_, fun b o e hb => ?_⟩
  · cases q : base.get? b with
    | some o' =>
      have hb : b < env.locals := Nat.lt_of_lt_of_le (Heap.lt_size q) hbl
      exact I.base.keep b o (by show (cut s.heap env.locals).get? b = _; rw [cut_lt hb]; exact e) (fz_base q) nf (fun z => by cases z)
    | none =>
      obtain ⟨u, hu⟩ := fz_get (base := base) (fs := frs outer) (pr := env.locals :: pr) (ls := ls) e n nf q
      exact (I.hok b _ (I.base.frzs b o u hu)).1
  · have hl := hfr b hb
    exact I.base.slot b o (by show (cut s.heap env.locals).get? b = _; rw [cut_lt hl]; exact e) (fz_fs hb) hb (fun z => by cases z)
end
end Gl
namespace Gl
open PySem PySem.Spec PyProof.Rows L2 GenW
section
variable {M : Model} {A : Around} {Φ : End → Shared → Prop} {c : Code} {fs : List Frame} {s : Shared}
theorem sg_bindw {α β : Type} {m : Sem α} {f : α → Sem β} {K : β → Sem PySem.Fin} {J : Value → Sem PySem.Fin} {gd : Bool → Bool} {lv : List Value → List Value}
    (h : wpAny M (A.over c fs) m (fun a s' => Sg M A Φ c ((f a).wrap K J gd lv) fs s') (fun x s' => Sg M A Φ c (J x) fs s') s) : Sg M A Φ c ((m >>= f).wrap K J gd lv) fs s := by
  rw [Sem.bind_eq_wrap' m f, Sem.wrap_wrap]
  exact sg_wrap h
/-- what a generator does when it is woken -/
def Wk (M : Model) (A : Around) (Φ : End → Shared → Prop) (gs : GenState) (s : Shared) : Prop :=
  match gs with
  | .fresh c => Sg M A Φ c (M.den c) [] s
  | .suspended k _ c _ fs _ => Sg M A Φ c (k (.send .none)) fs s
  | _ => False
theorem wpAny_wake {α : Type} {g : Nat} {gs : GenState} {E : Value → Shared → Prop} {l : List Value} {k : GenResult → Sem α} {Q : α → Shared → Prop} (hg : s.gens[g]? = some gs) (hgo : Wk M A Φ gs (s.setGen g .running))
    (hΦ : ∀ e s1, Φ e s1 → e.quiet = true ∧ wpAny M A (k e.result) Q E (s1.setGen g e.genState)) : wpAny M A (.resume g (.send .none) l k) Q E s := by
  intro Γ p hΓ
  rw [Sem.wp_resume]
  cases gs with
  | fresh c =>
    obtain ⟨e, s1, hr, he⟩ := hgo (Γ.wake c p) p rfl (hΓ.wake c p)
    obtain ⟨q1, q2⟩ := hΦ e s1 he
    refine ⟨_, _, ?_, q2 Γ p hΓ⟩
    unfold Wakes
    rw [hg]
    exact ⟨e, s1, hr, q1, rfl, rfl⟩
  | suspended k0 l0 c0 p0 fs0 cl =>
    obtain ⟨e, s1, hr, he⟩ := hgo (Γ.wake c0 p) p0 rfl (hΓ.wake c0 p)
    obtain ⟨q1, q2⟩ := hΦ e s1 he
    refine ⟨_, _, ?_, q2 Γ p hΓ⟩
    unfold Wakes
    rw [hg]
    exact ⟨e, s1, hr, q1, rfl, rfl⟩
  | running => exact hgo.elim
  | finished => exact hgo.elim
end
section
variable {P : Program} {w : World} {A : Around} {E : Value → Shared → Prop} {s : Shared}
/-- the next item of a generator: what it hands out, or its end without a value -/
theorem next_gl {a : Addr} {g : Nat} {gs : GenState} {Φ : End → Shared → Prop} {Q : Option Value → Shared → Prop} (hh : A.handled = none) (hl : s.heap.NoLimit) (hroom : A.depth < recursionLimit) (hg : s.heap.IsGen a g) (hgs : s.gens[g]? = some gs)
    (hgo : Wk (model P w) A.in1 Φ gs (s.setGen g .running))
    (hΦ : ∀ e s1, Φ e s1 → (∃ v l k c p fs, e = .susp v false l k c p fs ∧ fs.any Frame.guarded = false ∧ Q (some v) (s1.setGen g e.genState)) ∨
      (e = .ret (.ok (.ret .none)) ∧ ∀ h', (∀ b o, s1.heap.get? b = some o → h'.get? b = some o) → Q none { s1.setGen g .finished with heap := h' })) : wpAny (model P w) A (pyNext (.ref a)) Q E s := by
  unfold pyNext
  apply wpAny_bind
  apply wpAny_attempt
  refine wpAny_callSpecial?_slot (name := Str.ofString "__next__") hg.typeIs slot_gen_next ?_
  refine wpAny_call_entry slot_gen_next hg.typeIs entry_gen_next ?_ (args_gen_next _)
  show wpAny _ A.in1 (Builtin.Generator.genWake (.ref a) (.send .none)) _ _ s
  unfold Builtin.Generator.genWake
  refine wpAny_bind (wpAny_holding (wpAny_genNumber hg ?_))
  refine wpAny_bind (wpAny_genState hgs ?_)
  have fin : ∀ e s1, Φ e s1 → e.quiet = true := fun e s1 h => by
    rcases hΦ e s1 h with ⟨v, l, k, c, p, fs, rfl, hfs, _⟩ | ⟨rfl, _⟩
    · show (!(false || fs.any Frame.guarded)) = true
      rw [hfs]
      rfl
    · rfl
  cases gs with
  | running => exact hgo.elim
  | finished => exact hgo.elim
  | fresh c0 =>
    apply wpAny_bind
    refine wpAny_roomToWake hl hroom ?_
    show wpAny (model P w) A.in1 (.resume g (.send .none) [] _) _ _ s
    refine wpAny_wake hgs hgo fun e s1 he => ⟨fin e s1 he, ?_⟩
    rcases hΦ e s1 he with ⟨v, l, k, c, p, fs, rfl, _, q⟩ | ⟨rfl, q⟩
    · exact wpAny_pure ⟨v, rfl, wpAny_pure q⟩
    · show wpAny (model P w) A.in1 (newExc (.type "StopIteration") [] >>= _) _ _ _
      apply wpAny_bind
      simp only [newExc, newTuple]
      apply wpAny_bind
      refine wpAny_newObj_type ?_ (by size_fits)
      refine wpAny_bind (m := firstArgMember _ _) (wpAny_of_eq (a := Value.none) ?_ ?_)
      · first
          | rfl
          | (simp only [firstArgMember]; rfl)
      refine wpAny_newObj_type ?_ (by size_fits)
      simp only [raiseNew]
      refine wpAny_bind (wpAny_bind (wpAny_handled ?_))
      rw [show A.in1.handled = none from hh]
      refine wpAny_throw (wpAny_bind ?_)
      refine wpAny_isInstance (T := "StopIteration") (b := true) ⟨_, Heap.get?_push_size _ rfl, rfl⟩ isSubtype_stop ?_
      exact wpAny_pure (q _ fun b o hb => Heap.get?_push_of_some _ (Heap.get?_push_of_some _ hb))
  | suspended k0 l0 c0 p0 fs0 cl =>
    apply wpAny_bind
    refine wpAny_roomToWake hl hroom ?_
    show wpAny (model P w) A.in1 (.resume g (.send .none) [] _) _ _ s
    refine wpAny_wake hgs hgo fun e s1 he => ⟨fin e s1 he, ?_⟩
    rcases hΦ e s1 he with ⟨v, l, k, c, p, fs, rfl, _, q⟩ | ⟨rfl, q⟩
    · exact wpAny_pure ⟨v, rfl, wpAny_pure q⟩
    · show wpAny (model P w) A.in1 (newExc (.type "StopIteration") [] >>= _) _ _ _
      apply wpAny_bind
      simp only [newExc, newTuple]
      apply wpAny_bind
      refine wpAny_newObj_type ?_ (by size_fits)
      refine wpAny_bind (m := firstArgMember _ _) (wpAny_of_eq (a := Value.none) ?_ ?_)
      · first
          | rfl
          | (simp only [firstArgMember]; rfl)
      refine wpAny_newObj_type ?_ (by size_fits)
      simp only [raiseNew]
      refine wpAny_bind (wpAny_bind (wpAny_handled ?_))
      rw [show A.in1.handled = none from hh]
      refine wpAny_throw (wpAny_bind ?_)
      refine wpAny_isInstance (T := "StopIteration") (b := true) ⟨_, Heap.get?_push_size _ rfl, rfl⟩ isSubtype_stop ?_
      exact wpAny_pure (q _ fun b o hb => Heap.get?_push_of_some _ (Heap.get?_push_of_some _ hb))
end
end Gl

namespace Gl
open PySem PySem.Spec PyProof.Rows L2 GenW
section
variable {P : Program} {w : World} {K : PySem.W.Frag} {mg : Str → Option Value} {base : Heap} {N : List Str} {A A' : Around} {env : Env} {outer : List Env} {s : Shared} {pr : List Addr} {ls : Addr → Option (List V)} {σ : L2.St}
variable {tg e : Expr} {yp ypos : Pos} {it : Addr} {fp : List Addr} {tn : Nat → Heap → Prop} {J : It} {g : TG} {te : TE} {i : Nat} {Φ : End → Shared → Prop} {fs : List Frame}
abbrev gBody (e : Expr) (yp ypos : Pos) : List Stmt := [.Expr (.Yield (some e) yp) ypos]
abbrev gLoop (tg e : Expr) (yp ypos : Pos) (it : Addr) (env : Env) : Code := .forLoop tg (.ref it) (gBody e yp ypos) [] env
/-- woken, the loop goes on -/
def Again (P : Program) (w : World) (A : Around) (c : Code) (fs : List Frame) (k : Resume → Sem PySem.Fin) : Prop :=
  ∀ Φ s, Sg (model P w) A Φ c ((model P w).den c) fs s → Sg (model P w) A Φ c (k (.send .none)) fs s
/-- the loop's end is the generator's end -/
def Ends (P : Program) (w : World) (A : Around) (fs : List Frame) : Prop :=
  ∀ Φ c s, Φ (.ret (.ok (.ret .none))) s → Sg (model P w) A Φ c (.pure (.done .next)) fs s
theorem sg_item (hA : A.over (gLoop tg e yp ypos it env) fs = A') (hsp : splitAtGen fs = none) (hgu : fs.any Frame.guarded = false) (hco : env.scope.isCoroutine = false) (hi : interactive env = false)
    (hg : ∀ s0 H0, PG (gX P w K mg base N A' env outer s0 H0) tg g) (he : ∀ s0 H0, PE (gX P w K mg base N A' env outer s0 H0) e te) (T : Turn P w K tg J fp it tn)
    {s0 : Shared} {H0 H : Hp} (I : Inv (gX P w K mg base N A' env outer s0 H0) [] σ H s) (hf : ∀ b ∈ fp, FpOk (gX P w K mg base N A' env outer s0 H0) [] H b) (st : tn i s.heap) (go : J.go i H) {Post : V → Hp → Prop}
    (step : ∀ x H', J.yld i H x H' → g x σ H' fun σ2 H2 => te σ2 H2 fun y H3 => Post y H3)
    (hΦ : ∀ v y σ1 pins H3 s1, Inv (gX P w K mg base N A' env outer s0 H0) pins σ1 H3 s1 → tn (i + 1) s1.heap → (∀ b ∈ fp, H3 b = none) → RelV y v → Post y H3 → ∀ k l p, Again P w A (gLoop tg e yp ypos it env) fs k → Φ (.susp v false l k (gLoop tg e yp ypos it env) p fs) s1) :
    Sg (model P w) A Φ (gLoop tg e yp ypos it env) ((model P w).den (gLoop tg e yp ypos it env)) fs s := by
  show Sg _ A Φ _ ((forTurn tg (.ref it) (gBody e yp ypos) [] env).onRaise _) fs s
  rw [Sem.onRaise_eq_wrap]
  unfold forTurn
  refine sg_bindw (wpAny_standAt ?_)
  refine sg_bindw (wpAny_onRaise ?_)
  rw [hA]
  refine wpAny_mono (T.item _ rfl rfl rfl rfl i [] s σ H (fun _ _ => False) I hf st go) (fun r s1 hr => ?_) fun _ _ z => z.elim
  obtain ⟨u, rfl, hu⟩ := hr
  refine sg_bindw ?_
  rw [hA]
  refine wpAny_mono hu (fun _ s2 h2 => ?_) fun _ _ z => z.elim
  obtain ⟨x, H2, I2, rx, yx, st2, fr2⟩ := h2
  have I2' := I2.pinned (fun b hb => ⟨fr2 b hb, (hf b hb).2⟩) (T.obj _ _ st2)
  refine sg_bindw ?_
  rw [hA]
  refine wpAny_mono ((hg s0 H0).run _ s2 σ H2 x u _ I2' rx (step x H2 yx)) (fun _ s3 h3 => ?_) fun _ _ z => z.elim
  obtain ⟨σ3, H3, I3, q3⟩ := h3
  rw [Sem.bind_eq_wrap' (execs _ _) _, Sem.wrap_wrap]
  rw [execs_cons_wrap]
  rw [exec_Expr env _ ypos hi rfl]
  show Sg _ A Φ _ (.at ypos fun _ => Sem.wrap _ _ _ _ ((eval e env >>= fun v => standAt yp >>= fun _ => yieldOut env v) >>= fun x => dropValue (.Yield (some e) yp) ypos x)) fs s3
  refine sg_at ?_
  rw [Sem.bind_eq_wrap' (eval e env >>= _) _]
  rw [Sem.wrap_wrap]
  refine sg_bindw ?_
  rw [hA]
  refine wpAny_mono ((he s0 H0).run _ s3 σ3 H3 _ I3 q3) (fun v s4 h4 => ?_) fun _ _ z => z.elim
  obtain ⟨y, H4, I4, ry, q4⟩ := h4
  refine sg_bindw (wpAny_standAt ?_)
  have hy : yieldOut env v = yieldValue v := by
    simp only [yieldOut, hco]
    exact if_neg Bool.false_ne_true
  rw [hy]
  have keepT : tn (i + 1) s4.heap := T.keep _ _ _ st2 fun b hb o q => (I4.pin (b, o) (List.mem_append_right _ (List.mem_append_right _ (mem_pinsAt hb q)))).1
  have frT : ∀ b ∈ fp, H4 b = none := fun b hb => by
    obtain ⟨o, q, _⟩ := T.obj _ _ st2 b hb
    exact (I4.pin (b, o) (List.mem_append_right _ (List.mem_append_right _ (mem_pinsAt hb q)))).2.1
  refine sg_yield hsp fun p => ?_
  exact hΦ v y σ3 _ H4 s4 I4 keepT frT ry q4 _ _ p fun Φ' s' h' => sg_again rfl h'
/-- nothing is left -/
theorem sg_stop (hA : A.over (gLoop tg e yp ypos it env) fs = A') (T : Turn P w K tg J fp it tn)
    {s0 : Shared} {H0 H : Hp} (I : Inv (gX P w K mg base N A' env outer s0 H0) [] σ H s) (hf : ∀ b ∈ fp, FpOk (gX P w K mg base N A' env outer s0 H0) [] H b) (st : tn i s.heap) (stop : J.stop i H) (hE : Ends P w A fs)
    (hΦ : ∀ s1, Inv (gX P w K mg base N A' env outer s0 H0) [] σ H s1 → Φ (.ret (.ok (.ret .none))) s1) :
    Sg (model P w) A Φ (gLoop tg e yp ypos it env) ((model P w).den (gLoop tg e yp ypos it env)) fs s := by
  show Sg _ A Φ _ ((forTurn tg (.ref it) (gBody e yp ypos) [] env).onRaise _) fs s
  rw [Sem.onRaise_eq_wrap]
  unfold forTurn
  refine sg_bindw (wpAny_standAt ?_)
  refine sg_bindw (wpAny_onRaise ?_)
  rw [hA]
  refine wpAny_mono (T.done _ rfl rfl rfl rfl i [] s σ H (fun _ _ => False) I hf st stop) (fun r s1 hr => ?_) fun _ _ z => z.elim
  obtain ⟨rfl, I1⟩ := hr
  refine sg_again (c' := .block [] env) rfl ?_
  show Sg _ A Φ _ (.pure (.done .next)) fs s1
  exact hE Φ _ s1 (hΦ s1 I1)
theorem sg_first {iter : Expr} {fpos : Pos} {wi : TI} {s0 : Shared} {H0 H : Hp} {R : It → Hp → Prop} (hs : ∀ x, foldedSetIterable iter env x = pure x)
    (I : Inv (gX P w K mg base N (A.deeper env) env outer s0 H0) [] σ H s) (hi : PI (gX P w K mg base N (A.deeper env) env outer s0 H0) tg iter wi) (hw : wi σ H R)
    (hl : ∀ it fp tn J H1 s1, Inv (gX P w K mg base N (A.deeper env) env outer s0 H0) [] σ H1 s1 → Turn P w K tg J fp it tn → tn 0 s1.heap → (∀ b ∈ fp, FpOk (gX P w K mg base N (A.deeper env) env outer s0 H0) [] H1 b) → R J H1 →
      ∀ fs, splitAtGen fs = none → fs.any Frame.guarded = false → Ends P w A fs → A.over (gLoop tg e yp ypos it env) fs = A.deeper env → Sg (model P w) A Φ (gLoop tg e yp ypos it env) ((model P w).den (gLoop tg e yp ypos it env)) fs s1) :
    Sg (model P w) A Φ (.func [.For tg iter (gBody e yp ypos) [] fpos] env) ((model P w).den (.func [.For tg iter (gBody e yp ypos) [] fpos] env)) [] s := by
  have ov : A.over (.func [.For tg iter (gBody e yp ypos) [] fpos] env) [] = A.deeper env := over_func
  show Sg _ A Φ _ (.point [] fun _ => ((execs [.For tg iter (gBody e yp ypos) [] fpos] env).onRaise (leaving env)) >>= _) [] s
  refine sg_point ?_
  rw [Sem.onRaise_eq_wrap]
  rw [Sem.bind_eq_wrap' (Sem.wrap _ _ _ _ _) _]
  rw [Sem.wrap_wrap]
  rw [execs_cons_wrap]
  rw [arm_exec_For]
  refine sg_bindw (wpAny_standAt ?_)
  refine sg_bindw ?_
  rw [ov]
  refine wpAny_mono (hi.run [] s σ H R I hw) (fun v s1 h1 => ?_) fun _ _ z => z.elim
  refine sg_bindw ?_
  refine wpAny_of_eq (hs v) ?_
  refine sg_bindw (wpAny_standAt ?_)
  refine sg_bindw ?_
  refine wpAny_holding ?_
  rw [ov]
  refine wpAny_mono h1 (fun itv s2 h2 => ?_) fun _ _ z => z.elim
  obtain ⟨it, fp, tn, J, H2, rfl, I2, T, st, hf, q⟩ := h2
  refine sg_call fun p => ?_
  refine hl it fp tn J H2 s2 I2 T st hf q _ rfl rfl ?_ ?_
  · intro Φ' c s' h'
    refine sg_leaf (.ok .next) ?_
    exact sg_end (.ok (.ret .none)) h'
  · rw [← ov]
    exact over_loop rfl rfl
end
end Gl

namespace Gl
open PySem PySem.Spec PyProof.Rows L2 GenW
theorem cells_nil : ∀ {ns : List (Str × NameKind)} {n : Nat}, (∀ y ∈ ns, y.2 ≠ .cell ∧ y.2 ≠ .free) → cellsFrom n ns [] = []
  | [], _, _ => rfl
  | (x, k) :: ns, n, h => by
    have hk : k ≠ .cell ∧ k ≠ .free := h (x, k) List.mem_cons_self
    have ih : cellsFrom n ns [] = [] := cells_nil fun y hy => h y (List.mem_cons_of_mem _ hy)
    cases k with
    | cell => exact absurd rfl hk.1
    | free => exact absurd rfl hk.2
    | _ => exact ih
/-- a generator def of one parameter, its names all local -/
structure GDef (K : PySem.W.Frag) (x qual : Str) (st : Stmt) (f : Addr) (fd : FuncData) (N : List Str) (p0 : Str) : Prop where
  F : Fun K x qual st f fd
  kind : (defScope st).kind = .function
  co : (defScope st).isCoroutine = false
  gen : (defScope st).isGenerator = true
  nd : N.Nodup
  pre : N.take 1 = [p0]
  par : (defScope st).names.lookup p0 = some .local
  loc : ∀ y ∈ (defScope st).names, y.2 ≠ .cell ∧ y.2 ≠ .free
section
variable {x qual : Str} {st : Stmt} {f : Addr} {fd : FuncData} {N : List Str} {p0 : Str} {K : PySem.W.Frag}
theorem lookup_loc {ns : List (Str × NameKind)} (h : ∀ y ∈ ns, y.2 ≠ .cell ∧ y.2 ≠ .free) {y : Str} {k : NameKind} (e : ns.lookup y = some k) : k ≠ .cell ∧ k ≠ .free := h (y, k) (PySem.mem_of_lookup e)
theorem genv (D : GDef K x qual st f fd N p0) (L : Addr) (cd : Value) : GEnv (envOfC qual (defScope st) L f cd) where
  kind := D.kind
  glob := rfl
  blt := rfl
  fr := rfl
  cells := cells_nil D.loc
  nc := fun y => by
    refine ⟨fun z => ?_, fun z => ?_⟩
    · exact (lookup_loc D.loc (show (defScope st).names.lookup y = some .cell from z)).1 rfl
    · exact (lookup_loc D.loc (show (defScope st).names.lookup y = some .free from z)).2 rfl
  co := D.co
/-- what a call of the generator def leaves -/
structure New (qual : Str) (st : Stmt) (f : Addr) (cd : Value) (p0 : Str) (u : Value) (s : Shared) (a : Addr) (g : Nat) (s' : Shared) : Prop where
  gen : s'.heap.IsGen a g
  at_ : s'.gens[g]? = some (.fresh (.func (defBody st) (envOfC qual (defScope st) s.heap.objs.size f cd)))
  le : s.heap.objs.size < a
  os : s'.os = s.os
  bare : AllBare s'.gens
  keep : ∀ b o, s.heap.get? b = some o → s'.heap.get? b = some o
  ns : ∃ m, s'.heap.Ns s.heap.objs.size m ∧ m p0 = some u
theorem made {X : Cx} {k : Nat} {pins : List (Addr × Obj)} {σ : L2.St} {H : Hp} {s : Shared} {u : Value} {E : Value → Shared → Prop} (D : GDef X.K x qual st f fd N p0) (hr : Room k X.A) (I : Inv X pins σ H s) (hb : Binds X.K fd [p0] []) :
    wpAny (model X.prog X.w) X.A (call (.ref f) [u]) (fun r s' => ∃ a g cd, r = .ref a ∧ New qual st f cd p0 u s a g s') E s := by
  obtain ⟨oc, od, kV, doc, pm, an, cdv, ct, osl, rfl, lk, hcd⟩ := D.F.ex
  have KX := I.kIn
  have lim := I.nolimit
  have hkind : ∀ y ∈ [p0].zip [u], (defScope st).names.lookup y.1 = some .local ∨ ((defScope st).names.lookup y.1 = some .cell ∧ ((cellsFrom (s.heap.objs.size + 1) (defScope st).names []).lookup y.1).isSome = true) := fun y hy => by
    rw [List.mem_singleton.mp (show y ∈ [(p0, u)] from hy)]
    exact .inl D.par
  refine wpAny_call ?_
  refine codeAny_call_generator (by have := hr.dp; omega) (KX _ _ lk) rfl D.co D.gen rfl (PySem.W.codeRec_of KX hcd) (hb s [u] KX rfl _ _ _ _ ?_)
  refine wpAny_newFunctionEnv_cells D.kind hkind fun env he s1 q => ?_
  subst he
  refine ⟨lim.keeps q.toInCall.keep, ?_⟩
  obtain ⟨h1, tk, es1, hk1⟩ := q.done
  have gen1 : s1.gens = s.gens := by rw [es1]
  have lt1 : s.heap.objs.size < s1.heap.objs.size := q.toInCall.ns.lt
  refine ⟨s1.heap.objs.size, s1.gens.size, cdv, rfl, ⟨_, _, _, Heap.get?_push_size _ rfl, rfl, rfl, rfl⟩, Array.getElem?_push_size .., lt1, by rw [es1], ?_, fun b o e => Heap.get?_push_of_some _ (q.toInCall.keep b o e), ?_⟩
  · exact AllBare.push (by rw [gen1]; exact I.bare) rfl
  · obtain ⟨o, es, ep, ho, r⟩ := q.toInCall.ns
    refine ⟨_, ⟨o, es, ep, Heap.get?_push_of_some _ ho, r⟩, ?_⟩
    exact bindL_get (List.nodup_cons.mpr ⟨by simp, List.nodup_nil⟩) (show ([p0] : List Str)[0]? = some p0 from rfl) (show ([u] : List Value)[0]? = some u from rfl) D.par
end
end Gl

namespace Gl
open PySem PySem.Spec PyProof.Rows L2 GenW
section
variable {X : Cx} {pins : List (Addr × Obj)} {σ : L2.St} {H : Hp} {s : Shared}
theorem inv_gens {s0 s' : Shared} (I : Inv X pins σ H s0) (e : ∃ G, s0 = { s' with gens := G }) (hb : AllBare s'.gens) : Inv X pins σ H s' := by
  obtain ⟨G, rfl⟩ := e
  exact ⟨I.ok, I.os, hb, I.base, I.loc, I.cell, I.free, I.freeC, I.pin, I.hok, I.len⟩
/-- an address of the generator's own -/
structure Own (X : Cx) (pins : List (Addr × Obj)) (H : Hp) (b : Addr) : Prop where
  un : H b = none
  loc : b ≠ X.env.locals
  fs : b ∉ X.fs
  cell : ∀ x c, X.env.cells.lookup x = some c → c ≠ b
  pin : ∀ p ∈ X.pn ++ pins, p.1 ≠ b
theorem back_any {ch : List Addr} {s4 s5 : Shared} {H' : Hp} (I : Inv X pins σ H s) (Ef : Eff X.base X.stack ch s s4) (k5 : ∀ b o, s4.heap.get? b = some o → s5.heap.get? b = some o) (os5 : s5.os = s4.os) (b5 : AllBare s5.gens)
    (hch : ∀ b ∈ ch, Own X pins H b ∧ X.s_0.heap.objs.size ≤ b) (hH : ∀ b o, s.heap.get? b = some o → H' b = H b) (hsub : ∀ b u, H b = some u → H' b = some u)
    (new : ∀ b u, H' b = some u → H b = none → ObjOk X.prog X.w H' s5.heap b u) : Inv X pins σ H' s5 := by
  have nfr : ∀ b u, H b = some u → b ∉ frs X.stack := fun b u e hm => by
    have := I.stkFree b hm
    rw [e] at this; cases this
  have nch : ∀ b u, H b = some u → b ∉ ch := fun b u e hm => by
    have := (hch b hm).1.un
    rw [e] at this; cases this
  refine I.call' (ch := ch) (os5.trans Ef.os) ⟨fun b o e n nf nx => k5 b o (Ef.keep b o e nx nf), fun b o e n hb _ => ?_, fun b o e n _ => ?_, fun b o e nx => ?_, fun b ys e => hsub b _ e, fun b o u e => hsub b _ e, fun b ps e => ⟨#[], by rw [Array.append_empty]; exact hsub b _ e⟩⟩ (fun b u e => ?_) b5 fun b hb => ?_
  · obtain ⟨sl, q⟩ := Ef.slot b o e hb
    exact ⟨sl, k5 b _ q⟩
  · rw [hH b o e]; exact n
  · by_cases hf : b ∈ frs X.stack
    · obtain ⟨sl, q⟩ := Ef.slot b o e hf
      exact ⟨_, k5 b _ q⟩
    · exact ⟨o, k5 b o (Ef.keep b o e nx hf)⟩
  · cases q : H b with
    | none => exact new b u e q
    | some u' =>
      have e2 := hsub b u' q
      rw [e] at e2
      cases e2
      refine (I.hok b u q).stay (fun c v hc hv => ?_) (fun c hc => hsub c _ hc) fun c ys hc => hsub c _ hc
      have hu : ∃ u2, H c = some u2 := by
        rcases hc with rfl | hc
        · exact ⟨u, q⟩
        · exact ⟨_, hc⟩
      obtain ⟨u2, hu⟩ := hu
      exact k5 c v (Ef.keep c v hv (nch c u2 hu) (nfr c u2 hu))
  · obtain ⟨o1, o2⟩ := hch b hb
    exact ⟨.inr o2, o1.loc, o1.cell, o1.pin⟩
end
/-- the text of a generator def whose loop goes over zip(x, x[1:]) and hands out the pairs -/
structure GT (P : Program) (w : World) (K : PySem.W.Frag) (mg : Str → Option Value) (base : Heap) (x qual : Str) (st : Stmt) (f : Addr) (fd : FuncData) (N : List Str) (p0 : Str) (tg iter e : Expr) (yp ypos fpos : Pos) (g : TG) (te : TE) (wi : TI) : Prop where
  D : GDef K x qual st f fd N p0
  body : defBody st = [.For tg iter (gBody e yp ypos) [] fpos]
  hs : ∀ env v, foldedSetIterable iter env v = pure v
  int : ∀ L cd, interactive (envOfC qual (defScope st) L f cd) = false
  hg : ∀ A' L cd outer s0 H0, PG (gX P w K mg base N A' (envOfC qual (defScope st) L f cd) outer s0 H0) tg g
  he : ∀ A' L cd outer s0 H0, PE (gX P w K mg base N A' (envOfC qual (defScope st) L f cd) outer s0 H0) e te
  hi : ∀ A' L cd outer s0 H0, PI (gX P w K mg base N A' (envOfC qual (defScope st) L f cd) outer s0 H0) tg iter wi
  r1 : ∀ (H : Hp) (lo : Addr) (xs : List V) (R : It → Hp → Prop), SqL K H lo xs → (∀ sl, H sl = none → R (Itz K lo sl) (upd H sl (.lst (xs.drop 1)))) → wi (some (.ref lo) :: List.replicate (N.length - 1) none) H R
  r2 : ∀ (σ : L2.St) (H : Hp) (T : Addr) (a b : V) (R : VK), σ.length = N.length → H T = none → (∀ p, upd H T (.tup [a, b]) p = none → R (.ref p) (upd (upd H T (.tup [a, b])) p (.tup [a, b]))) → g (.ref T) σ (upd H T (.tup [a, b])) fun σ2 H2 => te σ2 H2 R
section
variable {P : Program} {w : World} {K : PySem.W.Frag} {mg : Str → Option Value} {base : Heap} {x qual : Str} {st : Stmt} {f : Addr} {fd : FuncData} {N : List Str} {p0 : Str} {tg iter e : Expr} {yp ypos fpos : Pos} {g : TG} {te : TE} {wi : TI}
/-- the generator asleep, i items handed out -/
structure Slp (P : Program) (w : World) (K : PySem.W.Frag) (base : Heap) (tg e : Expr) (yp ypos : Pos) (A : Around) (env : Env) (outer : List Env) (lo : Addr) (ys : List V) (i : Nat) (gs : GenState) (h : Heap) (fp : List Addr) (sl : Addr) : Prop where
  ex : ∃ (it : Addr) (tn : Nat → Heap → Prop) (fs : List Frame) (k : Resume → Sem PySem.Fin) (l : List Value) (p : Pos), gs = .suspended k l (gLoop tg e yp ypos it env) p fs false ∧ splitAtGen fs = none ∧ fs.any Frame.guarded = false ∧ Ends P w A fs ∧
    A.over (gLoop tg e yp ypos it env) fs = A.deeper env ∧ Again P w A (gLoop tg e yp ypos it env) fs k ∧ Turn P w K tg (Itz K lo sl) fp it tn ∧ tn i h
  fpo : ∀ b ∈ fp, b ≠ env.locals ∧ b ∉ frs outer ∧ env.locals ≤ b
  lst : ∃ o, h.get? sl = some o ∧ IsL o ys
  slfp : sl ∉ fp
  slL : sl ≠ env.locals
  slb : base.get? sl = none
  slfs : sl ∉ frs outer
  ns : ∃ m, h.Ns env.locals m
theorem Slp.keep {A : Around} {env : Env} {outer : List Env} {lo : Addr} {ys : List V} {i : Nat} {gs : GenState} {h h' : Heap} {fp : List Addr} {sl : Addr} (S : Slp P w K base tg e yp ypos A env outer lo ys i gs h fp sl)
    (k : ∀ b ∈ env.locals :: sl :: fp, ∀ o, h.get? b = some o → h'.get? b = some o) : Slp P w K base tg e yp ypos A env outer lo ys i gs h' fp sl := by
  obtain ⟨it, tn, fs, kk, l, p, e1, e2, e3, e4, e5, e6, T, st⟩ := S.ex
  obtain ⟨o, ho, q⟩ := S.lst
  obtain ⟨m, o2, es, ep, ho2, r⟩ := S.ns
  exact ⟨⟨it, tn, fs, kk, l, p, e1, e2, e3, e4, e5, e6, T, T.keep i h h' st fun b hb o q => k b (List.mem_cons_of_mem _ (List.mem_cons_of_mem _ hb)) o q⟩, S.fpo, ⟨o, k sl (by simp) o ho, q⟩, S.slfp, S.slL, S.slb, S.slfs, m, o2, es, ep, k _ (by simp) o2 ho2, r⟩
theorem Slp.obj {A : Around} {env : Env} {outer : List Env} {lo : Addr} {ys : List V} {i : Nat} {gs : GenState} {h : Heap} {fp : List Addr} {sl : Addr} (S : Slp P w K base tg e yp ypos A env outer lo ys i gs h fp sl) :
    ∀ b ∈ env.locals :: sl :: fp, ∃ o, h.get? b = some o ∧ ∀ v, o.data ≠ .cell v := by
  intro b hb
  obtain ⟨it, tn, fs, kk, l, p, e1, e2, e3, e4, e5, e6, T, st⟩ := S.ex
  rcases List.mem_cons.mp hb with rfl | hb
  · obtain ⟨m, o, es, ep, ho, hd, _⟩ := S.ns
    exact ⟨o, ho, fun v z => by rw [hd] at z; cases z⟩
  rcases List.mem_cons.mp hb with rfl | hb
  · obtain ⟨o, ho, _, its, n, _, rfl⟩ := S.lst
    exact ⟨_, ho, fun v z => by cases z⟩
  · exact T.obj i h st b hb
/-- what stands of the lists -/
def lsOf (lo : Addr) (xs : List V) (sl : Addr) (ys : List V) : Addr → Option (List V) := fun b => if b = lo then some xs else if b = sl then some ys else none
/-- a new tuple of two in the generator's context stands nowhere of before -/
theorem not_there {A' : Around} {env : Env} {outer : List Env} {s s1 : Shared} {pr : List Addr} {ls : Addr → Option (List V)} {pins : List (Addr × Obj)} {σ : L2.St} {H1 : Hp} {p : Addr} {u : HO}
    (I : Inv (Xz P w K mg base N A' env outer s pr ls) pins σ H1 s1) (hfr : ∀ b ∈ frs outer, b < env.locals) (hpr : ∀ b ∈ pr, H1 b = none) (e1 : H1 p = some u) (hu : ∀ o v, u ≠ .frz o v) : s.heap.get? p = none := by
  cases q : s.heap.get? p with
  | none => rfl
  | some o =>
    have h1 : p ∉ env.locals :: pr := fun hm => by
      rcases List.mem_cons.mp hm with rfl | hm
      · rw [show H1 env.locals = none from I.free] at e1; cases e1
      · rw [hpr p hm] at e1; cases e1
    have h2 : p ∉ frs outer := fun hm => by
      have := I.base.free p o (by show (cut s.heap env.locals).get? p = _; rw [cut_lt (hfr p hm)]; exact q) (fz_fs hm) (fun z => by cases z)
      rw [e1] at this; cases this
    have h3 : base.get? p = none := by
      cases qb : base.get? p with
      | none => rfl
      | some ob =>
        have := (I.bs p ob qb).2
        rw [e1] at this; cases this
    obtain ⟨v, hv⟩ := fz_get (ls := ls) q h1 h2 h3
    have := I.base.frzs p o v hv
    rw [e1] at this
    exact absurd (Option.some.inj this) (hu o v)
end
section
theorem ok_some {P : Program} {w : World} {H : Hp} {h : Heap} {a : Addr} {o : HO} (x : ObjOk P w H h a o) : ∃ ob, h.get? a = some ob := by
  cases o with
  | lst xs => obtain ⟨_, _, _, _, e⟩ := x; exact ⟨_, e⟩
  | tup xs => obtain ⟨_, _, _, ob, e, _⟩ := x; exact ⟨ob, e⟩
  | dK kvs => obtain ⟨_, _, _, _, ob, _, _, e, _⟩ := x; exact ⟨ob, e⟩
  | dT kvs => obtain ⟨_, _, _, _, ob, _, _, e, _⟩ := x; exact ⟨ob, e⟩
  | set S n => obtain ⟨ob, _, _, _, e, _⟩ := x; exact ⟨ob, e⟩
  | ins C dx fs => obtain ⟨_, _, _, e, _⟩ := x; exact ⟨_, e⟩
  | own y => obtain ⟨ob, e⟩ := x; exact ⟨ob, e⟩
  | xd fs => obtain ⟨_, ⟨ob, _, _, e, _⟩, _⟩ := x; exact ⟨ob, e⟩
  | rng lo hi => obtain ⟨_, _, _, e⟩ := x; exact ⟨_, e⟩
  | frz ob u => exact ⟨ob, x.1⟩
  | tbl ps => exact ⟨_, (show h.get? a = some _ from x)⟩
  | met f y => exact ⟨_, (show h.get? a = some _ from x)⟩
  | ext φ => exact x.2.1
variable {X : Cx} {pins : List (Addr × Obj)} {σ : L2.St} {H : Hp} {s : Shared}
theorem new_none {b : Addr} (I : Inv X pins σ H s) (h : s.heap.get? b = none) : H b = none := by
  cases q : H b with
  | none => rfl
  | some u =>
    obtain ⟨ob, e⟩ := ok_some (I.hok b u q)
    rw [h] at e; cases e
theorem own_new {b : Addr} (I : Inv X pins σ H s) (h : s.heap.get? b = none) : Own X pins H b where
  un := new_none I h
  loc := fun z => by
    obtain ⟨m, ⟨o, _, _, ho, _⟩, _⟩ := I.loc
    rw [← z, h] at ho; cases ho
  fs := fun z => by
    obtain ⟨_, o, ho, _⟩ := I.funs.mem z
    rw [h] at ho; cases ho
  cell := fun y c e z => by
    obtain ⟨v, o, ho, _⟩ := I.cell y c e
    rw [z, h] at ho; cases ho
  pin := fun p hp z => by
    have := (I.pin p hp).1
    rw [z, h] at this; cases this
theorem Own.up {b p : Addr} {o : HO} (h : Own X pins H b) (hb : b ≠ p) : Own X pins (upd H p o) b := ⟨by rw [upd_ne hb]; exact h.un, h.loc, h.fs, h.cell, h.pin⟩
end
section
variable {X : Cx} {pins : List (Addr × Obj)} {σ : L2.St} {H : Hp} {s : Shared} {k : Nat} {x qual : Str} {st : Stmt} {f : Addr} {fd : FuncData} {N : List Str} {p0 : Str} {tg iter e : Expr} {yp ypos fpos : Pos} {g : TG} {te : TE} {wi : TI}
/-- a turn's end: the next pair, or nothing -/
def Turned (X : Cx) (pins : List (Addr × Obj)) (σ : L2.St) (H : Hp) (tg e : Expr) (yp ypos : Pos) (env : Env) (a : Addr) (gn : Nat) (lo : Addr) (xs : List V) (i : Nat) (r : Option Value) (s1 : Shared) : Prop :=
  (∃ (u v : V) (p : Addr) (gs : GenState) (fp : List Addr) (sl : Addr), r = some (.ref p) ∧ xs[i]? = some u ∧ xs[i + 1]? = some v ∧ H p = none ∧ Inv X pins σ (upd H p (.tup [u, v])) s1 ∧ s1.heap.IsGen a gn ∧ s1.gens[gn]? = some gs ∧
    Slp X.prog X.w X.K X.base tg e yp ypos X.A.in1 env X.stack lo (xs.drop 1) (i + 1) gs s1.heap fp sl ∧ (∀ b ∈ a :: env.locals :: sl :: fp, Own X pins (upd H p (.tup [u, v])) b) ∧ a ∉ env.locals :: fp) ∨
  (r = none ∧ xs.length ≤ i + 1 ∧ Inv X pins σ H s1)
theorem drop1 {xs : List V} {i : Nat} : (xs.drop 1)[i]? = xs[i + 1]? := by
  rw [List.getElem?_drop, Nat.add_comm]
theorem itz_go {K : PySem.W.Frag} {H : Hp} {lo sl : Addr} {xs : List V} {i : Nat} (h1 : SqL K H lo xs) (h2 : SqL K H sl (xs.drop 1)) (h : i + 1 < xs.length) : (Itz K lo sl).go i H :=
  ⟨xs, xs.drop 1, xs[i], xs[i + 1], h1, h2, List.getElem?_eq_getElem _, by rw [drop1]; exact List.getElem?_eq_getElem h⟩
theorem itz_stop {K : PySem.W.Frag} {H : Hp} {lo sl : Addr} {xs : List V} {i : Nat} (h1 : SqL K H lo xs) (h2 : SqL K H sl (xs.drop 1)) (h : xs.length ≤ i + 1) : (Itz K lo sl).stop i H :=
  ⟨xs, xs.drop 1, h1, h2, .inr (by rw [List.length_drop]; omega)⟩
theorem same_of_new {H : Hp} {p : Addr} {o : HO} (h : H p = none) : Same H (upd H p o) := fun b u q => by
  rw [upd_ne (fun z => by rw [z, h] at q; cases q)]
  exact q
theorem env0_run {gn : Nat} (I : Inv X pins σ H s) : Env0 X.prog X.w X.K X.mg X.base X.A.in1 X.stack (s.setGen gn .running) H :=
  ⟨I.env0.frames, I.env0.mod, I.env0.bs, I.env0.bsz, I.env0.funs, I.env0.frf, I.env0.hok, allBare_setGen I.bare rfl⟩
theorem isl_of {lo : Addr} {xs : List V} (I : Inv X pins σ H s) (h : H lo = some (.lst xs)) : ∃ o, s.heap.get? lo = some o ∧ IsL o xs := by
  obtain ⟨z, its, n, r, e⟩ := I.hok lo _ h
  exact ⟨_, e, z, its, n, r, rfl⟩
theorem turned_back {L : Addr} {cd : Value} {a : Addr} {gn lo i : Nat} {xs : List V} {u v : V} {p : Addr} {fp : List Addr} {sl : Addr} {gs : GenState} {s1 : Shared} (I : Inv X pins σ H s) (Ef : Eff X.base X.stack (L :: fp) s s1) (hp : s.heap.get? p = none)
    (ht : ∃ its, Vals [u, v] its ∧ IsTup s1.heap p its.toArray) (hu : xs[i]? = some u) (hv : xs[i + 1]? = some v) (hch : ∀ b ∈ L :: fp, Own X pins H b ∧ X.s_0.heap.objs.size ≤ b) (hgen : s.heap.IsGen a gn) (hag : a ∉ L :: fp) (hafs : a ∉ frs X.stack)
    (hbare : gs.bare = true) (hsz : gn < s1.gens.size) (S : Slp X.prog X.w X.K X.base tg e yp ypos X.A.in1 (envOfC qual (defScope st) L f cd) X.stack lo (xs.drop 1) (i + 1) gs s1.heap fp sl) (hown : ∀ b ∈ a :: L :: sl :: fp, Own X pins H b ∧ b ≠ p) :
    Turned X pins σ H tg e yp ypos (envOfC qual (defScope st) L f cd) a gn lo xs i (some (.ref p)) (s1.setGen gn gs) := by
  have hpn := new_none I hp
  refine .inl ⟨u, v, p, gs, fp, sl, rfl, hu, hv, hpn, ?_, ?_, setGen_at hsz, S, fun b hb => (hown b hb).1.up (hown b hb).2, hag⟩
  · refine back_any (s4 := s1) I Ef (fun b o q => q) rfl (allBare_setGen Ef.bare hbare) hch (fun b o q => ?_) (fun b u q => ?_) fun b u' q n => ?_
    · rw [upd_ne (fun z => by rw [z, hp] at q; cases q)]
    · rw [upd_ne (fun z => by rw [z, hpn] at q; cases q)]
      exact q
    · by_cases hb : b = p
      · subst hb
        rw [upd_same] at q
        cases q
        obtain ⟨its, r, tt⟩ := ht
        exact ⟨by show 2 ≤ sizeLine; decide, its, r, tt⟩
      · rw [upd_ne hb, n] at q
        cases q
  · obtain ⟨o, nm, qn, ho, r⟩ := hgen
    exact ⟨o, nm, qn, Ef.keep a o ho hag hafs, r⟩
theorem next_slp {L : Addr} {cd : Value} {a : Addr} {gn lo i : Nat} {xs : List V} {fp : List Addr} {sl : Addr} {gs : GenState} {E : Value → Shared → Prop} (Tx : GT X.prog X.w X.K X.mg X.base x qual st f fd N p0 tg iter e yp ypos fpos g te wi) (hr : Room k X.A) (I : Inv X pins σ H s)
    (hlo : H lo = some (.lst xs)) (hL1 : ∀ b ∈ frs X.stack, b < L) (hL2 : X.base.objs.size ≤ L) (hL3 : X.s_0.heap.objs.size ≤ L) (hgen : s.heap.IsGen a gn) (hgs : s.gens[gn]? = some gs)
    (S : Slp X.prog X.w X.K X.base tg e yp ypos X.A.in1 (envOfC qual (defScope st) L f cd) X.stack lo (xs.drop 1) i gs s.heap fp sl) (hown : ∀ b ∈ a :: L :: sl :: fp, Own X pins H b) (hag : a ∉ L :: fp) (hafs : a ∉ frs X.stack) :
    wpAny (model X.prog X.w) X.A (pyNext (.ref a)) (Turned X pins σ H tg e yp ypos (envOfC qual (defScope st) L f cd) a gn lo xs i) E s := by
  obtain ⟨it, tn, fs, kk, l, pp, rfl, e2, e3, e4, e5, e6, T, stn⟩ := S.ex
  obtain ⟨m, hm⟩ := S.ns
  have e0 := env0_run (gn := gn) I
  have hgl : gn < s.gens.size := (Array.getElem?_eq_some_iff.mp hgs).1
  have hls : ∀ b ys, lsOf lo xs sl (xs.drop 1) b = some ys → ∃ o, (s.setGen gn .running).heap.get? b = some o ∧ IsL o ys := fun b ys q => by
    unfold lsOf at q
    by_cases h1 : b = lo
    · rw [if_pos h1] at q
      cases q
      rw [h1]
      have := isl_of I hlo
      exact this
    · rw [if_neg h1] at q
      by_cases h2 : b = sl
      · rw [if_pos h2] at q
        cases q
        rw [h2]
        exact S.lst
      · rw [if_neg h2] at q
        cases q
  have Ig := inv_fz (N := N) (σ := List.replicate N.length none) (pr := fp) (genv Tx.D L cd) e0 hL1 hL2 hr.hd (Around.frames_deeper (env := envOfC qual (defScope st) L f cd) e0.frames) hr.hd hls (by simp) ⟨m, hm, fun j y z h1 h2 _ => by
    rw [List.getElem?_replicate] at h2
    split at h2 <;> cases h2⟩
  have hlo0 : ∀ b ∈ L :: fp, b ≠ lo := fun b hb z => by
    have := (hown b (by rcases List.mem_cons.mp hb with q | q <;> simp [q])).un
    rw [z, hlo] at this; cases this
  obtain ⟨olo, hol, _⟩ := isl_of I hlo
  have hlob : X.base.get? lo = none := by
    cases q : X.base.get? lo with
    | none => rfl
    | some o =>
      have := (I.bs lo o q).2
      rw [hlo] at this; cases this
  have hlof : lo ∉ frs X.stack := fun z => by
    have := I.stkFree lo z
    rw [hlo] at this; cases this
  have slo : sl ≠ lo := fun z => by
    have := (hown sl (by simp)).un
    rw [z, hlo] at this; cases this
  obtain ⟨osl, hosl, _⟩ := S.lst
  have q1 : SqL X.K (Hz (envOfC qual (defScope st) L f cd) X.base X.stack (s.setGen gn .running) fp (lsOf lo xs sl (xs.drop 1))) lo xs :=
    .inl (.inr ⟨olo, fz_lst hol (fun z => hlo0 lo z rfl) hlof hlob (if_pos rfl)⟩)
  have q2 : SqL X.K (Hz (envOfC qual (defScope st) L f cd) X.base X.stack (s.setGen gn .running) fp (lsOf lo xs sl (xs.drop 1))) sl (xs.drop 1) := by
    refine .inl (.inr ⟨osl, fz_lst hosl (fun z => ?_) S.slfs S.slb ?_⟩)
    · rcases List.mem_cons.mp z with q | q
      · exact S.slL q
      · exact S.slfp q
    · unfold lsOf
      rw [if_neg slo, if_pos rfl]
  have hf : ∀ b ∈ fp, FpOk (Xz X.prog X.w X.K X.mg X.base N (X.A.in1.deeper (envOfC qual (defScope st) L f cd)) (envOfC qual (defScope st) L f cd) X.stack (s.setGen gn .running) fp (lsOf lo xs sl (xs.drop 1))) [] (Hz (envOfC qual (defScope st) L f cd) X.base X.stack (s.setGen gn .running) fp (lsOf lo xs sl (xs.drop 1))) b := fun b hb => by
    obtain ⟨z1, z2, z3⟩ := S.fpo b hb
    refine ⟨fz_pr (List.mem_cons_of_mem _ hb), z1, z2, .inr ?_, fun y c z => ?_, fun p hp => ?_⟩
    · show (cut s.heap L).objs.size ≤ b
      have ec : (cut s.heap L).objs.size = L := cut_size (Nat.le_of_lt hm.lt)
      rw [ec]
      exact z3
    · have z : (cellsFrom (L + 1) (defScope st).names []).lookup y = some c := z
      rw [cells_nil Tx.D.loc] at z
      cases z
    · exact absurd (show p ∈ ([] : List (Addr × Obj)) from hp) (by simp)
  have hch : ∀ b ∈ L :: fp, Own X pins H b ∧ X.s_0.heap.objs.size ≤ b := fun b hb => by
    refine ⟨hown b (by rcases List.mem_cons.mp hb with q | q <;> simp [q]), ?_⟩
    rcases List.mem_cons.mp hb with q | q
    · rw [q]; exact hL3
    · exact Nat.le_trans hL3 (S.fpo b q).2.2
  have efs : ∀ {s1 : Shared}, Eff X.base X.stack (L :: fp) (s.setGen gn .running) s1 → Eff X.base X.stack (L :: fp) s s1 := fun z => ⟨z.os, z.bare, z.keep, z.slot⟩
  refine wpAny_gsz (n := gn + 1) hgl ?_
  refine next_gl (Φ := fun ee s1 => (∃ ps k' l' pos u v, ee = .susp (.ref ps) false l' k' (gLoop tg e yp ypos it (envOfC qual (defScope st) L f cd)) pos fs ∧ xs[i]? = some u ∧ xs[i + 1]? = some v ∧ s.heap.get? ps = none ∧ Eff X.base X.stack (L :: fp) s s1 ∧
      (∃ its, Vals [u, v] its ∧ IsTup s1.heap ps its.toArray) ∧ tn (i + 1) s1.heap ∧ Again X.prog X.w X.A.in1 (gLoop tg e yp ypos it (envOfC qual (defScope st) L f cd)) fs k' ∧ ∃ m, s1.heap.Ns L m) ∨
    (ee = .ret (.ok (.ret .none)) ∧ xs.length ≤ i + 1 ∧ Eff X.base X.stack (L :: fp) s s1)) hr.hd I.nolimit (by have := hr.dp; omega) hgen hgs ?_ ?_
  · refine e6 _ _ ?_
    by_cases hlen : i + 1 < xs.length
    · refine sg_item (A' := X.A.in1.deeper (envOfC qual (defScope st) L f cd)) e5 e2 e3 Tx.D.co (Tx.int L cd) (fun s0 H0 => Tx.hg _ L cd _ s0 H0) (fun s0 H0 => Tx.he _ L cd _ s0 H0) T Ig hf stn (itz_go q1 q2 hlen)
        (Post := fun y H3 => ∃ TT a b p, y = .ref p ∧ H3 p = some (.tup [a, b]) ∧ xs[i]? = some a ∧ xs[i + 1]? = some b ∧ H3 = upd (upd (Hz (envOfC qual (defScope st) L f cd) X.base X.stack (s.setGen gn .running) fp (lsOf lo xs sl (xs.drop 1))) TT (.tup [a, b])) p (.tup [a, b])) ?_ ?_
      · rintro y H2 ⟨TT, a', b', rfl, ht, rfl, g1, g2⟩
        exact Tx.r2 _ _ TT a' b' _ (by simp) ht fun p hp => ⟨TT, a', b', p, rfl, upd_same, g1 xs q1, by rw [← drop1]; exact g2 _ q2, rfl⟩
      · rintro v y σ1 pins1 H3 s1 I1 st1 fr1 rv ⟨TT, a', b', p, rfl, hp3, g1, g2, rfl⟩ k' l' pos ag
        obtain rfl : v = Value.ref p := rv
        obtain ⟨_, its, r, tt⟩ := I1.hok p _ hp3
        obtain ⟨m1, hm1, _⟩ := I1.loc
        exact .inl ⟨p, k', l', pos, a', b', rfl, g1, g2, not_there (s := s.setGen gn .running) I1 hL1 fr1 hp3 (fun o v z => by cases z), efs (eff_of e0 hL1 hL2 I1), ⟨its, r, tt⟩, st1, ag, m1, hm1⟩
    · exact sg_stop e5 T Ig hf stn (itz_stop q1 q2 (by omega)) e4 fun s1 I1 => .inr ⟨rfl, by omega, efs (eff_of e0 hL1 hL2 I1)⟩
  · rintro ee s1 (⟨ps, k', l', pos, u, v, rfl, g1, g2, hps, Ef, ht, st1, ag, hns1⟩ | ⟨rfl, hlen, Ef⟩)
    · refine .inl ⟨.ref ps, l', k', _, pos, fs, rfl, e3, fun hsz => ?_⟩
      have egs : (End.susp (.ref ps) false l' k' (gLoop tg e yp ypos it (envOfC qual (defScope st) L f cd)) pos fs).genState = .suspended k' l' (gLoop tg e yp ypos it (envOfC qual (defScope st) L f cd)) pos fs false := by
        show GenState.suspended _ _ _ _ _ (false || fs.any Frame.guarded) = _
        rw [e3]
        rfl
      rw [egs] at hsz ⊢
      rw [setGen_size] at hsz
      have ksl : s1.heap.get? sl = some osl := Ef.keep sl osl hosl (fun z => by
        rcases List.mem_cons.mp z with q | q
        · exact S.slL q
        · exact S.slfp q) S.slfs
      obtain ⟨osl', hosl', isl'⟩ := S.lst
      rw [hosl] at hosl'
      cases hosl'
      refine turned_back I Ef hps ht g1 g2 hch hgen hag hafs rfl hsz ⟨⟨it, tn, fs, k', l', pos, rfl, e2, e3, e4, e5, ag, T, st1⟩, S.fpo, ⟨osl, ksl, isl'⟩, S.slfp, S.slL, S.slb, S.slfs, hns1⟩ fun b hb => ⟨hown b hb, fun z => ?_⟩
      rw [z] at hb
      rcases List.mem_cons.mp hb with q | hb
      · obtain ⟨o, _, _, ho, _⟩ := hgen
        rw [← q, hps] at ho; cases ho
      rcases List.mem_cons.mp hb with q | hb
      · obtain ⟨o, _, _, ho, _⟩ := hm
        have ho : s.heap.get? L = some o := ho
        rw [← q, hps] at ho; cases ho
      rcases List.mem_cons.mp hb with q | hb
      · rw [← q, hps] at hosl; cases hosl
      · obtain ⟨o, ho, _⟩ := T.obj i _ stn ps hb
        rw [hps] at ho; cases ho
    · refine .inr ⟨rfl, fun h' hk _ => .inr ⟨rfl, hlen, ?_⟩⟩
      exact back_any (s4 := s1) I Ef hk rfl (allBare_setGen Ef.bare rfl) hch (fun b o q => rfl) (fun b u q => q) fun b u q n => by rw [n] at q; cases q
theorem next_new {L : Addr} {cd : Value} {a : Addr} {gn lo : Nat} {xs : List V} {E : Value → Shared → Prop} (Tx : GT X.prog X.w X.K X.mg X.base x qual st f fd N p0 tg iter e yp ypos fpos g te wi) (hr : Room k X.A) (I : Inv X pins σ H s)
    (hlo : H lo = some (.lst xs)) (hL1 : ∀ b ∈ frs X.stack, b < L) (hL2 : X.base.objs.size ≤ L) (hL3 : X.s_0.heap.objs.size ≤ L) (hgen : s.heap.IsGen a gn)
    (hgs : s.gens[gn]? = some (.fresh (.func (defBody st) (envOfC qual (defScope st) L f cd)))) (hns : ∃ m, s.heap.Ns L m ∧ m p0 = some (.ref lo)) (hown : ∀ b ∈ [a, L], Own X pins H b) (haL : a ≠ L) (hafs : a ∉ frs X.stack) (hab : X.base.get? a = none) :
    wpAny (model X.prog X.w) X.A (pyNext (.ref a)) (Turned X pins σ H tg e yp ypos (envOfC qual (defScope st) L f cd) a gn lo xs 0) E s := by
  obtain ⟨m, hm, hmp⟩ := hns
  have e0 := env0_run (gn := gn) I
  have hgl : gn < s.gens.size := (Array.getElem?_eq_some_iff.mp hgs).1
  have hls : ∀ b ys, lsOf lo xs lo xs b = some ys → ∃ o, (s.setGen gn .running).heap.get? b = some o ∧ IsL o ys := fun b ys q => by
    unfold lsOf at q
    by_cases h1 : b = lo
    · rw [if_pos h1] at q
      cases q
      rw [h1]
      have := isl_of I hlo
      exact this
    · rw [if_neg h1, if_neg h1] at q
      cases q
  have hN : N = p0 :: N.drop 1 := by
    have := List.take_append_drop 1 N
    rw [Tx.D.pre] at this
    exact this.symm
  have Ig := inv_fz (N := N) (σ := some (.ref lo) :: List.replicate (N.length - 1) none) (pr := []) (genv Tx.D L cd) e0 hL1 hL2 hr.hd (Around.frames_deeper (env := envOfC qual (defScope st) L f cd) e0.frames) hr.hd hls (by
    rw [hN]
    simp) ⟨m, hm, fun j y z h1 h2 _ => by
    cases j with
    | zero =>
      rw [hN] at h1
      cases h1
      cases h2
      exact ⟨_, rfl, Tx.D.par, hmp⟩
    | succ j =>
      rw [List.getElem?_cons_succ, List.getElem?_replicate] at h2
      split at h2 <;> cases h2⟩
  obtain ⟨olo, hol, _⟩ := isl_of I hlo
  have hlob : X.base.get? lo = none := by
    cases q : X.base.get? lo with
    | none => rfl
    | some o =>
      have := (I.bs lo o q).2
      rw [hlo] at this; cases this
  have hlof : lo ∉ frs X.stack := fun z => by
    have := I.stkFree lo z
    rw [hlo] at this; cases this
  have hloL : lo ≠ L := fun z => by
    have := (hown L (by simp)).un
    rw [← z, hlo] at this; cases this
  have q1 : SqL X.K (Hz (envOfC qual (defScope st) L f cd) X.base X.stack (s.setGen gn .running) [] (lsOf lo xs lo xs)) lo xs :=
    .inl (.inr ⟨olo, fz_lst hol (fun z => hloL (List.mem_singleton.mp z)) hlof hlob (if_pos rfl)⟩)
  have efs : ∀ {s1 : Shared}, Eff X.base X.stack [L] (s.setGen gn .running) s1 → Eff X.base X.stack [L] s s1 := fun z => ⟨z.os, z.bare, z.keep, z.slot⟩
  have hch : ∀ b ∈ [L], Own X pins H b ∧ X.s_0.heap.objs.size ≤ b := fun b hb => by
    obtain rfl := List.mem_singleton.mp hb
    exact ⟨hown b (by simp), hL3⟩
  refine wpAny_gsz (n := gn + 1) hgl ?_
  refine next_gl (Φ := fun ee s1 => (∃ ps k' l' pos u v it fp tn sl fs, ee = .susp (.ref ps) false l' k' (gLoop tg e yp ypos it (envOfC qual (defScope st) L f cd)) pos fs ∧ splitAtGen fs = none ∧ fs.any Frame.guarded = false ∧ Ends X.prog X.w X.A.in1 fs ∧
      X.A.in1.over (gLoop tg e yp ypos it (envOfC qual (defScope st) L f cd)) fs = X.A.in1.deeper (envOfC qual (defScope st) L f cd) ∧ xs[0]? = some u ∧ xs[0 + 1]? = some v ∧ s.heap.get? ps = none ∧ Eff X.base X.stack [L] s s1 ∧
      (∃ its, Vals [u, v] its ∧ IsTup s1.heap ps its.toArray) ∧ Turn X.prog X.w X.K tg (Itz X.K lo sl) fp it tn ∧ tn (0 + 1) s1.heap ∧ Again X.prog X.w X.A.in1 (gLoop tg e yp ypos it (envOfC qual (defScope st) L f cd)) fs k' ∧ (∃ m, s1.heap.Ns L m) ∧
      (∀ b ∈ fp, b ≠ L ∧ L ≤ b ∧ s.heap.get? b = none ∧ b ∉ frs X.stack ∧ b ≠ ps) ∧ s.heap.get? sl = none ∧ sl ∉ fp ∧ sl ≠ ps ∧ ∃ o, s1.heap.get? sl = some o ∧ IsL o (xs.drop 1)) ∨
    (ee = .ret (.ok (.ret .none)) ∧ xs.length ≤ 0 + 1 ∧ Eff X.base X.stack [L] s s1)) hr.hd I.nolimit (by have := hr.dp; omega) hgen hgs ?_ ?_
  · show Sg _ X.A.in1 _ (.func (defBody st) _) _ [] _
    rw [Tx.body]
    refine sg_first (tg := tg) (e := e) (yp := yp) (ypos := ypos) (N := N) (R := fun J H1 => ∃ sl, J = Itz X.K lo sl ∧ (Hz (envOfC qual (defScope st) L f cd) X.base X.stack (s.setGen gn .running) [] (lsOf lo xs lo xs)) sl = none ∧
      H1 = upd (Hz (envOfC qual (defScope st) L f cd) X.base X.stack (s.setGen gn .running) [] (lsOf lo xs lo xs)) sl (.lst (xs.drop 1))) (Tx.hs _) Ig (Tx.hi _ L cd _ _ _) (Tx.r1 _ lo xs _ q1 fun sl hsl => ⟨sl, rfl, hsl, rfl⟩) ?_
    rintro it fp tn J H1 s1 I1 T stn hf ⟨sl, rfl, hsl, rfl⟩ fs e2 e3 e4 e5
    have q1' : SqL X.K (upd (Hz (envOfC qual (defScope st) L f cd) X.base X.stack (s.setGen gn .running) [] (lsOf lo xs lo xs)) sl (.lst (xs.drop 1))) lo xs := (same_of_new hsl).seq q1
    have q2' : SqL X.K (upd (Hz (envOfC qual (defScope st) L f cd) X.base X.stack (s.setGen gn .running) [] (lsOf lo xs lo xs)) sl (.lst (xs.drop 1))) sl (xs.drop 1) := .inl (.inl upd_same)
    have nth : ∀ {p u}, (upd (Hz (envOfC qual (defScope st) L f cd) X.base X.stack (s.setGen gn .running) [] (lsOf lo xs lo xs)) sl (.lst (xs.drop 1))) p = some u → (∀ o v, u ≠ .frz o v) → s.heap.get? p = none := fun {p u} z1 z2 =>
      not_there (s := s.setGen gn .running) I1 hL1 (fun b z => by cases z) z1 z2
    have hsln := nth upd_same (fun o v z => by cases z)
    by_cases hlen : 0 + 1 < xs.length
    · refine sg_item (A' := X.A.in1.deeper (envOfC qual (defScope st) L f cd)) e5 e2 e3 Tx.D.co (Tx.int L cd) (fun s0 H0 => Tx.hg _ L cd _ s0 H0) (fun s0 H0 => Tx.he _ L cd _ s0 H0) T I1 hf stn (itz_go q1' q2' hlen)
        (Post := fun y H3 => ∃ TT a b p, y = .ref p ∧ H3 p = some (.tup [a, b]) ∧ xs[0]? = some a ∧ xs[0 + 1]? = some b ∧ sl ≠ p ∧ H3 sl = some (.lst (xs.drop 1)) ∧
          H3 = upd (upd (upd (Hz (envOfC qual (defScope st) L f cd) X.base X.stack (s.setGen gn .running) [] (lsOf lo xs lo xs)) sl (.lst (xs.drop 1))) TT (.tup [a, b])) p (.tup [a, b])) ?_ ?_
      · rintro y H2 ⟨TT, a', b', rfl, ht, rfl, g1, g2⟩
        have nT : sl ≠ TT := fun z => by rw [← z, upd_same] at ht; cases ht
        refine Tx.r2 _ _ TT a' b' _ (by rw [hN]; simp) ht fun p hp => ?_
        have np : sl ≠ p := fun z => by
          rw [← z, upd_ne nT, upd_same] at hp
          cases hp
        exact ⟨TT, a', b', p, rfl, upd_same, g1 xs q1', by rw [← drop1]; exact g2 _ q2', np, by rw [upd_ne np, upd_ne nT, upd_same], rfl⟩
      · rintro v y σ1 pins1 H3 s2 I2 st2 fr2 rv ⟨TT, a', b', p, rfl, hp3, g1, g2, np, hs3, rfl⟩ k' l' pos ag
        obtain rfl : v = Value.ref p := rv
        obtain ⟨_, its, r, tt⟩ := I2.hok p _ hp3
        obtain ⟨z9, itl, nl, rl, el⟩ := I2.hok sl _ hs3
        obtain ⟨m1, hm1, _⟩ := I2.loc
        have nsl : sl ∉ fp := fun z => by
          have := (hf sl z).1
          rw [upd_same] at this; cases this
        refine .inl ⟨p, k', l', pos, a', b', it, fp, tn, sl, fs, rfl, e2, e3, e4, e5, g1, g2, not_there (s := s.setGen gn .running) I2 hL1 (fun b z => by cases z) hp3 (fun o v z => by cases z), efs (eff_of e0 hL1 hL2 I2), ⟨its, r, tt⟩, T, st2, ag, ⟨m1, hm1⟩, fun b hb => ?_, hsln, nsl, np, _, el, z9, itl, nl, rl, rfl⟩
        obtain ⟨z1, z2, z3, z4, _⟩ := hf b hb
        have hLb : L ≤ b := by
          rcases z4 with z | z
          · exact absurd (show b ∈ ([] : List Addr) from z) (by simp)
          · have ec : (cut s.heap L).objs.size = L := cut_size (Nat.le_of_lt hm.lt)
            have z : (cut s.heap L).objs.size ≤ b := z
            rwa [ec] at z
        refine ⟨z2, hLb, ?_, z3, fun z => ?_⟩
        · cases q : s.heap.get? b with
          | none => rfl
          | some o =>
            have hbb : X.base.get? b = none := by
              cases qb : X.base.get? b with
              | none => rfl
              | some ob =>
                have := Heap.lt_size qb
                exact absurd (Nat.lt_of_lt_of_le this (Nat.le_trans hL2 hLb)) (Nat.lt_irrefl _)
            obtain ⟨u', hu'⟩ := fz_get (h := s.heap) (base := X.base) (fs := frs X.stack) (pr := [L]) (ls := lsOf lo xs lo xs) q (fun z => z2 (List.mem_singleton.mp z)) z3 hbb
            have hu' : (Hz (envOfC qual (defScope st) L f cd) X.base X.stack (s.setGen gn .running) [] (lsOf lo xs lo xs)) b = some (.frz o u') := hu'
            have nb : b ≠ sl := fun z => nsl (by rw [← z]; exact hb)
            rw [upd_ne nb, hu'] at z1
            cases z1
        · have := fr2 b hb
          rw [z, upd_same] at this
          cases this
    · exact sg_stop e5 T I1 hf stn (itz_stop q1' q2' (by omega)) e4 fun s2 I2 => .inr ⟨rfl, by omega, efs (eff_of e0 hL1 hL2 I2)⟩
  · rintro ee s1 (⟨ps, k', l', pos, u, v, it, fp, tn, sl, fs, rfl, e2, e3, e4, e5, g1, g2, hps, Ef, ht, T, st1, ag, hns1, hfp, hsln, nsl, np, isl⟩ | ⟨rfl, hlen, Ef⟩)
    · refine .inl ⟨.ref ps, l', k', _, pos, fs, rfl, e3, fun hsz => ?_⟩
      have egs : (End.susp (.ref ps) false l' k' (gLoop tg e yp ypos it (envOfC qual (defScope st) L f cd)) pos fs).genState = .suspended k' l' (gLoop tg e yp ypos it (envOfC qual (defScope st) L f cd)) pos fs false := by
        show GenState.suspended _ _ _ _ _ (false || fs.any Frame.guarded) = _
        rw [e3]
        rfl
      rw [egs] at hsz ⊢
      rw [setGen_size] at hsz
      obtain ⟨oa, _, _, hoa, _⟩ := hgen
      obtain ⟨oL, _, _, hoL, _⟩ := hm
      have hoL : s.heap.get? L = some oL := hoL
      have Ef2 : Eff X.base X.stack (L :: fp) s s1 := ⟨Ef.os, Ef.bare, fun b o q n nf => Ef.keep b o q (fun z => n (by rw [List.mem_singleton.mp z]; exact List.mem_cons_self)) nf, Ef.slot⟩
      have hslb : X.base.get? sl = none := by
        cases qb : X.base.get? sl with
        | none => rfl
        | some ob =>
          have := (I.bs sl ob qb).1
          rw [hsln] at this; cases this
      have hslf : sl ∉ frs X.stack := fun z => by
        obtain ⟨_, o, ho, _⟩ := I.stack.mem z
        rw [hsln] at ho; cases ho
      have hslL : sl ≠ L := fun z => by rw [z, hoL] at hsln; cases hsln
      have hch2 : ∀ b ∈ L :: fp, Own X pins H b ∧ X.s_0.heap.objs.size ≤ b := fun b hb => by
        rcases List.mem_cons.mp hb with rfl | hb
        · exact ⟨hown b (by simp), hL3⟩
        · obtain ⟨_, z2, z3, _, _⟩ := hfp b hb
          exact ⟨own_new I z3, Nat.le_trans hL3 z2⟩
      refine turned_back I Ef2 hps ht g1 g2 hch2 ⟨oa, _, _, hoa, by assumption⟩ (fun z => ?_) hafs rfl hsz ⟨⟨it, tn, fs, k', l', pos, rfl, e2, e3, e4, e5, ag, T, st1⟩, fun b hb => ⟨(hfp b hb).1, (hfp b hb).2.2.2.1, (hfp b hb).2.1⟩, isl, nsl, hslL, hslb, hslf, hns1⟩ fun b hb => ?_
      · rcases List.mem_cons.mp z with z | z
        · exact haL z
        · rw [(hfp a z).2.2.1] at hoa; cases hoa
      · rcases List.mem_cons.mp hb with rfl | hb
        · exact ⟨hown b (by simp), fun z => by rw [z, hps] at hoa; cases hoa⟩
        rcases List.mem_cons.mp hb with rfl | hb
        · exact ⟨hown b (by simp), fun z => by rw [z, hps] at hoL; cases hoL⟩
        rcases List.mem_cons.mp hb with rfl | hb
        · exact ⟨own_new I hsln, np⟩
        · exact ⟨own_new I (hfp b hb).2.2.1, (hfp b hb).2.2.2.2⟩
    · refine .inr ⟨rfl, fun h' hk _ => .inr ⟨rfl, hlen, ?_⟩⟩
      exact back_any (s4 := s1) I Ef hk rfl (allBare_setGen Ef.bare rfl) hch (fun b o q => rfl) (fun b u q => q) fun b u q n => by rw [n] at q; cases q
end
end Gl

namespace Z
open PySem PySem.Spec PyProof.Rows L2

/-! ### operators -/
section
variable {X : Cx}
def CFd (_ j : Int) : Prop := j ≠ 0 ∧ j.natAbs.log2 < 9000
theorem op_fdivZ : OpR X (binaryOp .FloorDiv) (rI CFd fun i j => .int (i.fdiv j)) := opI fun i j _ _ _ _ _ hc q => floordiv_int hc.1 q (.inl (PyProof.noPylong_of_log2 hc.2))
theorem pe_globE {x : Str} {pos : Pos} {v : V} (h : ∃ u, X.mg x = some u ∧ RelV v u) (hg : Gl X x := by rfl) (hdb : (x == ("__debug__" : Str)) = false := by decide) : PE X (.Name x pos) (tC v) := by
  obtain ⟨u, h1, h2⟩ := h
  exact pe_glob hg h1 h2 hdb
theorem pe_globR {x : Str} {pos : Pos} {a : Addr} (h : X.mg x = some (.ref a)) (hg : Gl X x := by rfl) (hdb : (x == ("__debug__" : Str)) = false := by decide) : PE X (.Name x pos) (tC (.ref a)) := pe_glob hg h rfl hdb
end
/-- an own error class over ValueError -/
structure ExcX (K : PySem.W.Frag) (mg : Str → Option Value) (x : Str) (C : Addr) : Prop where
  g : mg x = some (.ref C)
  q : PySem.W.excIn K C [.type "ValueError", .type "Exception", .type "BaseException", .type "object"] "ValueError.__new__" = true
  k : PySem.W.keepIn K (.ref C) = true
  t : PySem.W.typeIn K (.ref C) = some (.type "type")
  c : ExcC K C
  v : PySem.W.subIn K (.ref C) (.type "ValueError") = some true
section
variable {X : Cx} {C D : Addr} {K : PySem.W.Frag} {mg : Str → Option Value} {x y : Str} {b : Bool}
theorem pmk {m : Str} {j : Nat} {p p2 pos : Pos} (E : ExcX X.K X.mg x C) (hg : Gl X x) (hdb : (x == ("__debug__" : Str)) = false := by decide) :
    PMk X (.Call (.Name x p) [.Constant (.str m) j p2] [] pos) (fun _ H Q => Q (.ref C) none H) := pmk_own PySem.F.excBase_ValueError E.q E.g E.k (raises_own E.c.hs E.t) hg hdb
theorem exm (E : ExcX K mg x C) (h : PySem.W.subIn K (.ref D) (.ref C) = some b) : PySem.W.exmOne K (.ref D) (.ref C) = some b := PySem.W.exm_ref E.c.hs E.c.hd E.t h
theorem kit_own (E : ExcX K mg x C) (h : PySem.W.subIn K (.ref D) (.ref C) = some b) (hs : PySem.W.subIn K (.ref C) (.ref C) = some true) : PySem.W.kitOne K (.ref D) (.ref C) = some b := by
  unfold PySem.W.kitOne
  by_cases e : D = C
  · subst e
    rw [hs] at h
    cases h
    rw [if_pos (by simp)]
  · rw [if_neg (by simpa using e)]
    unfold PySem.W.kitCls
    obtain ⟨cd, hc, _⟩ := PySem.W.any_some E.c.hd
    have e2 : ((PySem.W.clsIn K C).isSome && PySem.W.typeIn K (.ref C) == some (.type "type")) = true := by rw [hc, E.t] <;> rfl
    show (if _ then _ else _) = _
    rw [if_pos e2, h]
theorem kit_ve (E : ExcX K mg x D) : PySem.W.kitOne K (.ref D) (.type "ValueError") = some true := by
  unfold PySem.W.kitOne
  rw [if_neg (by simp)]
  unfold PySem.W.kitCls
  show (if _ then _ else _) = _
  rw [if_pos (by decide +kernel), E.v]
/-- isinstance of the error that a suite holds -/
def rIsEx (K : PySem.W.Frag) (cls : Value) (d : Option Addr) (a : Addr) : List V → Hp → VK → Prop := fun xs H Q => ∃ D, cls = .ref D ∧ d = none ∧ ExcC K D ∧ rIsE K D a xs H Q
theorem call_isE {a : Addr} {oe : Obj} {cls : Value} {d : Option Addr} {pn : List (Addr × Obj)} (hz : Zc cls d oe) (hf : ∃ vs, oe.data = .fields vs) : CallR (X.suite a ((a, oe) :: pn)) (.builtin "isinstance") (rIsEx X.K cls d a) := by
  intro pins s σ H xs us Q I r h
  obtain ⟨D, e1, e2, c, h⟩ := h
  subst e1
  subst e2
  exact L2.call_isE c hz hf pins s σ H xs us Q I r h
end

/-! ### heaps -/
theorem same_upd {H : Hp} {p : Addr} {o : HO} (h : H p = none) : Same H (upd H p o) := fun b x e => by
  rw [upd_ne (ne_of_none e h)]
  exact e
theorem Same.seqT {K : PySem.W.Frag} {H H' : Hp} {a : Addr} {xs : List V} (e : Same H H') (h : SqT K H a xs) : SqT K H' a xs := by
  rcases h with (h | ⟨o, h⟩) | h
  · exact .inl (.inl (e _ _ h))
  · exact .inl (.inr ⟨o, e _ _ h⟩)
  · exact .inr h
theorem seqT {K : PySem.W.Frag} {H H' : Hp} {a : Addr} {xs : List V} (e : Same H H') (h : SqT K H a xs) : SqT K H' a xs := Same.seqT e h
theorem sz {n : Nat} (h : n ≤ 1000) : n ≤ sizeLine := Nat.le_trans h (by decide)

/-! ### readings, step by step -/
def NewT (Q : VK) : List V → Hp → Prop := fun xs H1 => xs.length ≤ sizeLine ∧ ∀ p, H1 p = none → Q (.ref p) (upd H1 p (.tup xs))
def NewL (Q : VK) : List V → Hp → Prop := fun xs H1 => xs.length ≤ sizeLine ∧ ∀ p, H1 p = none → Q (.ref p) (upd H1 p (.lst xs))
section
variable {σ : L2.St} {H : Hp} {n : L2.St → Hp → Prop} {r : VK} {b c : L2.St → Hp → Prop} {t u : TS} {te ta tb : TE} {tt tu : TT} {Q : VK} {QB : Bool → Hp → Prop} {v w x y : V} {i j : Int} {K : PySem.W.Frag}
theorem z_seq (h : t ⟨u ⟨n, r, b, c⟩, r, b, c⟩ σ H) : tSeq t u ⟨n, r, b, c⟩ σ H := h
theorem z_asg {k : Nat} (h : te σ H fun x H1 => n (σ.set k (some x)) H1) : tAsg te (gName k) ⟨n, r, b, c⟩ σ H := h
theorem z_asgS {to ti : TE} {st : TSet} (h : te σ H fun v H0 => to σ H0 fun o H1 => ti σ H1 fun k H2 => st o k v H2 fun H3 => n σ H3) : tAsg te (gSub to ti st) ⟨n, r, b, c⟩ σ H := h
theorem z_drop (h : te σ H fun _ H1 => n σ H1) : tDrop te ⟨n, r, b, c⟩ σ H := h
theorem z_ret (h : te σ H r) : tRet te ⟨n, r, b, c⟩ σ H := h
theorem z_retN (h : r .non H) : tRetN ⟨n, r, b, c⟩ σ H := h
theorem z_next (h : n σ H) : tNext ⟨n, r, b, c⟩ σ H := h
theorem z_brk (h : b σ H) : tBreak ⟨n, r, b, c⟩ σ H := h
theorem z_cont (h : c σ H) : tCont ⟨n, r, b, c⟩ σ H := h
theorem z_ifs (h : tt σ H fun k H1 => if k = true then t ⟨n, r, b, c⟩ σ H1 else u ⟨n, r, b, c⟩ σ H1) : tIfS tt t u ⟨n, r, b, c⟩ σ H := h
theorem z_par {p q : Nat} {tl : TA} (h : tl σ H fun vs H1 => ∃ v w, vs = [v, w] ∧ n ((σ.set p (some v)).set q (some w)) H1) : tPar p q tl ⟨n, r, b, c⟩ σ H := h
theorem z_two {R : V → V → Prop} (h : R v w) : ∃ v' w', [v, w] = [v', w'] ∧ R v' w' := ⟨v, w, rfl, h⟩
theorem z_aug {k : Nat} {ti : TIp} (h : σ[k]? = some (some x)) (q : te σ H fun y H1 => ti x y H1 fun z H2 => n (σ.set k (some z)) H2) : tAug k te ti ⟨n, r, b, c⟩ σ H := ⟨x, h, q⟩
theorem z_ipI {f : Int → Int → Int} (q : Q (.int (f i j)) H) : ipI f (.int i) (.int j) H Q := ⟨i, j, rfl, rfl, q⟩
theorem z_var {k : Nat} (h : σ[k]? = some (some v)) (q : Q v H) : tVar k σ H Q := ⟨v, h, q⟩
theorem z_c (q : Q v H) : tC v σ H Q := q
theorem z_op {g : R2} (h : ta σ H fun x H1 => tb σ H1 fun y H2 => g x y H2 Q) : tOp g ta tb σ H Q := h
theorem z_un {g : V → Hp → VK → Prop} (h : ta σ H fun x H1 => g x H1 Q) : tUn g ta σ H Q := h
theorem z_I0 {g : Int → Int → V} (q : Q (g i j) H) : rI0 g (.int i) (.int j) H Q := ⟨i, j, rfl, rfl, q⟩
theorem z_I {C : Int → Int → Prop} {g : Int → Int → V} (hc : C i j) (q : Q (g i j) H) : rI C g (.int i) (.int j) H Q := ⟨i, j, rfl, rfl, hc, q⟩
theorem z_U {g : Int → V} (q : Q (g i) H) : rU g (.int i) H Q := ⟨i, rfl, q⟩
theorem z_eqI (q : Q (.bl (decide (i = j))) H) : rEq (.int i) (.int j) H Q := ⟨rfl, by rw [show decide (V.int i = V.int j) = decide (i = j) by simp]; exact q⟩
theorem z_neI (q : Q (.bl (decide (¬ i = j))) H) : rNe (.int i) (.int j) H Q := ⟨rfl, by rw [show (!decide (V.int i = V.int j)) = decide (¬ i = j) by simp]; exact q⟩
theorem z_eq (h : scal x y = true) (q : Q (.bl (decide (x = y))) H) : rEq x y H Q := ⟨h, q⟩
theorem z_test (h : te σ H fun x H1 => ∃ k, x = .bl k ∧ QB k H1) : tTest te σ H QB := h
theorem z_tB (h : te σ H fun x H1 => ∃ k, x = .bl k ∧ QB k H1) : tB te σ H QB := h
theorem z_bl {k : Bool} {R : Bool → Prop} (q : R k) : ∃ k', V.bl k = V.bl k' ∧ R k' := ⟨k, rfl, q⟩
theorem z_notT (h : tt σ H fun k H1 => QB (!k) H1) : tNot tt σ H QB := h
theorem z_andT (h : tt σ H fun k H1 => if k = true then tu σ H1 QB else QB false H1) : tAnd tt tu σ H QB := h
theorem z_orT (h : tt σ H fun k H1 => if k = true then QB true H1 else tu σ H1 QB) : tOr tt tu σ H QB := h
theorem z_andV (h : ta σ H fun x H1 => ∃ k, x = .bl k ∧ if k = true then tb σ H1 Q else Q (.bl false) H1) : tAndV ta tb σ H Q := h
theorem z_orV (h : ta σ H fun x H1 => ∃ k, x = .bl k ∧ if k = true then Q (.bl true) H1 else tb σ H1 Q) : tOrV ta tb σ H Q := h
theorem z_notV (h : ta σ H fun x H1 => ∃ k, x = .bl k ∧ Q (.bl (!k)) H1) : tNotV ta σ H Q := h
theorem z_ifE (h : tt σ H fun k H1 => if k = true then ta σ H1 Q else tb σ H1 Q) : tIf tt ta tb σ H Q := h
theorem z_chain {g g' : R2} {tc : TE} (h : ta σ H fun x H1 => tb σ H1 fun y H2 => g x y H2 fun z H3 => ∃ k, z = .bl k ∧ (if k = true then tc σ H3 fun w' H4 => g' y w' H4 Q else Q (.bl false) H3)) : tChain g g' ta tb tc σ H Q := h
theorem z_nil {R : List V → Hp → Prop} (q : R [] H) : tNil σ H R := q
theorem z_cons {tr : TA} {R : List V → Hp → Prop} (h : ta σ H fun x H1 => tr σ H1 fun xs H2 => R (x :: xs) H2) : tCons ta tr σ H R := h
theorem z_tup {tl : TA} (h : tl σ H (NewT Q)) : tTup tl σ H Q := h
theorem z_lst {tl : TA} (h : tl σ H (NewL Q)) : tLst tl σ H Q := h
theorem z_newT {xs : List V} (hl : xs.length ≤ 1000) (q : ∀ p H', H p = none → Same H H' → H' p = some (.tup xs) → Q (.ref p) H') : NewT Q xs H := ⟨sz hl, fun p hp => q p _ hp (same_upd hp) upd_same⟩
theorem z_newL {xs : List V} (hl : xs.length ≤ 1000) (q : ∀ p H', H p = none → Same H H' → H' p = some (.lst xs) → Q (.ref p) H') : NewL Q xs H := ⟨sz hl, fun p hp => q p _ hp (same_upd hp) upd_same⟩
theorem z_cb {g : List V → Hp → VK → Prop} {tl : TA} (h : tl σ H fun vs H1 => g vs H1 Q) : tCB g tl σ H Q := h
theorem z_call {sp : Sp} {E : XK} {tl : TA} (h : tl σ H fun vs H1 => sp vs H1 Q E) : tCall sp [] E tl σ H Q := by
  unfold tCall
  simpa only [List.append_nil] using h
theorem z_callS {sp : Sp} {E : L2.St → XK} {tl : TA} (h : tl σ H fun vs H1 => sp vs H1 Q (E σ)) : tCallS sp E tl σ H Q := h
theorem z_ixL {p : Addr} {xs : List V} (h : SqL K H p xs) (ha : atI xs i = some v) (q : Q v H) : rIxL K (.ref p) (.int i) H Q := ⟨p, xs, i, v, rfl, rfl, h, ha, q⟩
theorem z_ixT {p : Addr} {xs : List V} (h : SqT K H p xs) (ha : atI xs i = some v) (q : Q v H) : rIxT K (.ref p) (.int i) H Q := ⟨p, xs, i, v, rfl, rfl, h, ha, q⟩
theorem z_setL {p : Addr} {xs : List V} {k : Nat} {R : Hp → Prop} (h : H p = some (.lst xs)) (hk : ixN xs.length i = some k) (q : R (upd H p (.lst (xs.set k v)))) : rSetL (.ref p) (.int i) v H R := ⟨p, xs, i, k, rfl, rfl, h, hk, q⟩
theorem z_if {p : Prop} [Decidable p] {A B : Prop} (h1 : p → A) (h2 : ¬ p → B) : if decide p = true then A else B := by
  by_cases h : p
  · rw [if_pos (decide_eq_true h)]
    exact h1 h
  · rw [if_neg (by simpa using h)]
    exact h2 h
theorem z_ifB {k : Bool} {A B : Prop} (h1 : k = true → A) (h2 : k = false → B) : if k = true then A else B := by
  cases k with
  | true => exact h1 rfl
  | false => exact h2 rfl
/-- and, or, not of a test whose answer is known, the heap as it was -/
theorem z_andK {k k' : Bool} (h : k = true → ∀ R : Bool → Hp → Prop, R k' H → tu σ H R) (q : QB (k && k') H) : if k = true then tu σ H QB else QB false H := by
  cases k with
  | true => exact h rfl QB q
  | false => exact q
theorem z_orK {k k' : Bool} (h : k = false → ∀ R : Bool → Hp → Prop, R k' H → tu σ H R) (q : QB (k || k') H) : if k = true then QB true H else tu σ H QB := by
  cases k with
  | true => exact q
  | false => exact h rfl QB q
theorem z_andKV {k k' : Bool} (h : k = true → ∀ R : VK, R (.bl k') H → tb σ H R) (q : Q (.bl (k && k')) H) : if k = true then tb σ H Q else Q (.bl false) H := by
  cases k with
  | true => exact h rfl Q q
  | false => exact q
theorem z_orKV {k k' : Bool} (h : k = false → ∀ R : VK, R (.bl k') H → tb σ H R) (q : Q (.bl (k || k')) H) : if k = true then Q (.bl true) H else tb σ H Q := by
  cases k with
  | true => exact q
  | false => exact h rfl Q q
/-- the second comparison of a chain -/
theorem z_chK {k k' : Bool} {tc : TE} {g' : R2} (h : k = true → ∀ R : VK, R (.bl k') H → tc σ H fun w' H4 => g' y w' H4 R) (q : Q (.bl (k && k')) H) :
    if k = true then tc σ H fun w' H4 => g' y w' H4 Q else Q (.bl false) H := by
  cases k with
  | true => exact h rfl Q q
  | false => exact q
theorem z_ty {x : V} {t : String} {T : String} {k : Bool} {H : Hp} {Q : VK} (h : TyX K H x (.type t)) (e : kitB t T = some k) (q : Q (.bl k) H) : rIsi K [x, .ty T] H Q := ⟨x, .ty T, .type t, .type T, k, rfl, .ty T, h, kit_ty e, q⟩
end
end Z
namespace Z
open PySem PySem.Spec PyProof.Rows L2
theorem pe_powc {X : Cx} {a b v : Int} {j1 j2 : Nat} {p1 p2 pos : Pos} (h0 : CPow a b) (hv : a ^ b.toNat = v) : PE X (.BinOp (.Constant (.int a) j1 p1) .Pow (.Constant (.int b) j2 p2) pos) (tC (.int v)) := by
  subst hv
  exact ⟨fun pins s σ H Q I h => (pe_op op_pow pe_int pe_int).run pins s σ H Q I ⟨a, b, rfl, rfl, h0, h⟩⟩
def rInt1 : List V → Hp → VK → Prop := fun xs H Q => (∃ i, xs = [.int i] ∧ Q (.int i) H) ∨ ∃ k, xs = [.bl k] ∧ Q (.int (if k then 1 else 0)) H
def rAbs : List V → Hp → VK → Prop := fun xs H Q => ∃ i, xs = [.int i] ∧ Q (.int (if i < 0 then -i else i)) H
def rLen (K : PySem.W.Frag) : List V → Hp → VK → Prop := fun xs H Q => ∃ p ys, xs = [.ref p] ∧ (SqL K H p ys ∨ SqT K H p ys) ∧ Q (.int ys.length) H
theorem c_int {X : Cx} : CallR X (.type "int") rInt1 := call_int1
theorem c_abs {X : Cx} : CallR X (.builtin "abs") rAbs := call_abs
theorem c_len {X : Cx} : CallR X (.builtin "len") (rLen X.K) := call_len_seq
section
variable {H : Hp} {Q : VK} {i j : Int} {v : V} {R : Prop}
theorem z_int1 (q : Q (.int i) H) : rInt1 [.int i] H Q := .inl ⟨i, rfl, q⟩
theorem z_int1b {k : Bool} (q : Q (.int (if k then 1 else 0)) H) : rInt1 [.bl k] H Q := .inr ⟨k, rfl, q⟩
theorem z_abs (q : Q (.int (if i < 0 then -i else i)) H) : rAbs [.int i] H Q := ⟨i, rfl, q⟩
theorem z_gcd (q : Q (.int ((Nat.gcd i.natAbs j.natAbs : Nat) : Int)) H) : rGcd [.int i, .int j] H Q := ⟨i, j, rfl, q⟩
theorem z_lenL {K : PySem.W.Frag} {p : Addr} {xs : List V} (h : SqL K H p xs) (q : Q (.int (xs.length : Int)) H) : rLen K [.ref p] H Q := ⟨p, xs, rfl, .inl h, q⟩
theorem z_lenT {K : PySem.W.Frag} {p : Addr} {xs : List V} (h : SqT K H p xs) (q : Q (.int (xs.length : Int)) H) : rLen K [.ref p] H Q := ⟨p, xs, rfl, .inr h, q⟩
theorem z_isII {K : PySem.W.Frag} (q : Q (.bl true) H) : rIsi K [.int i, .ty "int"] H Q := z_ty (.base (.int i)) (by decide +kernel) q
theorem z_isIB {K : PySem.W.Frag} (q : Q (.bl false) H) : rIsi K [.int i, .ty "bool"] H Q := z_ty (.base (.int i)) (by decide +kernel) q
theorem z_isBB {K : PySem.W.Frag} {k : Bool} (q : Q (.bl true) H) : rIsi K [.bl k, .ty "bool"] H Q := z_ty (.base (.bl k)) (by decide +kernel) q
theorem z_isTT {K : PySem.W.Frag} {p : Addr} {xs : List V} (h : H p = some (.tup xs)) (q : Q (.bl true) H) : rIsi K [.ref p, .ty "tuple"] H Q := z_ty (.base (.tup h)) (by decide +kernel) q
theorem z_isLL {K : PySem.W.Frag} {p : Addr} {xs : List V} (h : H p = some (.lst xs)) (q : Q (.bl true) H) : rIsi K [.ref p, .ty "list"] H Q := z_ty (.base (.lst h)) (by decide +kernel) q
theorem z_new {xs : List V} {F : Addr → Prop} (h : xs.length ≤ 1000) (q : ∀ p, H p = none → F p) : xs.length ≤ sizeLine ∧ ∀ p, H p = none → F p := ⟨sz h, q⟩
end
end Z
namespace Z
open PySem PySem.Spec PyProof.Rows L2
section
variable {σ : L2.St} {H : Hp} {n : L2.St → Hp → Prop} {r : VK} {b c : L2.St → Hp → Prop} {tb : TS} {K : PySem.W.Frag}
/-- for k in range(m) -/
theorem z_forR1 {ta : TA} {k : Nat} (m : Nat) (hm : m < 2 ^ 62) (ha : ∀ R : List V → Hp → Prop, R [.int (m : Int)] H → ta σ H R) (Pv : Nat → L2.St → Hp → Prop) (h0 : Pv 0 σ H)
    (hs : ∀ i σ H, i < m → Pv i σ H → tb ⟨Pv (i + 1), r, n, Pv (i + 1)⟩ (σ.set k (some (.int (i : Int)))) H) (hd : ∀ σ H, Pv m σ H → n σ H) : tFor (iRng1 ta) (gName k) tb ⟨n, r, b, c⟩ σ H := by
  refine ha _ ⟨(m : Int), rfl, by omega, by omega, ?_⟩
  refine for_range (lo := 0) (n := (m : Int).toNat) Pv h0 (fun i σ' H' hi p => ?_) (fun σ' H' p => hd σ' H' (by simpa using p))
  have e : (0 : Int) + (i : Int) = (i : Int) := Int.zero_add _
  show tb _ (σ'.set k (some (.int ((0 : Int) + (i : Int))))) H'
  rw [e]
  exact hs i σ' H' (by simpa using hi) p
/-- for k in range(lo, hi) -/
theorem z_forR2 {ta : TA} {k : Nat} (lo : Int) (m : Nat) (hl : -(2 ^ 61) ≤ lo ∧ lo < 2 ^ 61) (hm : m < 2 ^ 61) (ha : ∀ R : List V → Hp → Prop, R [.int lo, .int (lo + (m : Int))] H → ta σ H R) (Pv : Nat → L2.St → Hp → Prop) (h0 : Pv 0 σ H)
    (hs : ∀ i σ H, i < m → Pv i σ H → tb ⟨Pv (i + 1), r, n, Pv (i + 1)⟩ (σ.set k (some (.int (lo + (i : Int))))) H) (hd : ∀ σ H, Pv m σ H → n σ H) : tFor (iRng2 ta) (gName k) tb ⟨n, r, b, c⟩ σ H := by
  refine ha _ ⟨lo, lo + (m : Int), rfl, by omega, ?_⟩
  have en : (lo + (m : Int) - lo).toNat = m := by omega
  rw [en]
  exact for_range (lo := lo) (n := m) Pv h0 hs hd
/-- for x in a list, in a tuple -/
theorem z_forL {tl : TE} {g : TG} {a : Addr} {xs : List V} (ha : ∀ R : VK, R (.ref a) H → tl σ H R) (hx : SqL K H a xs) (Pv : Nat → L2.St → Hp → Prop) (h0 : Pv 0 σ H) (hl : ∀ i σ H, i ≤ xs.length → Pv i σ H → SqL K H a xs)
    (hs : ∀ i x σ H, xs[i]? = some x → Pv i σ H → g x σ H fun σ2 H2 => tb ⟨Pv (i + 1), r, n, Pv (i + 1)⟩ σ2 H2) (hd : ∀ σ H, Pv xs.length σ H → n σ H) : tFor (iList K tl) g tb ⟨n, r, b, c⟩ σ H :=
  ha _ ⟨a, rfl, ⟨xs, hx⟩, for_list Pv h0 hl hs hd⟩
theorem z_forT {tl : TE} {g : TG} {a : Addr} {xs : List V} (ha : ∀ R : VK, R (.ref a) H → tl σ H R) (hx : SqT K H a xs) (Pv : Nat → L2.St → Hp → Prop) (h0 : Pv 0 σ H) (hl : ∀ i σ H, i ≤ xs.length → Pv i σ H → SqT K H a xs)
    (hs : ∀ i x σ H, xs[i]? = some x → Pv i σ H → g x σ H fun σ2 H2 => tb ⟨Pv (i + 1), r, n, Pv (i + 1)⟩ σ2 H2) (hd : ∀ σ H, Pv xs.length σ H → n σ H) : tFor (iTup K tl) g tb ⟨n, r, b, c⟩ σ H :=
  ha _ ⟨a, rfl, ⟨xs, hx⟩, for_tup Pv h0 hl hs hd⟩
theorem z_gName {k : Nat} {v : V} {R : L2.St → Hp → Prop} (q : R (σ.set k (some v)) H) : gName k v σ H R := q
end
end Z
namespace Z
section
variable {A B : Prop}
theorem z_ifT (q : A) : if true = true then A else B := by
  rw [if_pos rfl]
  exact q
theorem z_ifF (q : B) : if false = true then A else B := by
  rw [if_neg Bool.false_ne_true]
  exact q
theorem z_ifNF (q : A) : if (!false) = true then A else B := z_ifT q
theorem z_ifNT (q : B) : if (!true) = true then A else B := z_ifF q
theorem z_ifN {p : Prop} [Decidable p] (h1 : ¬ p → A) (h2 : p → B) : if (!decide p) = true then A else B := by
  by_cases h : p
  · rw [if_neg (by simpa using h)]
    exact h2 h
  · rw [if_pos (by simpa using h)]
    exact h1 h
end
end Z
namespace Z
theorem z_ifYes {A B : Prop} {k : Bool} (h : k = true) (q : A) : if k = true then A else B := by
  rw [if_pos h]
  exact q
theorem z_ifNo {A B : Prop} {k : Bool} (h : k = false) (q : B) : if k = true then A else B := by
  rw [if_neg (by rw [h]; exact Bool.false_ne_true)]
  exact q
end Z
namespace Z
open PySem PySem.Spec PyProof.Rows L2
theorem z_exc {K : PySem.W.Frag} {cv cls : Value} {i : Nat} {ts : Addr → Value → Option Addr → TS} {Wout : WX} {n : L2.St → Hp → Prop} {r : VK} {b c : L2.St → Hp → Prop} {d : Option Addr} {σ : L2.St} {H : Hp} (e : PySem.W.exmOne K cls cv = some true)
    (h : ∀ a, H a = none → ts a cls d ⟨fun σ' H' => n (σ'.set i none) H', r, fun σ' H' => b (σ'.set i none) H', fun σ' H' => c (σ'.set i none) H'⟩ (σ.set i (some (.ref a))) H) : WE (wAs K cv i ts Wout ⟨n, r, b, c⟩) σ cls d H :=
  ⟨true, e, fun _ a ha => h a ha, fun z => Bool.noConfusion z⟩
theorem z_excO {K : PySem.W.Frag} {cv cls : Value} {ts : Addr → Value → Option Addr → TS} {Wout : WX} {D : Ends} {d : Option Addr} {σ : L2.St} {H : Hp} (e : PySem.W.exmOne K cls cv = some true)
    (h : ∀ a, H a = none → ts a cls d D σ H) : WE (wOnly K cv ts Wout D) σ cls d H :=
  ⟨true, e, fun _ a ha => h a ha, fun z => Bool.noConfusion z⟩
theorem z_isEr {K : PySem.W.Frag} {a C D : Addr} {k : Bool} {H : Hp} {Q : VK} (x : ExcC K D) (e : PySem.W.kitOne K (.ref D) (.ref C) = some k) (q : Q (.bl k) H) : rIsEx K (.ref D) none a [.ref a, .ref C] H Q :=
  ⟨D, rfl, rfl, x, .ref C, .ref C, k, rfl, fun u h => h, e, q⟩
theorem z_isEt {K : PySem.W.Frag} {a D : Addr} {t : String} {k : Bool} {H : Hp} {Q : VK} (x : ExcC K D) (e : PySem.W.kitOne K (.ref D) (.type t) = some k) (q : Q (.bl k) H) : rIsEx K (.ref D) none a [.ref a, .ty t] H Q :=
  ⟨D, rfl, rfl, x, .ty t, .type t, k, rfl, fun u h => h, e, q⟩
/-- two lists, tuples of flat things compared -/
theorem z_eqD {K : PySem.W.Frag} {x y : V} {d e : PyData} {H : Hp} {Q : VK} (h1 : Dp K H x d) (h2 : Dp K H y e) (s1 : SeqAt.shaped d = true) (s2 : SeqAt.shaped e = true) (q : Q (.bl (PyData.eqv d e)) H) : rEqD K x y H Q := ⟨d, e, h1, h2, s1, s2, q⟩
end Z
namespace Z
open PySem PySem.Spec PyProof.Rows L2
theorem z_eqSame {K : PySem.W.Frag} {x y : V} {d : PyData} {H : Hp} {Q : VK} (h1 : Dp K H x d) (h2 : Dp K H y d) (s : SeqAt.shaped d = true) (q : Q (.bl true) H) : rEqD K x y H Q :=
  ⟨d, d, h1, h2, s, s, by rw [SeqAt.eqv_refl d (SeqAt.canLay_of_shaped s)]; exact q⟩
theorem dpT2 {K : PySem.W.Frag} {H : Hp} {p : Addr} {n d : Int} (h : H p = some (.tup [.int n, .int d])) : Dp K H (.ref p) (.tuple [.int n, .int d]) := .tup (.inl (.inl h)) (.cons (.int n) (.cons (.int d) .nil))
theorem dpB3 {K : PySem.W.Frag} {H : Hp} {p : Addr} {a b c : Bool} (h : H p = some (.lst [.bl a, .bl b, .bl c])) : Dp K H (.ref p) (.list [.bool a, .bool b, .bool c]) := .lst (.inl (.inl h)) (.cons (.bl a) (.cons (.bl b) (.cons (.bl c) .nil)))
end Z
namespace Z
open PySem PySem.Spec PyProof.Rows L2
theorem z_cut {t u : TS} {n : L2.St → Hp → Prop} {r : VK} {b c : L2.St → Hp → Prop} {σ : L2.St} {H : Hp} (Mid : L2.St → Hp → Prop) (h : t ⟨Mid, r, b, c⟩ σ H) (k : ∀ σ' H', Mid σ' H' → u ⟨n, r, b, c⟩ σ' H') : Evl.tCut t u ⟨n, r, b, c⟩ σ H := ⟨Mid, h, k⟩
end Z
namespace Z
open PySem PySem.Spec PyProof.Rows L2
section
variable {σ : L2.St} {H : Hp} {n : L2.St → Hp → Prop} {r : VK} {b c : L2.St → Hp → Prop} {te : TE} {K : PySem.W.Frag} {a : Addr} {xs : List V} {gs : TGs} {m : Nat} {v : V}
theorem z_asgT (h : te σ H fun x H1 => ∃ a xs, x = .ref a ∧ SqT K H1 a xs ∧ xs.length = m ∧ gs xs σ H1 n) : tAsg te (gTup K m gs) ⟨n, r, b, c⟩ σ H := h
theorem z_asgL (h : te σ H fun x H1 => ∃ a xs, x = .ref a ∧ SqL K H1 a xs ∧ xs.length = m ∧ gs xs σ H1 n) : tAsg te (gLst K m gs) ⟨n, r, b, c⟩ σ H := h
theorem z_up (h : SqT K H a xs) (hm : xs.length = m) (q : gs xs σ H n) : ∃ a' xs', V.ref a = .ref a' ∧ SqT K H a' xs' ∧ xs'.length = m ∧ gs xs' σ H n := ⟨a, xs, rfl, h, hm, q⟩
theorem z_upL (h : SqL K H a xs) (hm : xs.length = m) (q : gs xs σ H n) : ∃ a' xs', V.ref a = .ref a' ∧ SqL K H a' xs' ∧ xs'.length = m ∧ gs xs' σ H n := ⟨a, xs, rfl, h, hm, q⟩
theorem z_gT (h : SqT K H a xs) (hm : xs.length = m) (q : gs xs σ H n) : gTup K m gs (.ref a) σ H n := ⟨a, xs, rfl, h, hm, q⟩
theorem z_gcons {t : TG} {u : TGs} {R : L2.St → Hp → Prop} (h : t v σ H fun σ' H' => u xs σ' H' R) : gCons t u (v :: xs) σ H R := ⟨v, xs, rfl, h⟩
theorem z_gnil {R : L2.St → Hp → Prop} (h : R σ H) : gNil [] σ H R := ⟨rfl, h⟩
end
end Z
namespace Z
open PySem PySem.Spec PyProof.Rows L2
section
variable {K : PySem.W.Frag} {Wout : WX} {D : Ends} {c cls : Value} {ts : Addr → Value → Option Addr → TS} {l : List (Value × (Addr → Value → Option Addr → TS))} {σ : L2.St} {H : Hp} {d : Option Addr}
theorem z_many1 (e : PySem.W.exmOne K cls c = some true) (h : ∀ a, H a = none → ts a cls d D σ H) : WE (wMany K Wout D ((c, ts) :: l)) σ cls d H := ⟨true, e, fun _ a ha => h a ha, fun z => Bool.noConfusion z⟩
theorem z_many0 (e : PySem.W.exmOne K cls c = some false) (h : WE (wMany K Wout D l) σ cls d H) : WE (wMany K Wout D ((c, ts) :: l)) σ cls d H := ⟨false, e, fun z => Bool.noConfusion z, fun _ => h⟩
theorem z_eqS {x : Str} {Q : VK} (q : Q (.bl true) H) : rEq (.str x) (.str x) H Q := ⟨rfl, by rw [decide_eq_true rfl]; exact q⟩
end
end Z
/-! ### data: what a value stands for -/
namespace Z
open PySem PySem.Spec PyProof.Rows L2
section
variable {K : PySem.W.Frag} {H H' : Hp} {v : V} {d d1 d2 d3 d4 d5 d6 : PyData}
mutual
theorem dp_mono (s : Same H H') : ∀ {d : PyData} {v : V}, Dp K H v d → Dp K H' v d
  | _, _, .non => .non
  | _, _, .bl b => .bl b
  | _, _, .int i => .int i
  | _, _, .str x => .str x
  | _, _, .lst h a => .lst (s.seq h) (dp_monoA s a)
  | _, _, .tup h a => .tup (seqT s h) (dp_monoA s a)
theorem dp_monoA (s : Same H H') : ∀ {ds : List PyData} {vs : List V}, DpAll K H vs ds → DpAll K H' vs ds
  | _, _, .nil => .nil
  | _, _, .cons h a => .cons (dp_mono s h) (dp_monoA s a)
end
mutual
def tupOnly : PyData → Bool
  | .list _ => false
  | .dict _ => false
  | .tuple ds => tupOnlyA ds
  | .none => true
  | .bool _ => true
  | .int _ => true
  | .str _ => true
def tupOnlyA : List PyData → Bool
  | [] => true
  | d :: ds => tupOnly d && tupOnlyA ds
end
def Kp (p : Addr) (H H' : Hp) : Prop := ∀ b o, b ≠ p → H b = some o → H' b = some o
theorem seqT_kp {p a : Addr} {xs ys : List V} (k : Kp p H H') (hp : H p = some (.lst xs)) (h : SqT K H a ys) : SqT K H' a ys := by
  rcases h with (h | ⟨o, h⟩) | h
  · exact .inl (.inl (k _ _ (ne_of h hp (by intro z; cases z)) h))
  · exact .inl (.inr ⟨o, k _ _ (ne_of h hp (by intro z; cases z)) h⟩)
  · exact .inr h
mutual
theorem dp_kp {p : Addr} {xs : List V} (k : Kp p H H') (hp : H p = some (.lst xs)) : ∀ {d : PyData} {v : V}, tupOnly d = true → Dp K H v d → Dp K H' v d
  | _, _, _, .non => .non
  | _, _, _, .bl b => .bl b
  | _, _, _, .int i => .int i
  | _, _, _, .str x => .str x
  | _, _, t, .lst h a => by simp [tupOnly] at t
  | _, _, t, .tup h a => .tup (seqT_kp k hp h) (dp_kpA k hp (by simpa [tupOnly] using t) a)
theorem dp_kpA {p : Addr} {xs : List V} (k : Kp p H H') (hp : H p = some (.lst xs)) : ∀ {ds : List PyData} {vs : List V}, tupOnlyA ds = true → DpAll K H vs ds → DpAll K H' vs ds
  | _, _, _, .nil => .nil
  | _, _, t, .cons h a => by
    have t' : (tupOnly _ && tupOnlyA _) = true := t
    rw [Bool.and_eq_true] at t'
    exact .cons (dp_kp k hp t'.1 h) (dp_kpA k hp t'.2 a)
end
theorem dp_int {i : Int} (h : Dp K H v (.int i)) : v = .int i := by
  cases h
  rfl
theorem dp_non (h : Dp K H v .none) : v = .non := by
  cases h
  rfl
theorem dp_bool {b : Bool} (h : Dp K H v (.bool b)) : v = .bl b := by
  cases h
  rfl
theorem dp_str {b : Str} (h : Dp K H v (.str b)) : v = .str b := by
  cases h
  rfl
theorem dp_tup {ds : List PyData} (h : Dp K H v (.tuple ds)) : ∃ p vs, v = .ref p ∧ SqT K H p vs ∧ DpAll K H vs ds := by
  cases h with
  | tup h a => exact ⟨_, _, rfl, h, a⟩
theorem dpa_nil {vs : List V} (h : DpAll K H vs []) : vs = [] := by
  cases h
  rfl
theorem dpa_cons {vs : List V} {ds : List PyData} (h : DpAll K H vs (d :: ds)) : ∃ v r, vs = v :: r ∧ Dp K H v d ∧ DpAll K H r ds := by
  cases h with
  | cons a b => exact ⟨_, _, rfl, a, b⟩
theorem dp_t1 (h : Dp K H v (.tuple [d1])) : ∃ p v1, v = .ref p ∧ SqT K H p [v1] ∧ Dp K H v1 d1 := by
  obtain ⟨p, vs, e, hS, a⟩ := dp_tup h
  obtain ⟨v1, _, rfl, h1, a⟩ := dpa_cons a
  obtain rfl := dpa_nil a
  exact ⟨p, v1, e, hS, h1⟩
theorem dp_t2 (h : Dp K H v (.tuple [d1, d2])) : ∃ p v1 v2, v = .ref p ∧ SqT K H p [v1, v2] ∧ Dp K H v1 d1 ∧ Dp K H v2 d2 := by
  obtain ⟨p, vs, e, hS, a⟩ := dp_tup h
  obtain ⟨v1, _, rfl, h1, a⟩ := dpa_cons a
  obtain ⟨v2, _, rfl, h2, a⟩ := dpa_cons a
  obtain rfl := dpa_nil a
  exact ⟨p, v1, v2, e, hS, h1, h2⟩
theorem dp_t3 (h : Dp K H v (.tuple [d1, d2, d3])) : ∃ p v1 v2 v3, v = .ref p ∧ SqT K H p [v1, v2, v3] ∧ Dp K H v1 d1 ∧ Dp K H v2 d2 ∧ Dp K H v3 d3 := by
  obtain ⟨p, vs, e, hS, a⟩ := dp_tup h
  obtain ⟨v1, _, rfl, h1, a⟩ := dpa_cons a
  obtain ⟨v2, _, rfl, h2, a⟩ := dpa_cons a
  obtain ⟨v3, _, rfl, h3, a⟩ := dpa_cons a
  obtain rfl := dpa_nil a
  exact ⟨p, v1, v2, v3, e, hS, h1, h2, h3⟩
theorem dp_t6 (h : Dp K H v (.tuple [d1, d2, d3, d4, d5, d6])) : ∃ p v1 v2 v3 v4 v5 v6, v = .ref p ∧ SqT K H p [v1, v2, v3, v4, v5, v6] ∧ Dp K H v1 d1 ∧ Dp K H v2 d2 ∧ Dp K H v3 d3 ∧ Dp K H v4 d4 ∧ Dp K H v5 d5 ∧ Dp K H v6 d6 := by
  obtain ⟨p, vs, e, hS, a⟩ := dp_tup h
  obtain ⟨v1, _, rfl, h1, a⟩ := dpa_cons a
  obtain ⟨v2, _, rfl, h2, a⟩ := dpa_cons a
  obtain ⟨v3, _, rfl, h3, a⟩ := dpa_cons a
  obtain ⟨v4, _, rfl, h4, a⟩ := dpa_cons a
  obtain ⟨v5, _, rfl, h5, a⟩ := dpa_cons a
  obtain ⟨v6, _, rfl, h6, a⟩ := dpa_cons a
  obtain rfl := dpa_nil a
  exact ⟨p, v1, v2, v3, v4, v5, v6, e, hS, h1, h2, h3, h4, h5, h6⟩
theorem dp_mk {p : Addr} {vs : List V} {ds : List PyData} (h : H p = some (.tup vs)) (a : DpAll K H vs ds) : Dp K H (.ref p) (.tuple ds) := .tup (.inl (.inl h)) a
end
/-! ### numbers -/
def qD (r : Rat) : PyData := .tuple [.int r.num, .int (r.den : Int)]
theorem dp_q {K : PySem.W.Frag} {H : Hp} {v : V} {r : Rat} (h : Dp K H v (qD r)) : ∃ p, v = .ref p ∧ SqT K H p [.int r.num, .int (r.den : Int)] := by
  obtain ⟨p, v1, v2, e, hS, h1, h2⟩ := dp_t2 h
  rw [dp_int h1, dp_int h2] at hS
  exact ⟨p, e, hS⟩
theorem dp_mkq {K : PySem.W.Frag} {H : Hp} {p : Addr} {r : Rat} (h : H p = some (.tup [.int r.num, .int (r.den : Int)])) : Dp K H (.ref p) (qD r) := dp_mk h (.cons (.int _) (.cons (.int _) .nil))
theorem dp_seqq {K : PySem.W.Frag} {H : Hp} {p : Addr} {r : Rat} (h : SqT K H p [.int r.num, .int (r.den : Int)]) : Dp K H (.ref p) (qD r) := .tup h (.cons (.int _) (.cons (.int _) .nil))
/-- numerator and denominator at most so great -/
def Bd (r : Rat) (p q : Nat) : Prop := r.num.natAbs ≤ p ∧ r.den ≤ q
theorem bd_divInt {n d : Int} (h : d ≠ 0) : Bd (Rat.divInt n d) n.natAbs d.natAbs := by
  unfold Bd
  rw [Rat.num_divInt, Rat.den_divInt, if_neg h]
  refine ⟨Nat.le_trans (Int.natAbs_ediv_le_natAbs _ _) ?_, Nat.div_le_self _ _⟩
  rw [Int.natAbs_mul]
  have : d.sign.natAbs ≤ 1 := by
    rcases Int.lt_trichotomy d 0 with z | z | z
    · rw [Int.sign_eq_neg_one_of_neg z]; decide
    · exact absurd z h
    · rw [Int.sign_eq_one_of_pos z]; decide
  calc d.sign.natAbs * n.natAbs ≤ 1 * n.natAbs := Nat.mul_le_mul_right _ this
    _ = n.natAbs := Nat.one_mul _
theorem q_self (r : Rat) : Rat.divInt r.num (r.den : Int) = r := Rat.num_divInt_den r
end Z
namespace Z
open PySem PySem.Spec PyProof.Rows L2
def gd (n d : Int) : Int := ((Nat.gcd n.natAbs d.natAbs : Nat) : Int)
def rn (n d : Int) : Int := (if d < 0 then -n else n) / gd n d
def rd (n d : Int) : Int := (if d < 0 then -d else d) / gd n d
theorem rn_q {n d : Int} (h : d ≠ 0) : rn n d = (Rat.divInt n d).num := by
  rw [Rat.num_divInt]
  unfold rn gd
  have e : d.gcd n = Nat.gcd n.natAbs d.natAbs := Nat.gcd_comm _ _
  rw [e]
  congr 1
  split
  · rename_i z
    rw [Int.sign_eq_neg_one_of_neg z]
    omega
  · rename_i z
    rw [Int.sign_eq_one_of_pos (by omega)]
    omega
theorem rd_q {n d : Int} (h : d ≠ 0) : rd n d = ((Rat.divInt n d).den : Int) := by
  rw [Rat.den_divInt, if_neg h]
  unfold rd gd
  have e : d.gcd n = Nat.gcd n.natAbs d.natAbs := Nat.gcd_comm _ _
  rw [e]
  rw [Int.natCast_ediv]
  congr 1
  split <;> omega
def lim : Int := 1000000000000000000
def fitsQ (r : Rat) : Prop := -lim ≤ r.num ∧ r.num ≤ lim ∧ (r.den : Int) ≤ lim
theorem bd_add {a b : Rat} {p q p' q' : Nat} (h : Bd a p q) (h' : Bd b p' q') : Bd (a + b) (p * q' + p' * q) (q * q') := by
  have ha := a.den_nz
  have hb := b.den_nz
  have e : a + b = Rat.divInt (a.num * b.den + b.num * a.den) ((a.den : Int) * b.den) := by
    rw [← Rat.divInt_add_divInt _ _ (by omega) (by omega), Rat.num_divInt_den, Rat.num_divInt_den]
  rw [e]
  have hd : ((a.den : Int) * b.den) ≠ 0 := Int.mul_ne_zero (by omega) (by omega)
  have k := bd_divInt (n := a.num * b.den + b.num * a.den) hd
  refine ⟨Nat.le_trans k.1 (Nat.le_trans (Int.natAbs_add_le _ _) ?_), Nat.le_trans k.2 ?_⟩
  · rw [Int.natAbs_mul, Int.natAbs_mul]
    exact Nat.add_le_add (Nat.mul_le_mul h.1 h'.2) (Nat.mul_le_mul h'.1 h.2)
  · rw [Int.natAbs_mul]
    exact Nat.mul_le_mul h.2 h'.2
theorem bd_mul {a b : Rat} {p q p' q' : Nat} (h : Bd a p q) (h' : Bd b p' q') : Bd (a * b) (p * p') (q * q') := by
  have ha := a.den_nz
  have hb := b.den_nz
  have e : a * b = Rat.divInt (a.num * b.num) ((a.den : Int) * b.den) := by
    rw [← Rat.divInt_mul_divInt, Rat.num_divInt_den, Rat.num_divInt_den]
  rw [e]
  have hd : ((a.den : Int) * b.den) ≠ 0 := Int.mul_ne_zero (by omega) (by omega)
  have k := bd_divInt (n := a.num * b.num) hd
  refine ⟨Nat.le_trans k.1 ?_, Nat.le_trans k.2 ?_⟩
  · rw [Int.natAbs_mul]
    exact Nat.mul_le_mul h.1 h'.1
  · rw [Int.natAbs_mul]
    exact Nat.mul_le_mul h.2 h'.2
theorem bd_neg {a : Rat} {p q : Nat} (h : Bd a p q) : Bd (-a) p q := by
  unfold Bd
  rw [Rat.neg_num, Rat.neg_den, Int.natAbs_neg]
  exact h
theorem bd_sub {a b : Rat} {p q p' q' : Nat} (h : Bd a p q) (h' : Bd b p' q') : Bd (a - b) (p * q' + p' * q) (q * q') := by
  rw [Rat.sub_eq_add_neg]
  exact bd_add h (bd_neg h')
theorem q_div (a b : Rat) (h : b ≠ 0) : a / b = Rat.divInt (a.num * b.den) ((a.den : Int) * b.num) := by
  rw [Rat.div_def, ← Rat.num_divInt_den b, Rat.inv_divInt]
  conv => lhs; lhs; rw [← Rat.num_divInt_den a]
  rw [Rat.divInt_mul_divInt, Rat.num_divInt_den]
theorem bd_div {a b : Rat} {p q p' q' : Nat} (hb : b ≠ 0) (h : Bd a p q) (h' : Bd b p' q') : Bd (a / b) (p * q') (q * p') := by
  have ha := a.den_nz
  rw [q_div a b hb]
  have hn : b.num ≠ 0 := fun z => hb (Rat.num_eq_zero.mp z)
  have hd : ((a.den : Int) * b.num) ≠ 0 := Int.mul_ne_zero (by omega) hn
  have k := bd_divInt (n := a.num * b.den) hd
  refine ⟨Nat.le_trans k.1 ?_, Nat.le_trans k.2 ?_⟩
  · rw [Int.natAbs_mul]
    exact Nat.mul_le_mul h.1 h'.2
  · rw [Int.natAbs_mul]
    exact Nat.mul_le_mul h.2 h'.1
theorem Bd.le {a : Rat} {p q p' q' : Nat} (h : Bd a p q) (h1 : p ≤ p') (h2 : q ≤ q') : Bd a p' q' := ⟨Nat.le_trans h.1 h1, Nat.le_trans h.2 h2⟩
theorem Bd.fits {a : Rat} {p q : Nat} (h : Bd a p q) (h1 : p ≤ 1000000000000000000) (h2 : q ≤ 1000000000000000000) : fitsQ a := by
  have a1 := h.1
  have a2 := h.2
  unfold fitsQ lim
  omega
theorem q_add (a b : Rat) : a + b = Rat.divInt (a.num * b.den + b.num * a.den) ((a.den : Int) * b.den) := by
  have ha := a.den_nz
  have hb := b.den_nz
  rw [← Rat.divInt_add_divInt _ _ (by omega) (by omega), Rat.num_divInt_den, Rat.num_divInt_den]
theorem q_sub (a b : Rat) : a - b = Rat.divInt (a.num * b.den - b.num * a.den) ((a.den : Int) * b.den) := by
  have ha := a.den_nz
  have hb := b.den_nz
  rw [← Rat.divInt_sub_divInt _ _ (by omega) (by omega), Rat.num_divInt_den, Rat.num_divInt_den]
theorem q_mul (a b : Rat) : a * b = Rat.divInt (a.num * b.num) ((a.den : Int) * b.den) := by
  rw [← Rat.divInt_mul_divInt, Rat.num_divInt_den, Rat.num_divInt_den]
theorem q_dd (a b : Rat) : ((a.den : Int) * b.den) ≠ 0 := by
  have ha := a.den_nz
  have hb := b.den_nz
  exact Int.mul_ne_zero (by omega) (by omega)
end Z
namespace Z
open PySem PySem.Spec PyProof.Rows L2
theorem tyx_T {K : PySem.W.Frag} {H : Hp} {a : Addr} {xs : List V} (h : SqT K H a xs) : TyX K H (.ref a) (.type "tuple") := by
  rcases h with (h | ⟨o, h⟩) | ⟨o, its, n, h, c, _⟩
  · exact .base (.tup h)
  · exact .fTuple h
  · exact .kTuple h c
theorem z_isT {K : PySem.W.Frag} {H : Hp} {Q : VK} {p : Addr} {xs : List V} (h : SqT K H p xs) (q : Q (.bl true) H) : rIsi K [.ref p, .ty "tuple"] H Q := z_ty (tyx_T h) (by decide +kernel) q
end Z
namespace Z
open PySem PySem.Spec PyProof.Rows L2
/-- a tuple of the module's own -/
theorem dpk {K : PySem.W.Frag} {H : Hp} {a : Addr} {od : Option Addr} {its : List Value} {n : Nat} {sl : Array (Option Value)} {vs : List V} {ds : List PyData} (h : K.lookup a = some ⟨.type "tuple", od, .seq its.toArray n, sl⟩)
    (hs : its.length ≤ 1000) (r : Vals vs its) (d : DpAll K H vs ds) : Dp K H (.ref a) (.tuple ds) :=
  .tup (.inr ⟨_, its.toArray, n, h, rfl, rfl, by rw [List.size_toArray]; exact sz hs, by simpa using r⟩) d
/-- a tuple and a tuple -/
theorem z_catT {K : PySem.W.Frag} {H : Hp} {Q : VK} {p q : Addr} {xs ys : List V} (h1 : SqT K H p xs) (h2 : SqT K H q ys) (hx : xs ≠ []) (hl : xs.length + ys.length ≤ 1000) (hy : ys ≠ [])
    (k : ∀ p H', H p = none → Same H H' → H' p = some (.tup (xs ++ ys)) → Q (.ref p) H') : rCatT K (.ref p) (.ref q) H Q := by
  refine ⟨p, q, xs, ys, rfl, rfl, h1, h2, hx, sz hl, fun z => absurd z hy, fun _ a ha => k a _ ha (same_upd ha) upd_same⟩
end Z
namespace Z
open PySem PySem.Spec PyProof.Rows L2
def rTupOf (K : PySem.W.Frag) : List V → Hp → VK → Prop := fun xs H Q => ∃ p ys, xs = [.ref p] ∧ ((SqL K H p ys ∧ ∀ l, H l = none → Q (.ref l) (upd H l (.tup ys))) ∨ (SqT K H p ys ∧ Q (.ref p) H))
def rListOf (K : PySem.W.Frag) : List V → Hp → VK → Prop := fun xs H Q => ∃ p ys, xs = [.ref p] ∧ (SqL K H p ys ∨ SqT K H p ys) ∧ ∀ l, H l = none → Q (.ref l) (upd H l (.lst ys))
theorem c_tupOf {X : Cx} : CallR X (.type "tuple") (rTupOf X.K) := call_tuple_of
theorem c_listOf {X : Cx} : CallR X (.type "list") (rListOf X.K) := call_list_of
section
variable {K : PySem.W.Frag} {H : Hp} {Q : VK} {p : Addr} {xs : List V} {σ : L2.St}
theorem z_tupOf (h : SqL K H p xs) (q : ∀ a H', H a = none → Same H H' → H' a = some (.tup xs) → Q (.ref a) H') : rTupOf K [.ref p] H Q := ⟨p, xs, rfl, .inl ⟨h, fun l hl => q l _ hl (same_upd hl) upd_same⟩⟩
theorem z_tupOfT (h : SqT K H p xs) (q : Q (.ref p) H) : rTupOf K [.ref p] H Q := ⟨p, xs, rfl, .inr ⟨h, q⟩⟩
theorem z_listOf (h : SqL K H p xs) (q : ∀ a H', H a = none → Same H H' → H' a = some (.lst xs) → Q (.ref a) H') : rListOf K [.ref p] H Q := ⟨p, xs, rfl, .inl h, fun l hl => q l _ hl (same_upd hl) upd_same⟩
theorem z_listOfT (h : SqT K H p xs) (q : ∀ a H', H a = none → Same H H' → H' a = some (.lst xs) → Q (.ref a) H') : rListOf K [.ref p] H Q := ⟨p, xs, rfl, .inr h, fun l hl => q l _ hl (same_upd hl) upd_same⟩
theorem z_yes {QB : Bool → Hp → Prop} (q : QB true H) : tYes σ H QB := q
/-- [e for k in range(m)] -/
theorem z_lcR1 {ta : TA} {k : Nat} {te : TE} {vs : List Nat} (m : Nat) (hm : m ≤ 1000) (ha : ∀ R : List V → Hp → Prop, R [.int (m : Int)] H → ta σ H R) (hw : ∀ x, wipe ((wipe σ vs).set k (some x)) vs = wipe σ vs) (Pv : Nat → Addr → List V → Hp → Prop)
    (h0 : ∀ D H', H D = none → Same H H' → H' D = some (.lst []) → Pv 0 D [] H')
    (hs : ∀ i D acc H', i < m → acc.length = i → H' D = some (.lst acc) → Pv i D acc H' → te ((wipe σ vs).set k (some (.int (i : Int)))) H' fun y H4 => H4 D = some (.lst acc) ∧ Pv (i + 1) D (acc ++ [y]) (upd H4 D (.lst (acc ++ [y]))))
    (mono : ∀ σ' H' Q Q', (∀ y H4, Q y H4 → Q' y H4) → te σ' H' Q → te σ' H' Q')
    (hd : ∀ D acc H', acc.length = m → H' D = some (.lst acc) → Pv m D acc H' → Q (.ref D) H') : tLc (iRng1 ta) (gName k) tYes te vs σ H Q := by
  refine ha _ ⟨(m : Int), rfl, by omega, by omega, fun D hD => ?_⟩
  refine lc_range (lo := 0) (n := (m : Int).toNat) (fun i H' => ∃ acc, acc.length = i ∧ H' D = some (.lst acc) ∧ Pv i D acc H') ⟨[], rfl, upd_same, h0 D _ hD (same_upd hD) upd_same⟩ (fun i H' hi ⟨acc, hl, hH, p⟩ => ?_) (fun H' ⟨acc, hl, hH, p⟩ => hd D acc H' (by simpa using hl) hH (by simpa using p))
  have e : (0 : Int) + (i : Int) = (i : Int) := Int.zero_add _
  show wipe ((wipe σ vs).set k (some (.int ((0 : Int) + (i : Int))))) vs = wipe σ vs ∧ _
  refine ⟨hw _, ?_⟩
  refine z_yes ?_
  refine z_ifT ?_
  rw [e]
  have hi' : i < m := by simpa using hi
  exact mono _ _ _ _ (fun y H4 ⟨e1, e2⟩ => ⟨acc, e1, Nat.lt_of_lt_of_le (show acc.length < 1000 by omega) (by decide), acc ++ [y], by simp [hl], upd_same, e2⟩) (hs i D acc H' (by simpa using hi) hl hH p)
end
end Z
namespace Z
open PySem PySem.Spec PyProof.Rows L2
section
variable {K : PySem.W.Frag} {H : Hp} {Q : VK} {p : Addr} {xs : List V} {σ : L2.St} {i : Int} {RO : Option Int → Hp → Prop} {te : TE} {tl th : TO}
theorem z_sl {g : V → Option Int → Option Int → Hp → VK → Prop} (h : te σ H fun x H1 => tl σ H1 fun l H2 => th σ H2 fun u H3 => g x l u H3 Q) : tSl g te tl th σ H Q := h
theorem z_noPart (q : RO none H) : tNoPart σ H RO := q
theorem z_part (h : te σ H fun x H1 => ∃ i, x = .int i ∧ RO (some i) H1) : tPart te σ H RO := h
theorem z_partI (q : RO (some i) H) : ∃ i', V.int i = .int i' ∧ RO (some i') H := ⟨i, rfl, q⟩
theorem z_slL {lo hi : Option Int} {ys : List V} (h : SqL K H p xs) (e : cutV xs lo hi = ys) (q : ∀ a H', H a = none → Same H H' → H' a = some (.lst ys) → Q (.ref a) H') : rSlL K (.ref p) lo hi H Q := by
  subst e
  exact ⟨p, xs, rfl, h, fun a ha => q a _ ha (same_upd ha) upd_same⟩
end
end Z
namespace Z
open PySem PySem.Spec PyProof.Rows L2
theorem z_slT {K : PySem.W.Frag} {H : Hp} {Q : VK} {p : Addr} {xs ys : List V} {lo hi : Option Int} (h : SqT K H p xs) (hn : ¬ (HT.sIx xs.length 0 lo = 0 ∧ HT.sIx xs.length xs.length hi = xs.length)) (e : cutV xs lo hi = ys)
    (q : ∀ a H', H a = none → Same H H' → H' a = some (.tup ys) → Q (.ref a) H') : rSlT K (.ref p) lo hi H Q := by
  subst e
  exact ⟨p, xs, rfl, h, hn, fun a ha => q a _ ha (same_upd ha) upd_same⟩
theorem eqv_q (a b : Rat) : PyData.eqv (qD a) (qD b) = decide (a = b) := by
  show (a.num == b.num && ((a.den : Int) == (b.den : Int) && true)) = decide (a = b)
  by_cases h : a = b
  · subst h
    simp
  · rw [decide_eq_false h]
    by_cases h1 : a.num = b.num
    · have h2 : ¬ (a.den : Int) = b.den := fun z => h (Rat.ext h1 (by omega))
      simp [h2]
    · simp [h1]
theorem shaped_q (a : Rat) : SeqAt.shaped (qD a) = true := rfl
theorem z_eqQ {K : PySem.W.Frag} {x y : V} {a b : Rat} {H : Hp} {Q : VK} (h1 : Dp K H x (qD a)) (h2 : Dp K H y (qD b)) (q : Q (.bl (decide (a = b))) H) : rEqD K x y H Q := ⟨qD a, qD b, h1, h2, shaped_q a, shaped_q b, by rw [eqv_q]; exact q⟩
theorem z_neQ {K : PySem.W.Frag} {x y : V} {a b : Rat} {H : Hp} {Q : VK} (h1 : Dp K H x (qD a)) (h2 : Dp K H y (qD b)) (q : Q (.bl (decide (¬ a = b))) H) : rNeD K x y H Q := ⟨qD a, qD b, h1, h2, shaped_q a, shaped_q b, by
  rw [eqv_q, show (!decide (a = b)) = decide (¬ a = b) by simp]
  exact q⟩
theorem z_neSame {K : PySem.W.Frag} {x y : V} {d : PyData} {H : Hp} {Q : VK} (h1 : Dp K H x d) (h2 : Dp K H y d) (s : SeqAt.shaped d = true) (q : Q (.bl false) H) : rNeD K x y H Q :=
  ⟨d, d, h1, h2, s, s, by rw [SeqAt.eqv_refl d (SeqAt.canLay_of_shaped s)]; exact q⟩
end Z
namespace Z
open PySem PySem.Spec PyProof.Rows L2
def rIsN : R2 := fun x y H Q => y = .non ∧ Q (.bl (decide (x = .non))) H
def rNotN : R2 := fun x y H Q => y = .non ∧ Q (.bl (!decide (x = .non))) H
theorem op_isN1 {X : Cx} : OpR X (compareOp .Is) rIsN := op_isN
theorem op_notN1 {X : Cx} : OpR X (compareOp .IsNot) rNotN := op_notN
section
variable {σ : L2.St} {H : Hp} {n : L2.St → Hp → Prop} {r : VK} {b c : L2.St → Hp → Prop} {tb : TS} {K : PySem.W.Frag} {Q : VK} {p : Addr} {v y : V} {xs : List V}
theorem z_isNN (q : Q (.bl true) H) : rIsN .non .non H Q := ⟨rfl, by simpa using q⟩
theorem z_isNR (q : Q (.bl false) H) : rIsN (.ref p) .non H Q := ⟨rfl, by simpa using q⟩
theorem z_notNN (q : Q (.bl false) H) : rNotN .non .non H Q := ⟨rfl, by simpa using q⟩
theorem z_notNR (q : Q (.bl true) H) : rNotN (.ref p) .non H Q := ⟨rfl, by simpa using q⟩
theorem z_bmL {r : V → List V → Hp → VK → Prop} {to : TE} {t : TA} (ho : ∀ R : VK, R (.ref p) H → to σ H R) (hp : H p = some (.lst xs)) (h : t σ H fun vs H2 => r (.ref p) vs H2 Q) : tBM K "list" r to t σ H Q :=
  ho _ ⟨.inl ⟨rfl, _, .inl (.inl hp)⟩, h⟩
theorem z_append (hp : H p = some (.lst xs)) (hl : xs.length < 1000) (q : Q .non (upd H p (.lst (xs ++ [y])))) : rAppend (.ref p) [y] H Q := ⟨p, xs, y, rfl, rfl, hp, Nat.lt_of_lt_of_le hl (by decide), q⟩
/-- the list that a for goes over, made on the way -/
def ForL (K : PySem.W.Frag) (g : TG) (tb : TS) (n : L2.St → Hp → Prop) (r : VK) (b c : L2.St → Hp → Prop) (σ : L2.St) : VK := fun x H1 => tFor (iList K (tC x)) g tb ⟨n, r, b, c⟩ σ H1
theorem z_forE {tl : TE} {g : TG} (h : tl σ H (ForL K g tb n r b c σ)) : tFor (iList K tl) g tb ⟨n, r, b, c⟩ σ H := h
/-- [e for x in l], where e answers at once -/
theorem z_lcM {tl : TE} {k : Nat} {te : TE} {vs : List Nat} {a : Addr} {xs ws : List V} (hlen : ws.length = xs.length) (hm : xs.length ≤ 1000) (ha : ∀ R : VK, R (.ref a) H → tl σ H R) (hx : H a = some (.lst xs)) (hw : ∀ x, wipe ((wipe σ vs).set k (some x)) vs = wipe σ vs)
    (body : ∀ (i : Nat) (x w : V) (H' : Hp), xs[i]? = some x → ws[i]? = some w → Same H H' → ∀ R : VK, R w H' → te ((wipe σ vs).set k (some x)) H' R)
    (hd : ∀ D H', H D = none → Same H H' → H' D = some (.lst ws) → Q (.ref D) H') : tLc (iList K tl) (gName k) tYes te vs σ H Q := by
  refine ha _ ⟨a, rfl, ⟨xs, .inl (.inl hx)⟩, fun D hD => ?_⟩
  have hDa : a ≠ D := ne_of_none hx hD
  refine lc_list (xs := xs) (fun i H' => Same H H' ∧ H' D = some (.lst (ws.take i)) ∧ H' a = some (.lst xs)) ⟨same_upd hD, upd_same, by rw [upd_ne hDa]; exact hx⟩ (fun i H' _ h => .inl (.inl h.2.2)) (fun i x H' hi ⟨s, hH, h3⟩ => ?_) (fun H' ⟨s, hH, _⟩ => hd D H' hD s (by rw [hH, ← hlen, List.take_length]))
  show wipe ((wipe σ vs).set k (some x)) vs = wipe σ vs ∧ _
  refine ⟨hw _, ?_⟩
  refine z_yes ?_
  refine z_ifT ?_
  have hi' : i < xs.length := by
    rcases Nat.lt_or_ge i xs.length with h | h
    · exact h
    · rw [List.getElem?_eq_none h] at hi
      cases hi
  have hiw : i < ws.length := by omega
  have hw' : ws[i]? = some ws[i] := List.getElem?_eq_getElem hiw
  refine body i x _ H' hi hw' s _ ?_
  refine ⟨_, hH, Nat.lt_of_lt_of_le (show (ws.take i).length < 1000 by rw [List.length_take]; omega) (by decide), fun q x' e => ?_, ?_, ?_⟩
  · have hq : q ≠ D := ne_of_none e hD
    rw [upd_ne hq]
    exact s _ _ e
  · rw [upd_same, List.take_add_one, hw']
    rfl
  · rw [upd_ne hDa]
    exact h3
end
/-! ### numbers over a common denominator -/
def Zb (r : Rat) (N M : Nat) : Prop := ∃ k : Int, r * (N : Rat) = (k : Rat) ∧ k.natAbs ≤ M
theorem zb_add {a b : Rat} {N M M' : Nat} (h : Zb a N M) (h' : Zb b N M') : Zb (a + b) N (M + M') := by
  obtain ⟨k, e, l⟩ := h
  obtain ⟨k', e', l'⟩ := h'
  exact ⟨k + k', by rw [Rat.add_mul, e, e', Rat.intCast_add], by omega⟩
theorem zb_neg {a : Rat} {N M : Nat} (h : Zb a N M) : Zb (-a) N M := by
  obtain ⟨k, e, l⟩ := h
  exact ⟨-k, by rw [Rat.neg_mul, e, Rat.intCast_neg], by omega⟩
theorem zb_sub {a b : Rat} {N M M' : Nat} (h : Zb a N M) (h' : Zb b N M') : Zb (a - b) N (M + M') := by
  rw [Rat.sub_eq_add_neg]
  exact zb_add h (zb_neg h')
theorem zb_mul {a b : Rat} {N N' M M' : Nat} (h : Zb a N M) (h' : Zb b N' M') : Zb (a * b) (N * N') (M * M') := by
  obtain ⟨k, e, l⟩ := h
  obtain ⟨k', e', l'⟩ := h'
  refine ⟨k * k', ?_, by rw [Int.natAbs_mul]; exact Nat.mul_le_mul l l'⟩
  rw [Rat.natCast_mul, Rat.intCast_mul, ← e, ← e']
  grind
theorem zb_up {a : Rat} {N M : Nat} (c : Nat) (h : Zb a N M) : Zb a (N * c) (M * c) := by
  obtain ⟨k, e, l⟩ := h
  refine ⟨k * (c : Int), ?_, by rw [Int.natAbs_mul]; exact Nat.mul_le_mul l (by omega)⟩
  rw [Rat.natCast_mul, Rat.intCast_mul, ← e, Rat.intCast_natCast]
  grind
theorem Zb.le {a : Rat} {N M M' : Nat} (h : Zb a N M) (l : M ≤ M') : Zb a N M' := by
  obtain ⟨k, e, l'⟩ := h
  exact ⟨k, e, Nat.le_trans l' l⟩
theorem Zb.bd {a : Rat} {N M : Nat} (h : Zb a N M) (h0 : N ≠ 0) : Bd a M N := by
  obtain ⟨k, e, l⟩ := h
  have hN : (N : Rat) ≠ 0 := fun z => h0 (by exact_mod_cast z)
  have e2 : a = Rat.divInt k (N : Int) := by
    rw [Rat.divInt_eq_div, ← e, Rat.intCast_natCast]
    grind
  rw [e2]
  exact (bd_divInt (by omega)).le l (by omega)
theorem zb_divInt {n d : Int} {N M c : Nat} (hd : d ≠ 0) (hN : (N : Int) = d * (c : Int)) (hl : n.natAbs * c ≤ M) : Zb (Rat.divInt n d) N M := by
  refine ⟨n * (c : Int), ?_, by rw [Int.natAbs_mul]; exact hl⟩
  have hd' : (d : Rat) ≠ 0 := fun z => hd (by exact_mod_cast z)
  have e : (N : Rat) = (d : Rat) * (c : Rat) := by
    rw [← Rat.intCast_natCast N, hN, Rat.intCast_mul, Rat.intCast_natCast]
  rw [Rat.divInt_eq_div, e, Rat.intCast_mul, Rat.intCast_natCast]
  grind
theorem zb_of {r : Rat} {p q N M : Nat} (h : Bd r p q) (hN : ∀ d, d ≤ q → d ≠ 0 → d ∣ N) (hl : p * N ≤ M) : Zb r N M := by
  obtain ⟨c, hc⟩ := hN r.den h.2 r.den_nz
  have hd := r.den_nz
  have e := zb_divInt (n := r.num) (d := (r.den : Int)) (N := N) (M := M) (c := c) (by omega) (by exact_mod_cast hc) (Nat.le_trans (Nat.mul_le_mul h.1 (show c ≤ N by rw [hc]; exact Nat.le_mul_of_pos_left _ (by omega))) hl)
  rwa [Rat.num_divInt_den] at e
end Z

namespace Z
open PySem PySem.Spec PyProof.Rows L2
def RevQ (K : PySem.W.Frag) (Q : VK) : VK := fun x H1 => ∃ a xs, x = .ref a ∧ SqL K H1 a xs ∧ ∀ p, H1 p = none → Q (.ref p) (upd H1 p (.lst xs.reverse))
section
variable {K : PySem.W.Frag} {H : Hp} {Q : VK} {p q : Addr} {xs ys : List V} {y : V} {σ : L2.St}
theorem z_revL {te : TE} (h : te σ H (RevQ K Q)) : tRevL K te σ H Q := h
theorem z_revE (h : SqL K H p xs) (k : ∀ a H', H a = none → Same H H' → H' a = some (.lst xs.reverse) → Q (.ref a) H') : RevQ K Q (.ref p) H :=
  ⟨p, xs, rfl, h, fun l hl => k l _ hl (same_upd hl) upd_same⟩
theorem z_pop (hp : H p = some (.lst (xs ++ [y]))) (k : Q y (upd H p (.lst xs))) : rPop (.ref p) [] H Q :=
  ⟨p, xs ++ [y], y, rfl, rfl, hp, by simp, by simpa using k⟩
theorem z_cat (h1 : H p = some (.lst xs)) (h2 : H q = some (.lst ys)) (hl : xs.length + ys.length ≤ 1000) (k : ∀ a H', H a = none → Same H H' → H' a = some (.lst (xs ++ ys)) → Q (.ref a) H') : rCat (.ref p) (.ref q) H Q :=
  ⟨p, q, xs, ys, rfl, rfl, h1, h2, sz hl, fun a ha => k a _ ha (same_upd ha) upd_same⟩
theorem z_extend (h1 : H p = some (.lst xs)) (h2 : H q = some (.lst ys)) (hl : xs.length + ys.length ≤ 1000) (k : Q .non (upd H p (.lst (xs ++ ys)))) : rExtend (.ref p) [.ref q] H Q :=
  ⟨p, q, xs, ys, rfl, rfl, h1, h2, sz hl, k⟩
theorem z_bm0L {r : V → List V → Hp → VK → Prop} {to : TE} (ho : ∀ R : VK, R (.ref p) H → to σ H R) (hp : H p = some (.lst xs)) (h : r (.ref p) [] H Q) : tBM0 K "list" r to σ H Q :=
  ho _ ⟨.inl ⟨rfl, _, .inl (.inl hp)⟩, h⟩
end
end Z

/-! set comprehensions, whatever the members are: `r` says what set.add asks, `fr` what the empty set is -/
namespace Sc
open PySem PySem.Spec PyProof.Rows L2 PpSet
abbrev AddR := V → List V → Hp → VK → Prop
/-- one turn's end: the member is added, or left out -/
def Keep (r : AddR) (D : Addr) (te : TE) (Nx : Hp → Prop) (σ2 : L2.St) (b : Bool) (H3 : Hp) : Prop := if b = true then te σ2 H3 fun y H4 => r (.ref D) [y] H4 fun _ H5 => Nx H5 else Nx H3
def tSet (r : AddR) (fr : Addr → HO) (wi : TI) (g : TG) (tt : TT) (te : TE) (vs : List Nat) : TE := fun σ H Q => wi σ H fun J H1 => ∀ D, H1 D = none → ∃ W : Nat → Nat → Hp → Prop,
  (∃ m, W 0 m (upd H1 D (fr D))) ∧ ∀ i m H, W i m H → (J.stop i H ∧ Q (.ref D) H) ∨ (J.go i H ∧ ∃ Nx : Hp → Prop, (∀ H', Nx H' → ∃ m', m' < m ∧ W (i + 1) m' H') ∧
    ∀ x H', J.yld i H x H' → g x (wipe σ vs) H' fun σ2 H2 => wipe σ2 vs = wipe σ vs ∧ tt σ2 H2 (Keep r D te Nx σ2))
abbrev freshSet (w : World) : Obj := { cls := .type "set", dict := none, data := .set #[] 0 (.fresh 0 0 (!w.params.followText "set-order")) }
section
variable {X : Cx}
theorem run_set {pins : List (Addr × Obj)} {s : Shared} {σ : L2.St} {H : Hp} {Q : VK} {r : AddR} {fr : Addr → HO} {elt tg iter : Expr} {ifs : List Expr} {scope : Scope} {own : List (PySem.Str × Nat)} {pos pos' : Pos} {wi : TI} {g : TG} {tt : TT} {te : TE} {use : Option (Value → Sem Unit)} {Qf : Value → Shared → Prop}
    (hfr : ∀ (H : Hp) (h : Heap) (a : Addr), a = h.objs.size → ObjOk X.prog X.w H (h.push (freshSet X.w)) a (fr a))
    (hr : ∀ (s : Shared) (H : Hp) (e : Env) (fp : List Addr), MtR (X.blk s H scope e fp) "set.add" r)
    (hc : X.calm = true) (hN : X.N.Nodup) (I : Inv X pins σ H s) (hi : PI X tg iter wi) (ok : BlkOk X.N X.env.scope scope own)
    (hg : ∀ (s : Shared) (H : Hp) (C : Addr) (cl : List (PySem.Str × Addr)) (fp : List Addr), PG (X.blk s H scope (compEnvC scope cl C X.env) fp) tg g)
    (ht : ∀ (s : Shared) (H : Hp) (C : Addr) (cl : List (PySem.Str × Addr)) (fp : List Addr), PTs (X.blk s H scope (compEnvC scope cl C X.env) fp) ifs tt)
    (he : ∀ (s : Shared) (H : Hp) (C : Addr) (cl : List (PySem.Str × Addr)) (fp : List Addr), PE (X.blk s H scope (compEnvC scope cl C X.env) fp) elt te)
    (hs : ∀ x, foldedSetIterable iter X.env x = pure x) (h : tSet r fr wi g tt te (own.map (·.2)) σ H Q)
    (hend : ∀ D C s' m H', Inv X pins σ H' s' → Q (.ref D) H' → s'.heap.Ns C m → FpOk X pins H' C → compPost (model X.prog X.w) X.A X.xe use Qf (.ref D) C (.ok .next) s') :
    wpAny (model X.prog X.w) X.A (comprehension (.SetComp elt [⟨tg, iter, ifs, 0⟩] scope pos) scope X.env pos' (newSet (.type "set")) false (eval iter X.env) use) Qf X.xe s := by
  have free0 : ∀ y ∈ scope.names, y.2 = .free → ∃ c, X.env.cells.lookup y.1 = some c := fun y hy e => (ok.free y hy e).elim (fun k => I.ok.has _ (.inl k)) fun k => I.ok.has _ (.inr k)
  refine wpAny_comprehension_free (use := use) rfl hs (closure_ok free0) ok.kind (fun y hy e => by rw [ok.uniq y hy, e]) ?_
  refine thn (hi.run pins s σ H _ I h) fun xv s1 hx => thn hx fun itv s2 h2 => ?_
  obtain ⟨it, fp, tn, J, H2, e, I2, T, st2, f2, q⟩ := h2
  subst e
  refine newSet_ok (newEnv_comp ?_)
  have hDn : H2 s2.heap.objs.size = none := I2.hok.fresh (Nat.le_refl _)
  obtain ⟨W, ⟨m0, w0⟩, turn⟩ := q _ hDn
  generalize hs3 : ({ s2 with heap := s2.heap.push (freshSet X.w) } : Shared) = s3
  have h3 : s3.heap = s2.heap.push (freshSet X.w) := by rw [← hs3]
  have I3 : Inv X pins σ (upd H2 s2.heap.objs.size (fr s2.heap.objs.size)) s3 := by
    rw [← hs3]
    exact I2.laid (t' := s2.toks) (fun b o e => Heap.get?_push_of_some _ e) (Nat.le_refl _) (hfr _ _ _ rfl)
  generalize hD : s2.heap.objs.size = D at *
  have old : ∀ b ∈ fp, b < D := fun b hb => by
    obtain ⟨o, e, _⟩ := T.obj _ _ st2 b hb
    rw [← hD]
    exact Heap.lt_size e
  have f3 : ∀ b ∈ fp, FpOk X pins (upd H2 D (fr D)) b ∧ b < s3.heap.objs.size := fun b hb => by
    have l := old b hb
    refine ⟨⟨?_, (f2 b hb).2⟩, ?_⟩
    · rw [upd_ne (Nat.ne_of_lt l)]
      exact (f2 b hb).1
    · rw [h3, Heap.size_push, hD]
      exact Nat.lt_succ_of_lt l
  have st3 : tn 0 s3.heap := T.keep _ _ _ st2 fun b _ o e => by
    rw [h3]
    exact Heap.get?_push_of_some _ e
  have I4 := block_start I3 ok hN f3
  generalize hH3 : upd H2 D (fr D) = H3 at I3 I4 w0 f3
  have pg := hg s3 H3 s3.heap.objs.size (cellsFrom (s3.heap.objs.size + 1) scope.names (cloFrom X.env.cells scope.names [])) fp
  have pt := ht s3 H3 s3.heap.objs.size (cellsFrom (s3.heap.objs.size + 1) scope.names (cloFrom X.env.cells scope.names [])) fp
  have pe := he s3 H3 s3.heap.objs.size (cellsFrom (s3.heap.objs.size + 1) scope.names (cloFrom X.env.cells scope.names [])) fp
  show codeAny _ _ (.compStart (.SetComp elt [⟨tg, iter, ifs, 0⟩] scope pos) 0 (.ref it) (.ref D) (compEnvC scope (cellsFrom (s3.heap.objs.size + 1) scope.names (cloFrom X.env.cells scope.names [])) s3.heap.objs.size X.env)) (compPost (model X.prog X.w) X.A X.xe use Qf (.ref D) s3.heap.objs.size) { s3 with heap := pushCells (s3.heap.push { cls := .type "dict", data := .dict #[] }) scope.names }
  generalize hce : compEnvC scope (cellsFrom (s3.heap.objs.size + 1) scope.names (cloFrom X.env.cells scope.names [])) s3.heap.objs.size X.env = ce at I4 pg pt pe ⊢
  have cL : ce.locals = s3.heap.objs.size := by rw [← hce] <;> rfl
  have ad := hr s3 H3 ce fp
  have nfp : ∀ b ∈ fp, H3 b = none := fun b hb => (f3 b hb).1.1
  generalize hs4 : ({ s3 with heap := pushCells (s3.heap.push { cls := .type "dict", data := .dict #[] }) scope.names } : Shared) = s4 at I4 ⊢
  have st4 : tn 0 s4.heap := T.keep _ _ _ st3 fun b _ o e => by
    rw [← hs4]
    exact pushCells_keeps _ _ _ _ (Heap.get?_push_of_some _ e)
  have stat : ∀ {σ' : L2.St} {H' : Hp} {s' : Shared}, Inv (X.blk s3 H3 scope ce fp) [] σ' H' s' → (∀ b ∈ fp, H' b = none) → ∀ b ∈ fp, FpOk (X.blk s3 H3 scope ce fp) [] H' b := fun I' hn b hb =>
    ⟨hn b hb, (I'.ok.exf b hb).1, I'.ok.exfs b hb, .inl hb, fun x c e => (I'.ok.exf b hb).2 x c e, fun p hp => nomatch (show p ∈ ([] : List (Addr × Obj)) from hp)⟩
  have loop : codeAny (model X.prog X.w) X.A (.compLoop (.SetComp elt [⟨tg, iter, ifs, 0⟩] scope pos) 0 (.ref it) (.ref D) ce) (compPost (model X.prog X.w) X.A X.xe use Qf (.ref D) s3.heap.objs.size) s4 := by
    refine compLoopS_any (fun n s' => ∃ i H', Inv (X.blk s3 H3 scope ce fp) [] (wipe σ (own.map (·.2))) H' s' ∧ tn i s'.heap ∧ (∀ b ∈ fp, H' b = none) ∧ W i n H') ?_ m0 ⟨0, H3, I4, st4, nfp, w0⟩
    rintro n s5 ⟨i, H5, I5, st5, n5, w5⟩
    rcases turn i n H5 w5 with ⟨stop, qq⟩ | ⟨go, Nx, hNx, step⟩
    · refine thnF (T.done (X.blk s3 H3 scope ce fp) rfl rfl rfl hc i [] s5 _ H5 (fun _ _ => False) I5 (stat I5 n5) st5 stop) fun r6 s6 ⟨hr6, I6⟩ => ?_
      subst hr6
      have I7 : Inv X pins σ H5 s6 := I3.call' (ch := fp) I6.os I6.base I6.hok I6.bare fun b hb => by
        obtain ⟨⟨_, a2, _, a4, a5, a6⟩, _⟩ := f3 b hb
        exact ⟨a4, a2, a5, a6⟩
      obtain ⟨m, hn, _⟩ := I6.loc
      have nC : H5 ce.locals = none := I6.free
      have hn : s6.heap.Ns ce.locals m := hn
      rw [cL] at hn nC
      exact hend D _ s6 m H5 I7 qq hn (I3.fpOk (Nat.le_refl _) nC)
    · refine thnF (T.item (X.blk s3 H3 scope ce fp) rfl rfl rfl hc i [] s5 _ H5 (fun _ _ => False) I5 (stat I5 n5) st5 go) fun r6 s6 ⟨u, hr6, h6⟩ => ?_
      subst hr6
      refine thnF h6 fun _ s7 ⟨x, H7, I7, r7, y7, st7, n7⟩ => ?_
      refine thnF (pg.run _ s7 _ H7 x u _ (I7.pinned (stat I7 n7) (T.obj _ _ st7)) r7 (step x H7 y7)) fun _ s8 ⟨σ8, H8, I8, hw8, q8⟩ => ?_
      refine thnF (pt.run _ s8 σ8 H8 _ I8 q8) fun b s9 ⟨H9, I9, q9⟩ => ?_
      have fin : ∀ {s' : Shared} {H' : Hp}, Inv (X.blk s3 H3 scope ce fp) ([] ++ pinsAt fp s7.heap) σ8 H' s' → Nx H' → ∃ m, m < n ∧ ∃ i H', Inv (X.blk s3 H3 scope ce fp) [] (wipe σ (own.map (·.2))) H' s' ∧ tn i s'.heap ∧ (∀ b ∈ fp, H' b = none) ∧ W i m H' := fun {s' H'} I' nx => by
        obtain ⟨m', hm, w'⟩ := hNx H' nx
        have keep : ∀ b ∈ fp, ∀ o, s7.heap.get? b = some o → s'.heap.get? b = some o ∧ H' b = none := fun b hb o e => by
          have z := I'.pin (b, o) (List.mem_append_right _ (List.mem_append_right _ (mem_pinsAt hb e)))
          exact ⟨z.1, z.2.1⟩
        refine ⟨m', hm, i + 1, H', (I'.unpinned (pins := [])).weak (by rw [← hw8, wipe_length]) (fun j v e => ?_), T.keep _ _ _ st7 fun b hb o e => (keep b hb o e).1, fun b hb => ?_, w'⟩
        · rw [← hw8] at e
          exact (wipe_some e).1
        · obtain ⟨o, e, _⟩ := T.obj _ _ st7 b hb
          exact (keep b hb o e).2
      have q9 : Keep r D te Nx σ8 b H9 := q9
      unfold Keep at q9
      cases b with
      | false =>
        rw [if_neg (by decide)] at q9
        exact fin I9 q9
      | true =>
        rw [if_pos rfl] at q9
        refine thnF (pe.run _ s9 σ8 H9 _ I9 q9) fun z s10 ⟨yv, H10, I10, r10, q10⟩ => ?_
        refine thnF (ad _ s10 σ8 H10 (.ref D) [yv] (.ref D) [z] _ I10 rfl (.cons r10 .nil) q10) fun _ s11 ⟨_, H11, I11, _, q11⟩ => fin I11 q11
  exact codeAny_compStart_set loop (T.self X.A 0 _ _ _ st4 loop)
theorem pe_set {r : AddR} {fr : Addr → HO} {elt tg iter : Expr} {ifs : List Expr} {scope : Scope} {own : List (PySem.Str × Nat)} {pos : Pos} {wi : TI} {g : TG} {tt : TT} {te : TE}
    (hfr : ∀ (H : Hp) (h : Heap) (a : Addr), a = h.objs.size → ObjOk X.prog X.w H (h.push (freshSet X.w)) a (fr a)) (hr : ∀ (s : Shared) (H : Hp) (e : Env) (fp : List Addr), MtR (X.blk s H scope e fp) "set.add" r)
    (hc : X.calm = true) (hN : X.N.Nodup) (hi : PI X tg iter wi) (ok : BlkOk X.N X.env.scope scope own)
    (hg : ∀ (s : Shared) (H : Hp) (C : Addr) (cl : List (PySem.Str × Addr)) (fp : List Addr), PG (X.blk s H scope (compEnvC scope cl C X.env) fp) tg g)
    (ht : ∀ (s : Shared) (H : Hp) (C : Addr) (cl : List (PySem.Str × Addr)) (fp : List Addr), PTs (X.blk s H scope (compEnvC scope cl C X.env) fp) ifs tt)
    (he : ∀ (s : Shared) (H : Hp) (C : Addr) (cl : List (PySem.Str × Addr)) (fp : List Addr), PE (X.blk s H scope (compEnvC scope cl C X.env) fp) elt te)
    (hs : ∀ x, foldedSetIterable iter X.env x = pure x := by intro _; rfl) : PE X (.SetComp elt [⟨tg, iter, ifs, 0⟩] scope pos) (tSet r fr wi g tt te (own.map (·.2))) := by
  constructor
  intro pins s σ H Q I h
  rw [eval_SetComp]
  refine run_set hfr hr hc hN I hi ok hg ht he hs h fun D C s' m H' I' q hn ⟨f0, f1, f2, f3, f4, f5⟩ => ⟨m, hn, fun h'' sb => ?_⟩
  exact ⟨.ref D, H', I'.turned (t' := s'.toks) (fun b o hb e => (sb.2 b hb).trans e) f0 f1 f3 f4 f5, rfl, q⟩
/-- sets of whole numbers -/
def frI (w : World) : Addr → HO := fun a => SetO w a (fun _ => false) 0
theorem pe_setI {elt tg iter : Expr} {ifs : List Expr} {scope : Scope} {own : List (PySem.Str × Nat)} {pos : Pos} {wi : TI} {g : TG} {tt : TT} {te : TE}
    (hc : X.calm = true) (hN : X.N.Nodup) (hi : PI X tg iter wi) (ok : BlkOk X.N X.env.scope scope own)
    (hg : ∀ (s : Shared) (H : Hp) (C : Addr) (cl : List (PySem.Str × Addr)) (fp : List Addr), PG (X.blk s H scope (compEnvC scope cl C X.env) fp) tg g)
    (ht : ∀ (s : Shared) (H : Hp) (C : Addr) (cl : List (PySem.Str × Addr)) (fp : List Addr), PTs (X.blk s H scope (compEnvC scope cl C X.env) fp) ifs tt)
    (he : ∀ (s : Shared) (H : Hp) (C : Addr) (cl : List (PySem.Str × Addr)) (fp : List Addr), PE (X.blk s H scope (compEnvC scope cl C X.env) fp) elt te)
    (hs : ∀ x, foldedSetIterable iter X.env x = pure x := by intro _; rfl) : PE X (.SetComp elt [⟨tg, iter, ifs, 0⟩] scope pos) (tSet (rSAdd X.w) (frI X.w) wi g tt te (own.map (·.2))) :=
  pe_set (fun H h a e => by subst e; exact setO_new (setR_fresh X.w)) (fun s H e fp => mt_sadd) hc hN hi ok hg ht he hs
end
/-! ### readings: the set of the numbers of a list that a test lets in -/
open Z
def tSetE (r : AddR) (fr : Addr → HO) (K : PySem.W.Frag) (g : TG) (tt : TT) (te : TE) (vs : List Nat) (σ : L2.St) (Q : VK) : VK := fun x H1 => tSet r fr (iList K (tC x)) g tt te vs σ H1 Q
section
variable {K : PySem.W.Frag} {H : Hp} {Q : VK} {σ : L2.St} {r : AddR} {fr : Addr → HO} {w : World}
theorem z_setE {tl : TE} {g : TG} {tt : TT} {te : TE} {vs : List Nat} (h : tl σ H (tSetE r fr K g tt te vs σ Q)) : tSet r fr (iList K tl) g tt te vs σ H Q := h
/-- the ints of ns that p lets in -/
def inI (p : Int → Bool) (ns : List Int) (S : Int → Bool) : Prop := ∀ k, S k = true ↔ k ∈ ns ∧ p k = true
theorem z_setI {k : Nat} {tt : TT} {vs : List Nat} {a : Addr} {ns : List Int} {te : TE} (p : Int → Bool) (hl : ns.length ≤ 1000) (hx : H a = some (.lst (ns.map V.int)))
    (hw : ∀ x, wipe ((wipe σ vs).set k (some x)) vs = wipe σ vs)
    (ht : ∀ (x : Int) (H' : Hp) (R : Bool → Hp → Prop), x ∈ ns → R (p x) H' → tt ((wipe σ vs).set k (some (.int x))) H' R)
    (he : ∀ (x : Int) (H' : Hp) (R : VK), x ∈ ns → R (.int x) H' → te ((wipe σ vs).set k (some (.int x))) H' R)
    (q : ∀ D H' S n, H D = none → Same H H' → H' D = some (SetO w D S n) → inI p ns S → n ≤ ns.length → Q (.ref D) H') :
    tSetE (rSAdd w) (frI w) K (gName k) tt te vs σ Q (.ref a) H := by
  refine ⟨a, rfl, ⟨_, .inl (.inl hx)⟩, fun D hD => ?_⟩
  have hDa : a ≠ D := ne_of_none hx hD
  let Pv : Nat → Hp → Prop := fun i H' => Same H H' ∧ ∃ S n, H' D = some (SetO w D S n) ∧ inI p (ns.take i) S ∧ n ≤ i
  refine ⟨fun i m H' => m = ns.length - i ∧ i ≤ ns.length ∧ Pv i H', ⟨ns.length, by simp, Nat.zero_le _, same_upd hD, _, 0, upd_same, fun k => by simp, Nat.le_refl _⟩, ?_⟩
  rintro i m H' ⟨rfl, hi, sm, S, n, hS, hin, hn⟩
  have ha := sm _ _ hx
  by_cases hlt : i < ns.length
  · refine .inr ⟨⟨_, .int ns[i], .inl (.inl ha), by simp [hlt]⟩, Pv (i + 1), fun H2 p2 => ⟨ns.length - (i + 1), by omega, rfl, hlt, p2⟩, fun x H2 y => ?_⟩
    obtain ⟨e, y⟩ := y
    subst e
    have e := y _ (.inl (.inl ha))
    have ex : x = .int ns[i] := by
      have e2 : (ns.map V.int)[i]? = some (.int ns[i]) := by simp [hlt]
      rw [e2] at e
      exact (Option.some.inj e).symm
    subst ex
    refine ⟨hw _, ht _ _ _ (List.getElem_mem hlt) ?_⟩
    have tk : ns.take (i + 1) = ns.take i ++ [ns[i]] := by rw [List.take_add_one, List.getElem?_eq_getElem hlt] <;> rfl
    unfold Keep
    by_cases c : p ns[i] = true
    · rw [if_pos c]
      refine he _ _ _ (List.getElem_mem hlt) ?_
      refine ⟨D, ns[i], S, n, rfl, rfl, hS, Nat.lt_of_le_of_lt (show n + 1 ≤ 1001 by omega) (by decide), ?_, _, _, upd_same, ?_, ?_⟩
      · exact fun b o e => by
          rw [upd_ne (ne_of_none e hD)]
          exact sm _ _ e
      · intro k
        rw [tk, List.mem_append, List.mem_singleton, Bool.or_eq_true, hin k, decide_eq_true_eq]
        constructor
        · rintro (⟨z1, z2⟩ | rfl)
          · exact ⟨.inl z1, z2⟩
          · exact ⟨.inr rfl, c⟩
        · rintro ⟨z1 | rfl, z2⟩
          · exact .inl ⟨z1, z2⟩
          · exact .inr rfl
      · split <;> omega
    · rw [if_neg c]
      refine ⟨sm, S, n, hS, fun k => ?_, by omega⟩
      rw [tk, List.mem_append, List.mem_singleton, hin k]
      constructor
      · rintro ⟨z1, z2⟩
        exact ⟨.inl z1, z2⟩
      · rintro ⟨z1 | rfl, z2⟩
        · exact ⟨z1, z2⟩
        · exact absurd z2 c
  · have e : i = ns.length := by omega
    subst e
    refine .inl ⟨⟨_, .inl (.inl ha), by simp⟩, q D H' S n hD sm hS (by rwa [List.take_length] at hin) hn⟩
/-- sorted(set of ints) -/
theorem z_sortedSet {a : Addr} {S : Int → Bool} {n : Nat} (h : H a = some (SetO w a S n)) (hn : n < 64) (q : ∀ (ns : List Int) (p : Addr) (H' : Hp), ns.Pairwise (· < ·) → (∀ k, k ∈ ns ↔ S k = true) → ns.length = n → H p = none → Same H H' → H' p = some (.lst (ns.map V.int)) → Q (.ref p) H') :
    rSortedSet w [.ref a] H Q := ⟨a, S, n, rfl, h, hn, fun ns p h1 h2 h3 hp => q ns p _ h1 h2 h3 hp (same_upd hp) upd_same⟩
end
end Sc

namespace Z
open PySem PySem.Spec PyProof.Rows L2
def rMax2 : List V → Hp → VK → Prop := fun xs H Q => ∃ i j, xs = [.int i, .int j] ∧ Q (.int (if j > i then j else i)) H
def rMin2 : List V → Hp → VK → Prop := fun xs H Q => ∃ i j, xs = [.int i, .int j] ∧ Q (.int (if j < i then j else i)) H
theorem c_max2 {X : Cx} (hc : X.calm = true) : CallR X (.builtin "max") rMax2 := call_max2 hc
theorem c_min2 {X : Cx} (hc : X.calm = true) : CallR X (.builtin "min") rMin2 := call_min2 hc
def rDivmod : List V → Hp → VK → Prop := fun xs H Q => ∃ i j, xs = [.int i, .int j] ∧ CDiv i j ∧ ∀ p, H p = none → Q (.ref p) (upd H p (.tup [.int (i / j), .int (i % j)]))
theorem c_divmod {X : Cx} : CallR X (.builtin "divmod") rDivmod := call_divmod
def TruQ (K : PySem.W.Frag) (QB : Bool → Hp → Prop) : VK := fun x H' => ∃ k, TruV K x H' k ∧ QB k H'
def tTru (K : PySem.W.Frag) (te : TE) : TT := fun σ H QB => te σ H (TruQ K QB)
theorem pt_tru {X : Cx} {a : Expr} {ta : TE} (ha : PE X a ta) (he : ∀ whole, isTrue a X.env whole = (do let v ← whole; standAt a.pos; holding [v] (truthy v))) : PT X a (tTru X.K ta) := pt_truth ha he
section
variable {K : PySem.W.Frag} {σ : L2.St} {H : Hp} {Q : VK} {QB : Bool → Hp → Prop} {i j : Int} {v x y : V} {p q l : Addr} {xs ys : List V} {te : TE}
theorem z_max2 (h : Q (.int (if j > i then j else i)) H) : rMax2 [.int i, .int j] H Q := ⟨i, j, rfl, h⟩
theorem z_min2 (h : Q (.int (if j < i then j else i)) H) : rMin2 [.int i, .int j] H Q := ⟨i, j, rfl, h⟩
theorem z_divmod (c : 0 < j ∧ j < 1073741824) (h : ∀ p H', H p = none → Same H H' → H' p = some (.tup [.int (i / j), .int (i % j)]) → Q (.ref p) H') : rDivmod [.int i, .int j] H Q :=
  ⟨i, j, rfl, c, fun a ha => h a _ ha (same_upd ha) upd_same⟩
theorem z_tru (h : te σ H (TruQ K QB)) : tTru K te σ H QB := h
/-- a test whose answer is known -/
theorem z_known {tt : TT} (k : Bool) (h : ∀ R : Bool → Hp → Prop, R k H → tt σ H R) (q : QB k H) : tt σ H QB := h QB q
/-- a test that is known to fail -/
theorem z_skip {n : L2.St → Hp → Prop} {r : VK} {b c : L2.St → Hp → Prop} {tt : TT} {t : TS} (h : ∀ R : Bool → Hp → Prop, R false H → tt σ H R) (q : n σ H) : tIfS tt t tNext ⟨n, r, b, c⟩ σ H := by
  refine h _ ?_
  rw [if_neg (by decide)]
  exact q
theorem z_truL (h : H p = some (.lst xs)) (q : QB (!xs.isEmpty) H) : TruQ K QB (.ref p) H := ⟨_, .inl ⟨xs, .inl (.inl h), rfl⟩, q⟩
theorem z_truT (h : SqT K H p xs) (q : QB (!xs.isEmpty) H) : TruQ K QB (.ref p) H := ⟨_, .inr (.inl ⟨xs, h, rfl⟩), q⟩
theorem z_truI (q : QB (i != 0) H) : TruQ K QB (.int i) H := ⟨_, rfl, q⟩
theorem rep_one (v : V) : ∀ m : Nat, (List.replicate m [v]).flatten = List.replicate m v
  | 0 => rfl
  | m + 1 => by
    rw [List.replicate_succ, List.flatten_cons, rep_one v m, List.replicate_succ]
    rfl
theorem z_rep (m : Nat) (h : H l = some (.lst [v])) (hj : j = (m : Int)) (hm : m ≤ 1000) (q : ∀ a H', H a = none → Same H H' → H' a = some (.lst (List.replicate m v)) → Q (.ref a) H') : rRep (.ref l) (.int j) H Q := by
  subst hj
  refine ⟨l, (m : Int), [v], rfl, rfl, h, by omega, by omega, Nat.le_trans (show [v].length * (m : Int).toNat ≤ 1000 by simpa using hm) (by decide), fun a ha => ?_⟩
  rw [Int.toNat_natCast, rep_one v m]
  exact q a _ ha (same_upd ha) upd_same
/-! while -/
/-- the number in slot k, as a measure -/
def muI (k : Nat) : L2.St → Hp → Nat := fun σ _ => match (σ[k]? : Option (Option V)) with
  | some (some (V.int m)) => m.toNat
  | _ => 0
def WB (Pv : L2.St → Hp → Prop) (μ : L2.St → Hp → Nat) (m : Nat) (tb : TS) (n : L2.St → Hp → Prop) (r : VK) (σ : L2.St) : Bool → Hp → Prop := fun b H1 =>
  if b = true then ∃ N : L2.St → Hp → Prop, (∀ σ' H', N σ' H' → ∃ m', m' < m ∧ m' = μ σ' H' ∧ Pv σ' H') ∧ tb ⟨N, r, n, N⟩ σ H1 else n σ H1
section
variable {Pv : L2.St → Hp → Prop} {μ : L2.St → Hp → Nat} {m : Nat} {tb : TS} {n : L2.St → Hp → Prop} {r : VK} {b c : L2.St → Hp → Prop}
theorem z_wbT (h : tb ⟨fun σ' H' => Pv σ' H' ∧ μ σ' H' < m, r, n, fun σ' H' => Pv σ' H' ∧ μ σ' H' < m⟩ σ H) : WB Pv μ m tb n r σ true H := by
  unfold WB
  rw [if_pos rfl]
  exact ⟨_, fun σ' H' z => ⟨_, z.2, rfl, z.1⟩, h⟩
theorem z_wbF (h : n σ H) : WB Pv μ m tb n r σ false H := by
  unfold WB
  rw [if_neg (by decide)]
  exact h
theorem z_wb {p : Prop} [Decidable p] (h1 : p → tb ⟨fun σ' H' => Pv σ' H' ∧ μ σ' H' < m, r, n, fun σ' H' => Pv σ' H' ∧ μ σ' H' < m⟩ σ H) (h2 : ¬ p → n σ H) : WB Pv μ m tb n r σ (decide p) H := by
  by_cases h : p
  · rw [decide_eq_true h]
    exact z_wbT (h1 h)
  · rw [decide_eq_false h]
    exact z_wbF (h2 h)
theorem z_while {tt : TT} (Pv : L2.St → Hp → Prop) (μ : L2.St → Hp → Nat) (h0 : Pv σ H) (hs : ∀ σ H, Pv σ H → tt σ H (WB Pv μ (μ σ H) tb n r σ)) : tWhile tt tb ⟨n, r, b, c⟩ σ H := by
  refine ⟨fun m σ H => m = μ σ H ∧ Pv σ H, ⟨_, rfl, h0⟩, ?_⟩
  rintro m σ H ⟨rfl, p⟩
  exact hs σ H p
end
/-! comprehensions over a range, over a list: the list at D grows -/
def LcB (D : Addr) (i : Nat) (Pv : Nat → Addr → List V → Hp → Prop) (Nx : Hp → Prop) : VK := fun y H4 => ∃ acc, H4 D = some (.lst acc) ∧ acc.length < sizeLine ∧ Nx (upd H4 D (.lst (acc ++ [y])))
theorem z_lcB {D : Addr} {i : Nat} {Pv : Nat → Addr → List V → Hp → Prop} {acc : List V} (h : H D = some (.lst acc)) (hl : acc.length = i) (hi : i < 1000) (q : ∀ H', H' D = some (.lst (acc ++ [y])) → Kp D H H' → (∀ b, b ≠ D → H' b = H b) → Pv (i + 1) D (acc ++ [y]) H') :
    LcB D i Pv (fun H' => ∃ acc', acc'.length = i + 1 ∧ H' D = some (.lst acc') ∧ Pv (i + 1) D acc' H') y H :=
  ⟨acc, h, Nat.lt_of_lt_of_le (show acc.length < 1000 by omega) (by decide), acc ++ [y], by simp [hl], upd_same, q _ upd_same (fun b o hb e => by rw [upd_ne hb]; exact e) fun b hb => upd_ne hb⟩
abbrev LcN (D : Addr) (i : Nat) (Pv : Nat → Addr → List V → Hp → Prop) : VK := LcB D i Pv (fun H' => ∃ acc', acc'.length = i + 1 ∧ H' D = some (.lst acc') ∧ Pv (i + 1) D acc' H')
theorem z_lcR {ta : TA} {k : Nat} {te : TE} {vs : List Nat} (m : Nat) (hm : m ≤ 1000) (ha : ∀ R : List V → Hp → Prop, R [.int (m : Int)] H → ta σ H R) (hw : ∀ x, wipe ((wipe σ vs).set k (some x)) vs = wipe σ vs) (Pv : Nat → Addr → List V → Hp → Prop)
    (h0 : ∀ D H', H D = none → Same H H' → H' D = some (.lst []) → Pv 0 D [] H')
    (hs : ∀ i D acc H', i < m → acc.length = i → H' D = some (.lst acc) → Pv i D acc H' → te ((wipe σ vs).set k (some (.int (i : Int)))) H' (LcN D i Pv))
    (hd : ∀ D acc H', H D = none → acc.length = m → H' D = some (.lst acc) → Pv m D acc H' → Q (.ref D) H') : tLc (iRng1 ta) (gName k) tYes te vs σ H Q := by
  refine ha _ ⟨(m : Int), rfl, by omega, by omega, fun D hD => ?_⟩
  refine lc_range (lo := 0) (n := (m : Int).toNat) (fun i H' => ∃ acc, acc.length = i ∧ H' D = some (.lst acc) ∧ Pv i D acc H') ⟨[], rfl, upd_same, h0 D _ hD (same_upd hD) upd_same⟩ (fun i H' hi ⟨acc, hl, hH, pv⟩ => ?_) (fun H' ⟨acc, hl, hH, pv⟩ => hd D acc H' hD (by simpa using hl) hH (by simpa using pv))
  have e : (0 : Int) + (i : Int) = (i : Int) := Int.zero_add _
  show wipe ((wipe σ vs).set k (some (.int ((0 : Int) + (i : Int))))) vs = wipe σ vs ∧ _
  refine ⟨hw _, z_yes (z_ifT ?_)⟩
  rw [e]
  exact hs i D acc H' (by simpa using hi) hl hH pv
def LcE (K : PySem.W.Frag) (g : TG) (tt : TT) (te : TE) (vs : List Nat) (σ : L2.St) (Q : VK) : VK := fun x H1 => tLc (iList K (tC x)) g tt te vs σ H1 Q
theorem z_lcE {tl : TE} {g : TG} {tt : TT} {vs : List Nat} (h : tl σ H (LcE K g tt te vs σ Q)) : tLc (iList K tl) g tt te vs σ H Q := h
def LcRE (g : TG) (tt : TT) (te : TE) (vs : List Nat) (σ : L2.St) (Q : VK) : List V → Hp → Prop := fun xs H1 => tLc (iRng1 fun _ H R => R xs H) g tt te vs σ H1 Q
theorem z_lcRE {ta : TA} {g : TG} {tt : TT} {vs : List Nat} (h : ta σ H (LcRE g tt te vs σ Q)) : tLc (iRng1 ta) g tt te vs σ H Q := h
theorem z_lcRr {k : Nat} {vs : List Nat} (m : Nat) (hm : m ≤ 1000) (hw : ∀ x, wipe ((wipe σ vs).set k (some x)) vs = wipe σ vs) (Pv : Nat → Addr → List V → Hp → Prop)
    (h0 : ∀ D H', H D = none → Same H H' → H' D = some (.lst []) → Pv 0 D [] H')
    (hs : ∀ i D acc H', i < m → acc.length = i → H' D = some (.lst acc) → Pv i D acc H' → te ((wipe σ vs).set k (some (.int (i : Int)))) H' (LcN D i Pv))
    (hd : ∀ D acc H', H D = none → acc.length = m → H' D = some (.lst acc) → Pv m D acc H' → Q (.ref D) H') : LcRE (gName k) tYes te vs σ Q [.int (m : Int)] H := z_lcR m hm (fun R q => q) hw Pv h0 hs hd
/-- over a list that stands as long as Pv -/
theorem z_lcLs {k : Nat} {vs : List Nat} {a : Addr} (hm : xs.length ≤ 1000) (hx : SqL K H a xs) (hw : ∀ x, wipe ((wipe σ vs).set k (some x)) vs = wipe σ vs) (Pv : Nat → Addr → List V → Hp → Prop)
    (h0 : ∀ D H', H D = none → Same H H' → H' D = some (.lst []) → Pv 0 D [] H') (hl : ∀ i D acc H', Pv i D acc H' → SqL K H' a xs)
    (hs : ∀ i x D acc H', xs[i]? = some x → acc.length = i → H' D = some (.lst acc) → Pv i D acc H' → te ((wipe σ vs).set k (some x)) H' (LcN D i Pv))
    (hd : ∀ D acc H', H D = none → acc.length = xs.length → H' D = some (.lst acc) → Pv xs.length D acc H' → Q (.ref D) H') : LcE K (gName k) tYes te vs σ Q (.ref a) H := by
  refine ⟨a, rfl, ⟨xs, hx⟩, fun D hD => ?_⟩
  refine lc_list (xs := xs) (fun i H' => ∃ acc, acc.length = i ∧ H' D = some (.lst acc) ∧ Pv i D acc H') ⟨[], rfl, upd_same, h0 D _ hD (same_upd hD) upd_same⟩ (fun i H' _ ⟨acc, _, _, pv⟩ => hl _ _ _ _ pv) (fun i x H' hi ⟨acc, hl, hH, pv⟩ => ?_) (fun H' ⟨acc, hl, hH, pv⟩ => hd D acc H' hD hl hH pv)
  show wipe ((wipe σ vs).set k (some x)) vs = wipe σ vs ∧ _
  exact ⟨hw _, z_yes (z_ifT (hs i x D acc H' hi hl hH pv))⟩
/-- any target -/
theorem z_lcG {g : TG} {vs : List Nat} {a : Addr} (hm : xs.length ≤ 1000) (hx : SqL K H a xs) (Pv : Nat → Addr → List V → Hp → Prop)
    (h0 : ∀ D H', H D = none → Same H H' → H' D = some (.lst []) → Pv 0 D [] H') (hl : ∀ i D acc H', Pv i D acc H' → SqL K H' a xs)
    (hs : ∀ i x D acc H', xs[i]? = some x → acc.length = i → H' D = some (.lst acc) → Pv i D acc H' → g x (wipe σ vs) H' fun σ2 H2 => wipe σ2 vs = wipe σ vs ∧ te σ2 H2 (LcN D i Pv))
    (hd : ∀ D acc H', H D = none → acc.length = xs.length → H' D = some (.lst acc) → Pv xs.length D acc H' → Q (.ref D) H') : LcE K g tYes te vs σ Q (.ref a) H := by
  refine ⟨a, rfl, ⟨xs, hx⟩, fun D hD => ?_⟩
  refine lc_list (xs := xs) (fun i H' => ∃ acc, acc.length = i ∧ H' D = some (.lst acc) ∧ Pv i D acc H') ⟨[], rfl, upd_same, h0 D _ hD (same_upd hD) upd_same⟩ (fun i H' _ ⟨acc, _, _, pv⟩ => hl _ _ _ _ pv) (fun i x H' hi ⟨acc, hl, hH, pv⟩ => ?_) (fun H' ⟨acc, hl, hH, pv⟩ => hd D acc H' hD hl hH pv)
  have h := hs i x D acc H' hi hl hH pv
  have e : (fun σ2 H2 => wipe σ2 vs = wipe σ vs ∧ te σ2 H2 (LcN D i Pv)) = (fun (σ2 : L2.St) (H2 : Hp) => wipe σ2 vs = wipe σ vs ∧ tYes σ2 H2 fun b H3 => if b = true then te σ2 H3 (LcN D i Pv) else ∃ acc', acc'.length = i + 1 ∧ H3 D = some (.lst acc') ∧ Pv (i + 1) D acc' H3) := by
    funext σ2 H2
    show _ = (wipe σ2 vs = wipe σ vs ∧ if true = true then te σ2 H2 (LcN D i Pv) else ∃ acc', acc'.length = i + 1 ∧ H2 D = some (.lst acc') ∧ Pv (i + 1) D acc' H2)
    rw [if_pos rfl]
  rw [e] at h
  exact h
/-- where the item answers at once -/
theorem z_lcS {k : Nat} {vs : List Nat} {a : Addr} (ws : List V) (hlen : ws.length = xs.length) (hm : xs.length ≤ 1000) (hx : H a = some (.lst xs)) (hw : ∀ x, wipe ((wipe σ vs).set k (some x)) vs = wipe σ vs)
    (body : ∀ (i : Nat) (x w : V) (H' : Hp), xs[i]? = some x → ws[i]? = some w → Same H H' → ∀ R : VK, R w H' → te ((wipe σ vs).set k (some x)) H' R)
    (hd : ∀ D H', H D = none → Same H H' → H' D = some (.lst ws) → Q (.ref D) H') : LcE K (gName k) tYes te vs σ Q (.ref a) H :=
  z_lcM (tl := tC (.ref a)) hlen hm (fun R q => q) hx hw body hd
end
/-! ### data: numbers, lists of numbers -/
def Fl (n : Nat) (d : PyData) : Prop := PyData.canLay0 d = true ∧ PyData.depth d ≤ n
theorem fl_all {n : Nat} : ∀ {ds : List PyData}, (∀ d ∈ ds, Fl n d) → PyData.canLayAll0 ds = true ∧ PyData.depthAll ds ≤ n
  | [], _ => ⟨rfl, Nat.zero_le _⟩
  | d :: ds, h => by
    have h1 := h d (.head _)
    have h2 := fl_all (ds := ds) fun x hx => h x (.tail _ hx)
    refine ⟨?_, ?_⟩
    · show (PyData.canLay0 d && PyData.canLayAll0 ds) = true
      rw [h1.1, h2.1]
      rfl
    · show max (PyData.depth d) (PyData.depthAll ds) ≤ n
      have := h1.2
      have := h2.2
      omega
theorem fl_list {n : Nat} {ds : List PyData} (h : ∀ d ∈ ds, Fl n d) : Fl (n + 1) (.list ds) := ⟨(fl_all h).1, Nat.succ_le_succ (fl_all h).2⟩
theorem fl_tup {n : Nat} {ds : List PyData} (h : ∀ d ∈ ds, Fl n d) : Fl (n + 1) (.tuple ds) := ⟨(fl_all h).1, Nat.succ_le_succ (fl_all h).2⟩
theorem fl_int (i : Int) : Fl 0 (.int i) := ⟨rfl, Nat.le_refl 0⟩
theorem shaped_fl {n : Nat} {d : PyData} (h : Fl n d) (hn : n ≤ 64 := by decide) : SeqAt.shaped d = true := by
  unfold SeqAt.shaped
  rw [Bool.and_eq_true]
  exact ⟨h.1, decide_eq_true (Nat.le_trans h.2 hn)⟩
theorem fl_ints (ns : List Int) : Fl 1 (.list (ns.map .int)) := fl_list fun d hd => by
  obtain ⟨i, _, rfl⟩ := List.mem_map.mp hd
  exact fl_int i
section
variable {K : PySem.W.Frag} {H : Hp} {Q : VK} {p q : Addr}
theorem dpa_ints : ∀ (ns : List Int), DpAll K H (ns.map V.int) (ns.map PyData.int)
  | [] => .nil
  | n :: ns => .cons (.int n) (dpa_ints ns)
theorem dp_ints {ns : List Int} (h : H p = some (.lst (ns.map V.int))) : Dp K H (.ref p) (.list (ns.map .int)) := .lst (.inl (.inl h)) (dpa_ints ns)
theorem eqv_intsA : ∀ (ns ms : List Int), PyData.eqv (.list (ns.map .int)) (.list (ms.map .int)) = decide (ns = ms)
  | [], [] => rfl
  | [], m :: ms => rfl
  | n :: ns, [] => rfl
  | n :: ns, m :: ms => by
    have ih := eqv_intsA ns ms
    show ((n == m) && PyData.eqv (.list (ns.map .int)) (.list (ms.map .int))) = _
    rw [ih]
    by_cases h : n = m
    · subst h
      by_cases h2 : ns = ms
      · simp [h2]
      · simp [h2]
    · simp [h]
theorem z_eqInts {ns ms : List Int} (h1 : H p = some (.lst (ns.map V.int))) (h2 : H q = some (.lst (ms.map V.int))) (k : Q (.bl (decide (ns = ms))) H) : rEqD K (.ref p) (.ref q) H Q :=
  ⟨_, _, dp_ints h1, dp_ints h2, shaped_fl (fl_ints ns), shaped_fl (fl_ints ms), by rw [eqv_intsA]; exact k⟩
theorem z_neInts {ns ms : List Int} (h1 : H p = some (.lst (ns.map V.int))) (h2 : H q = some (.lst (ms.map V.int))) (k : Q (.bl (decide (¬ ns = ms))) H) : rNeD K (.ref p) (.ref q) H Q :=
  ⟨_, _, dp_ints h1, dp_ints h2, shaped_fl (fl_ints ns), shaped_fl (fl_ints ms), by
    rw [eqv_intsA, show (!decide (ns = ms)) = decide (¬ ns = ms) by simp]
    exact k⟩
theorem inV_int (i : Int) : ∀ (ns : List Int), inV (.int i) (ns.map V.int) = decide (i ∈ ns)
  | [] => rfl
  | n :: ns => by
    have ih := inV_int i ns
    show (eqV (.int n) (.int i) || inV (.int i) (ns.map V.int)) = _
    rw [ih, show eqV (.int n) (.int i) = decide (n = i) by first | rfl | simp [eqV]]
    by_cases h : n = i
    · subst h
      simp
    · have h' : ¬ i = n := fun z => h z.symm
      simp [h, h']
theorem flat_ints (ns : List Int) : (ns.map V.int).all flatV = true := by
  rw [List.all_eq_true]
  intro v hv
  obtain ⟨i, _, rfl⟩ := List.mem_map.mp hv
  rfl
theorem z_inI {i : Int} {ns : List Int} (h : H p = some (.lst (ns.map V.int))) (k : Q (.bl (decide (i ∈ ns))) H) : rIn K false (.int i) (.ref p) H Q :=
  ⟨p, _, rfl, .inl (.inl (.inl h)), rfl, flat_ints ns, by rw [inV_int]; exact k⟩
theorem z_notInI {i : Int} {ns : List Int} (h : H p = some (.lst (ns.map V.int))) (k : Q (.bl (decide (¬ i ∈ ns))) H) : rIn K true (.int i) (.ref p) H Q :=
  ⟨p, _, rfl, .inl (.inl (.inl h)), rfl, flat_ints ns, by
    rw [inV_int, show (if true = true then !decide (i ∈ ns) else decide (i ∈ ns)) = decide (¬ i ∈ ns) by simp]
    exact k⟩
theorem z_sortedI {ns : List Int} (h : H p = some (.lst (ns.map V.int))) (k : ∀ (ms : List Int) (a : Addr) (H' : Hp), ms.Perm ns → ms.Pairwise (· ≤ ·) → H a = none → Same H H' → H' a = some (.lst (ms.map V.int)) → Q (.ref a) H') : rSortedI K [.ref p] H Q :=
  ⟨p, ns, rfl, .inl (.inl h), fun ms a h1 h2 ha => k ms a _ h1 h2 ha (same_upd ha) upd_same⟩
/-- truth values -/
theorem inV_bl (i : Bool) : ∀ (ns : List Bool), inV (.bl i) (ns.map V.bl) = decide (i ∈ ns)
  | [] => rfl
  | n :: ns => by
    have ih := inV_bl i ns
    show (eqV (.bl n) (.bl i) || inV (.bl i) (ns.map V.bl)) = _
    rw [ih]
    cases n <;> cases i <;> simp [eqV]
theorem flat_bls (ns : List Bool) : (ns.map V.bl).all flatV = true := by
  rw [List.all_eq_true]
  intro v hv
  obtain ⟨i, _, rfl⟩ := List.mem_map.mp hv
  rfl
theorem z_inB {i : Bool} {ns : List Bool} (h : H p = some (.lst (ns.map V.bl))) (k : Q (.bl (decide (i ∈ ns))) H) : rIn K false (.bl i) (.ref p) H Q :=
  ⟨p, _, rfl, .inl (.inl (.inl h)), rfl, flat_bls ns, by rw [inV_bl]; exact k⟩
theorem z_notInB {i : Bool} {ns : List Bool} (h : H p = some (.lst (ns.map V.bl))) (k : Q (.bl (decide (¬ i ∈ ns))) H) : rIn K true (.bl i) (.ref p) H Q :=
  ⟨p, _, rfl, .inl (.inl (.inl h)), rfl, flat_bls ns, by
    rw [inV_bl, show (if true = true then !decide (i ∈ ns) else decide (i ∈ ns)) = decide (¬ i ∈ ns) by simp]
    exact k⟩
theorem z_notNI {i : Int} (q : Q (.bl true) H) : rNotN (.int i) .non H Q := ⟨rfl, by simpa using q⟩
theorem z_isNI {i : Int} (q : Q (.bl false) H) : rIsN (.int i) .non H Q := ⟨rfl, by simpa using q⟩
theorem fresh_of {H H' : Hp} {a : Addr} (s : Same H H') (h : H' a = none) : H a = none := by
  cases z : H a with
  | none => rfl
  | some o =>
    have := s _ _ z
    rw [h] at this
    cases this
/-- sorted(ints) -/
theorem z_sorted {ns : List Int} (h : H p = some (.lst (ns.map V.int))) (hl : ns.length < 64) (k : ∀ (ms : List Int) (a : Addr) (H' : Hp), ms.Perm ns → ms.Pairwise (· ≤ ·) → H a = none → Same H H' → H' a = some (.lst (ms.map V.int)) → Q (.ref a) H') : rSorted K [.ref p] H Q :=
  ⟨p, ns, rfl, .inl (.inl h), hl, fun ms a h1 h2 ha => k ms a _ h1 h2 ha (same_upd ha) upd_same⟩
end
end Z

namespace Z
open PySem PySem.Spec PyProof PyProof.Rows L2
theorem get_list {X : Cx} : PGet X (rIxL X.K) := by
  intro pins s σ H o i ov iv Q I ro ri h
  obtain ⟨p, xs, k, z, rfl, rfl, hq, he, q⟩ := h
  cases ro
  obtain ⟨t, rfl⟩ := ri
  obtain ⟨its, r, pl, hz⟩ := I.list hq
  obtain ⟨j, h1, h2, h3, h4, h5⟩ := atI_get he
  obtain ⟨w, ew, rw'⟩ := r.get h2
  have hl := r.length
  have hn := line63
  by_cases h0 : 0 ≤ k
  · have hj : k.toNat = j := by
      rw [seqIndex_of h0 h5] at h1
      exact Option.some.inj h1
    exact wpAny_getItem_list pl.isList h0 (by omega) (by rw [hj]; simpa using ew) ⟨z, H, I, rw', q⟩
  · have hj : (k + (its.toArray.size : Int)).toNat = j := by
      rw [seqIndex_neg (by omega) h4] at h1
      rw [List.size_toArray, ← hl]
      exact Option.some.inj h1
    exact wpAny_getItem_list_neg pl.isList (by omega) (by rw [List.size_toArray, ← hl]; omega) (by omega) (by rw [hj]; simpa using ew) ⟨z, H, I, rw', q⟩
section
variable {K : PySem.W.Frag} {σ : L2.St} {H H' : Hp} {Q : VK} {p q : Addr} {xs ys : List V} {v y : V} {n : L2.St → Hp → Prop} {r : VK} {b c : L2.St → Hp → Prop} {tb : TS}
theorem z_augS {to ti te : TE} {tip : TIp} {st : TSet} {tget : V → V → Hp → VK → Prop} (h : to σ H fun o H1 => ti σ H1 fun i H2 => tget o i H2 fun x H3 => te σ H3 fun y H4 => tip x y H4 fun z H5 => st o i z H5 fun H6 => n σ H6) : tAugS to ti te tget tip st ⟨n, r, b, c⟩ σ H := h
/-- for k in range(lo, hi), whatever the two are -/
theorem z_forR2g {ta : TA} {k : Nat} (lo hi : Int) (hl : -(2 ^ 61) ≤ lo ∧ lo < 2 ^ 61) (hh : -(2 ^ 61) ≤ hi ∧ hi < 2 ^ 61) (ha : ∀ R : List V → Hp → Prop, R [.int lo, .int hi] H → ta σ H R) (Pv : Nat → L2.St → Hp → Prop) (h0 : Pv 0 σ H)
    (hs : ∀ i σ H, i < (hi - lo).toNat → Pv i σ H → tb ⟨Pv (i + 1), r, n, Pv (i + 1)⟩ (σ.set k (some (.int (lo + (i : Int))))) H) (hd : ∀ σ H, Pv (hi - lo).toNat σ H → n σ H) : tFor (iRng2 ta) (gName k) tb ⟨n, r, b, c⟩ σ H :=
  ha _ ⟨lo, hi, rfl, by omega, for_range (lo := lo) (n := (hi - lo).toNat) Pv h0 hs hd⟩
theorem z_extendW (h1 : H p = some (.lst xs)) (h2 : H q = some (.lst ys)) (hl : xs.length + ys.length ≤ 1000000) (k : Q .non (upd H p (.lst (xs ++ ys)))) : rExtend (.ref p) [.ref q] H Q :=
  ⟨p, q, xs, ys, rfl, rfl, h1, h2, Nat.le_trans hl (by decide), k⟩
theorem z_appendW (hp : H p = some (.lst xs)) (hl : xs.length < 1000000) (k : Q .non (upd H p (.lst (xs ++ [y])))) : rAppend (.ref p) [y] H Q := ⟨p, xs, y, rfl, rfl, hp, Nat.lt_of_lt_of_le hl (by decide), k⟩
/-! lists of data -/
theorem dpa_len : ∀ {ds : List PyData} {vs : List V}, DpAll K H vs ds → vs.length = ds.length
  | [], vs, h => by rw [dpa_nil h]; rfl
  | d :: ds, vs, h => by
    obtain ⟨v, t, rfl, _, h2⟩ := dpa_cons h
    rw [List.length_cons, List.length_cons, dpa_len h2]
theorem dpa_get : ∀ {ds : List PyData} {vs : List V} {i : Nat} {d : PyData}, DpAll K H vs ds → ds[i]? = some d → ∃ v, vs[i]? = some v ∧ Dp K H v d
  | [], _, _, _, _, e => by simp at e
  | d' :: ds, vs, i, d, h, e => by
    obtain ⟨v, t, rfl, h1, h2⟩ := dpa_cons h
    cases i with
    | zero =>
      cases e
      exact ⟨v, rfl, h1⟩
    | succ i =>
      have h5 := dpa_get (i := i) h2 (show ds[i]? = some _ from e)
      exact h5
theorem dpa_getv {ds : List PyData} {vs : List V} {i : Nat} {v : V} (h : DpAll K H vs ds) (e : vs[i]? = some v) : ∃ d, ds[i]? = some d ∧ Dp K H v d := by
  have hi : i < vs.length := (List.getElem?_eq_some_iff.mp e).1
  obtain ⟨w, hw, d⟩ := dpa_get h (List.getElem?_eq_getElem (show i < ds.length by rw [← dpa_len h]; exact hi))
  rw [e] at hw
  cases hw
  exact ⟨_, List.getElem?_eq_getElem _, d⟩
theorem dpa_app : ∀ {ds es : List PyData} {vs ws : List V}, DpAll K H vs ds → DpAll K H ws es → DpAll K H (vs ++ ws) (ds ++ es)
  | [], _, _, _, h, k => by
    rw [dpa_nil h]
    exact k
  | _ :: _, _, _, _, h, k => by
    obtain ⟨v, t, rfl, h1, h2⟩ := dpa_cons h
    exact .cons h1 (dpa_app h2 k)
theorem dpa_one {d : PyData} (h : Dp K H v d) : DpAll K H [v] [d] := .cons h .nil
end
end Z

/-! sets of tuples of whole numbers by a comprehension; such a set of pairs, sorted, whatever the signs of its numbers -/
namespace Sc
open PySem PySem.Spec PyProof PyProof.Rows L2 PpSet
section
variable {X : Cx}
/-- set.add of a tuple of whole numbers -/
def rAddT (K : PySem.W.Frag) (P : Program) (w : World) : AddR := fun x xs H Q => ∃ (a t : Addr) (L : List (Addr × List Int)) (k : List Int), x = V.ref a ∧ xs = [V.ref t] ∧ H a = some (SetTO P w a L) ∧ SqT K H t (k.map V.int) ∧ (∀ p ∈ L, SqT K H p.1 (p.2.map V.int)) ∧ L.length + 1 < 64 ∧
  ∀ L', (k ∈ L.map (·.2) → L' = L) → (k ∉ L.map (·.2) → L'.Perm ((t, k) :: L)) → Q .non (upd H a (SetTO P w a L'))
theorem mt_addT (hu : X.A.units + 64 < cLine) : MtR X "set.add" (rAddT X.K X.prog X.w) := by
  intro pins s σ H x xs v us Q I r rxs h
  obtain ⟨a, t, L, k, rfl, rfl, ha, ht, hL, room, q⟩ := h
  cases r
  cases rxs with
  | cons ry rt =>
  cases rt
  cases ry
  have R0 : SetT0 X.prog X.w s.heap a L := (I.hok a _ ha).1
  obtain ⟨es, ep, tb, R⟩ := R0.full fun p hp => I.isT (hL p hp)
  have hx := I.isT ht
  obtain ⟨o, ho, hex, hd⟩ := R.ob
  have hT : s.heap.get? a = some o := ho
  refine wpAny_call_entry F.slot_set_add (T := "set") ?_ F.entry_set_add ?_ (F.args_set_add_2 _ _)
  · exact ⟨o, ho, hex.1⟩
  unfold Builtin.«set.add» Builtin.Frozenset.oneOther
  simp only [List.isEmpty_nil, bind_assoc]
  unfold Builtin.Frozenset.addrOf setAdd
  refine wpAny_bind (wpAny_pure ?_)
  try dsimp only
  refine wpAny_bind (wpAny_pure ?_)
  try dsimp only
  refine wpAny_bind ?_
  refine wpAny_holding ?_
  refine wpAny_bind (wpAny_pyHash_tuple (by show X.A.units + 1 < cLine; omega) hx ?_)
  refine add_at (s := { s with toks := s.toks + (k.length + 1) }) R hx (by show X.A.units + 1 < cLine; omega) room fun b h' L' es' ep' t' sb R' c1 c2 => ?_
  show wpAny _ _ (ret Value.none) _ _ _
  refine wpAny_pure ⟨_, rfl, .non, upd H a (SetTO X.prog X.w a L'), ?_, rfl, q L' c1 c2⟩
  have he : ∃ u, h'.get? a = some u := by
    obtain ⟨o', ho', _⟩ := R'.ob
    exact ⟨o', ho'⟩
  exact I.write (e := a) (t' := s.toks + (k.length + 1)) (by rw [ha]; trivial) (.inl rfl) (fun b u hb hu => (sb.2 b hb).trans hu) he (setTO_new R'.t0)
def frT (P : Program) (w : World) : Addr → HO := fun a => SetTO P w a []
theorem pe_setT {elt tg iter : Expr} {ifs : List Expr} {scope : Scope} {own : List (PySem.Str × Nat)} {pos : Pos} {wi : TI} {g : TG} {tt : TT} {te : TE}
    (hu : X.A.units + 64 < cLine) (hc : X.calm = true) (hN : X.N.Nodup) (hi : PI X tg iter wi) (ok : BlkOk X.N X.env.scope scope own)
    (hg : ∀ (s : Shared) (H : Hp) (C : Addr) (cl : List (PySem.Str × Addr)) (fp : List Addr), PG (X.blk s H scope (compEnvC scope cl C X.env) fp) tg g)
    (ht : ∀ (s : Shared) (H : Hp) (C : Addr) (cl : List (PySem.Str × Addr)) (fp : List Addr), PTs (X.blk s H scope (compEnvC scope cl C X.env) fp) ifs tt)
    (he : ∀ (s : Shared) (H : Hp) (C : Addr) (cl : List (PySem.Str × Addr)) (fp : List Addr), PE (X.blk s H scope (compEnvC scope cl C X.env) fp) elt te)
    (hs : ∀ x, foldedSetIterable iter X.env x = pure x := by intro _; rfl) : PE X (.SetComp elt [⟨tg, iter, ifs, 0⟩] scope pos) (tSet (rAddT X.K X.prog X.w) (frT X.prog X.w) wi g tt te (own.map (·.2))) :=
  pe_set (fun H h a e => by
    subst e
    exact setTO_new (setTR_fresh (P := X.prog) (w := X.w) (Heap.get?_push_size _ rfl)).t0) (fun s H e fp => mt_addT (X := X.blk s H scope e fp) hu) hc hN hi ok hg ht he hs
end
/-! sorted -/
section
variable {P : Program} {w : World} {A : Around} {E : Value → Shared → Prop} {s : Shared}
theorem sorted_setP {a : Addr} {L : List (Addr × List Int)} {es : Array (Int × Value)} {ep : Nat} {t : SetTable} {k : Value → Int × Int} {Q : Value → Shared → Prop} (R : SetTR P w s.heap a L es ep t) (hh : A.handled = none)
    (hk : ∀ p ∈ L, p.2 = [(k (.ref p.1)).1, (k (.ref p.1)).2])
    (hQ : ∀ s' p (out : List Value) (c : Nat), (∀ b o, s.heap.get? b = some o → s'.heap.get? b = some o) → s'.gens = s.gens → s'.os = s.os → s.heap.objs.size ≤ p → s'.heap.get? p = some (seqObj "list" out.toArray c) →
      out.Perm (L.map fun q => Value.ref q.1) → SrtO.Srtd (fun v u => SrtO.lexB (k v) (k u)) out → Q (.ref p) s') :
    wpAny (model P w) A (call (.builtin "sorted") [.ref a]) Q E s := by
  obtain ⟨o, ho, hex, hd⟩ := R.ob
  have hsz := R.size
  have hfew := R.few
  refine Calls.call_function_entry kind_sorted plain_sorted entry_sorted (args_sorted1 _) ?_
  unfold Builtin.«sorted»
  refine wpAny_bind (m := checkCount "sorted" 1 1 _) (wpAny_pure ?_)
  refine wpAny_bind (collect_set (A := A.in1) hh ⟨o, ho, hex.1, hd⟩ R.fits (by unfold scanBound; omega) R.tab.ris R.led fun s1 vs k1 hz g1 o1 pm => ?_)
  have hes : es.toList.map (·.2) = L.map fun q => Value.ref q.1 := by
    rw [R.rows]
    unfold rowsOf
    rw [List.map_map]
    rfl
  rw [hes] at pm
  have hvl : vs.length < 64 := by rw [pm.length_eq, List.length_map]; exact hfew
  have hvz : vs.length ≤ sizeLine := by rw [sizeLine_eq]; omega
  refine wpAny_bind (wpAny_newList ?_ hvz)
  have hoL : (s1.heap.push (seqObj "list" vs.toArray 0)).get? s1.heap.objs.size = some (seqObj "list" vs.toArray 0) := Heap.get?_push_size _ rfl
  have keep : ∀ b u, s.heap.get? b = some u → (s1.heap.push (seqObj "list" vs.toArray 0)).get? b = some u := fun b u e => Heap.get?_push_of_some _ (k1 b u e)
  have pairs : ∀ v ∈ vs, Srt.IsPair (s1.heap.push (seqObj "list" vs.toArray 0)) v (k v).1 (k v).2 := fun v hv => by
    obtain ⟨q, hq, e⟩ := List.mem_map.mp (pm.mem_iff.mp hv)
    subst e
    obtain ⟨o2, items, n, h1, h2, h3, h4⟩ := R.tup q hq
    rw [hk q hq] at h4
    have h5 := ints_of_items h4
    generalize hil : items.toList = il at h5
    cases h5 with
    | cons _ t1 r1 =>
      cases r1 with
      | cons _ t2 r2 =>
        cases r2
        refine ⟨q.1, o2, t1, t2, n, rfl, keep _ _ h1, h2, ?_⟩
        rw [h3, ← hil] <;> simp
  refine wpAny_bind (wpAny_holding (wpAny_call_entry slot_list_sort ⟨_, hoL, rfl⟩ entry_list_sort (SrtO.list_sort_ord (s := { s1 with heap := s1.heap.push (seqObj "list" vs.toArray 0) }) (SrtO.swo_lex k) hoL hvz
    (fun h2 => SrtO.pairs_sortableO (s := { s1 with heap := s1.heap.push (seqObj "list" vs.toArray 0) }) (by omega) pairs fun o e => ?_) fun out hs hb => ⟨_, rfl, ?_⟩) (args_list_sort _)))
  · have e' : some o = some (seqObj "list" vs.toArray 0) := e.symm.trans hoL
    cases e'
    intro c
    exact absurd (Value.type.inj c) (by decide)
  obtain ⟨c, hc⟩ := sortedHeap_at (vs := vs) (out := out.toArray) hoL
  refine wpAny_pure ⟨_, rfl, hQ _ s1.heap.objs.size out c (fun b u e => ?_) g1 o1 hz hc (hb.perm.trans pm) hs⟩
  have q := k1 b u e
  have hlt := Heap.lt_size q
  show (sortedHeap (s1.heap.push (seqObj "list" vs.toArray 0)) s1.heap.objs.size vs out.toArray).get? b = some u
  rw [sortedHeap_old (Nat.ne_of_lt hlt) (by rw [size_push']; exact Nat.lt_succ_of_lt hlt)]
  exact Heap.get?_push_of_some _ q
end
section
variable {X : Cx}
/-- sorted(set of pairs): the list of the same tuples, by their first numbers, then by their second -/
def rSortedP2 (K : PySem.W.Frag) (P : Program) (w : World) : List V → Hp → VK → Prop := fun vs H Q => ∃ (a : Addr) (L : List (Addr × List Int)) (k : Addr → Int × Int), vs = [V.ref a] ∧ H a = some (SetTO P w a L) ∧ (∀ p ∈ L, SqT K H p.1 [V.int (k p.1).1, V.int (k p.1).2] ∧ p.2 = [(k p.1).1, (k p.1).2]) ∧
  ∀ (ts : List Addr) (p : Addr), ts.Perm (L.map (·.1)) → ts.Pairwise (fun t u => ¬ ((k u).1 < (k t).1 ∨ ((k u).1 = (k t).1 ∧ (k u).2 < (k t).2))) → (L.map (·.2)).Nodup → H p = none → Q (.ref p) (upd H p (.lst (ts.map V.ref)))
theorem cr_sortedP2 (hc : X.calm = true) : CallR X (.builtin "sorted") (rSortedP2 X.K X.prog X.w) := by
  intro pins s σ H vs us Q I r h
  obtain ⟨a, L, k, rfl, ha, hk, q⟩ := h
  have R0 : SetT0 X.prog X.w s.heap a L := (I.hok a _ ha).1
  obtain ⟨es, ep, t, R⟩ := R0.full fun p hp => I.isT (by rw [(hk p hp).2]; exact (hk p hp).1)
  rw [Vals.ref1 r]
  let kv : Value → Int × Int := fun v => match v with | .ref b => k b | _ => (0, 0)
  refine sorted_setP (k := kv) R (I.ok.hd hc) (fun p hp => (hk p hp).2) fun s' p out c kp g o hp hg pm pw => ?_
  have href : ∀ (out : List Value), (∀ v ∈ out, ∃ b, v = Value.ref b) → ∃ ts : List Addr, out = ts.map Value.ref := by
    intro out
    induction out with
    | nil => intro _; exact ⟨[], rfl⟩
    | cons v out ih =>
      intro h
      obtain ⟨b, rfl⟩ := h v (.head _)
      obtain ⟨ts, rfl⟩ := ih fun u hu => h u (.tail _ hu)
      exact ⟨b :: ts, rfl⟩
  obtain ⟨ts, rfl⟩ := href out fun v hv => by
    obtain ⟨q, _, e⟩ := List.mem_map.mp (pm.mem_iff.mp hv)
    exact ⟨_, e.symm⟩
  have pm2 : ts.Perm (L.map (·.1)) := by
    have e : L.map (fun q => Value.ref q.1) = (L.map (·.1)).map Value.ref := by rw [List.map_map]; rfl
    rw [e] at pm
    have back : ∀ l : List Addr, (l.map Value.ref).filterMap (fun v => match v with | .ref b => some b | _ => none) = l := by
      intro l
      induction l with
      | nil => rfl
      | cons b l ih =>
        show b :: _ = _
        rw [ih]
    have z := pm.filterMap (fun v => match v with | .ref b => some b | _ => none)
    rw [back, back] at z
    exact z
  have hn : H p = none := I.hok.fresh hp
  have hlen : (ts.map V.ref).length ≤ sizeLine := by
    rw [List.length_map, pm2.length_eq, List.length_map, sizeLine_eq]
    have := R.few
    omega
  have hv : ∀ ts : List Addr, Vals (ts.map V.ref) (ts.map Value.ref) := by
    intro ts
    induction ts with
    | nil => exact .nil
    | cons b ts ih => exact .cons rfl ih
  have J : Inv X pins σ (upd H p (.lst (ts.map V.ref))) { s with heap := s'.heap, gens := s'.gens, drawn := s'.drawn, toks := s'.toks } :=
    I.call (ch := []) (Un.laid kp hp hn) (I.hok.laid kp hp ⟨hlen, ts.map Value.ref, c, hv ts, hg⟩) (by rw [g]; exact I.bare) (fun _ z => nomatch z)
  have e : s' = { s with heap := s'.heap, gens := s'.gens, drawn := s'.drawn, toks := s'.toks } := by
    cases s'
    cases s
    cases o
    rfl
  rw [e]
  refine ⟨.ref p, _, J, rfl, q ts p pm2 ?_ R.nd hn⟩
  have pw : (ts.map Value.ref).Pairwise fun x y => SrtO.lexB (kv y) (kv x) = false := pw
  exact (List.pairwise_map.mp pw).imp fun h => SrtO.lexB_no.mp h
end
/-! ### readings: the set of the pairs of a list; sorted -/
open Z
theorem nodup_len {α : Type} [DecidableEq α] : ∀ {l m : List α}, l.Nodup → (∀ x ∈ l, x ∈ m) → l.length ≤ m.length
  | [], m, _, _ => Nat.zero_le _
  | x :: l, m, hn, hs => by
    have hn' := List.nodup_cons.mp hn
    have hx := hs x (.head _)
    have := nodup_len (l := l) (m := m.erase x) hn'.2 fun y hy => by
      have hy' := hs y (.tail _ hy)
      have hne : y ≠ x := fun e => hn'.1 (by rw [← e]; exact hy)
      exact (List.mem_erase_of_ne hne).mpr hy'
    rw [List.length_erase_of_mem hx] at this
    have := List.length_pos_of_mem hx
    rw [List.length_cons]
    omega
section
variable {K : PySem.W.Frag} {H : Hp} {Q : VK} {σ : L2.St} {P : Program} {w : World}
theorem z_setPr {k : Nat} {te : TE} {vs : List Nat} {a : Addr} {xs : List V} (zs : List (Int × Int)) (hlen : zs.length = xs.length) (bs : List (List Int)) (hbl : bs.length ≤ 62) (hb : ∀ z ∈ zs, [z.1, z.2] ∈ bs) (hx : H a = some (.lst xs))
    (hw : ∀ x, wipe ((wipe σ vs).set k (some x)) vs = wipe σ vs)
    (body : ∀ (i : Nat) (x : V) (z : Int × Int) (H' : Hp), xs[i]? = some x → zs[i]? = some z → Same H H' → ∀ R : VK, (∀ t H'', H' t = none → Same H' H'' → H'' t = some (.tup [.int z.1, .int z.2]) → R (.ref t) H'') → te ((wipe σ vs).set k (some x)) H' R)
    (q : ∀ D H' L, H D = none → Same H H' → H' D = some (SetTO P w D L) → (L.map (·.2)).Nodup → (∀ p ∈ L, H' p.1 = some (.tup (p.2.map V.int)) ∧ ∃ z ∈ zs, p.2 = [z.1, z.2]) → (∀ z ∈ zs, [z.1, z.2] ∈ L.map (·.2)) → Q (.ref D) H') :
    tSetE (rAddT K P w) (frT P w) K (gName k) tYes te vs σ Q (.ref a) H := by
  refine ⟨a, rfl, ⟨_, .inl (.inl hx)⟩, fun D hD => ?_⟩
  have hDa : a ≠ D := ne_of_none hx hD
  let Pv : Nat → Hp → Prop := fun i H' => Same H H' ∧ ∃ L, H' D = some (SetTO P w D L) ∧ (L.map (·.2)).Nodup ∧ (∀ p ∈ L, H' p.1 = some (.tup (p.2.map V.int)) ∧ ∃ z ∈ zs.take i, p.2 = [z.1, z.2]) ∧ ∀ z ∈ zs.take i, [z.1, z.2] ∈ L.map (·.2)
  refine ⟨fun i m H' => m = xs.length - i ∧ i ≤ xs.length ∧ Pv i H', ⟨xs.length, by simp, Nat.zero_le _, same_upd hD, [], upd_same, List.nodup_nil, (fun p hp => by cases hp), (fun z hz => by cases hz)⟩, ?_⟩
  rintro i m H' ⟨rfl, hi, sm, L, hS, nd, hL, hz⟩
  have ha := sm _ _ hx
  by_cases hlt : i < xs.length
  · refine .inr ⟨⟨_, xs[i], .inl (.inl ha), by simp [hlt]⟩, Pv (i + 1), fun H2 p2 => ⟨xs.length - (i + 1), by omega, rfl, hlt, p2⟩, fun x H2 y => ?_⟩
    obtain ⟨e, y⟩ := y
    subst e
    have e := y _ (.inl (.inl ha))
    have hzi : zs[i]? = some (zs[i]'(by omega)) := List.getElem?_eq_getElem _
    generalize zs[i]'(by omega) = z at hzi
    have tk : zs.take (i + 1) = zs.take i ++ [z] := by rw [List.take_add_one, hzi]; rfl
    refine ⟨hw _, ?_⟩
    show Keep _ _ _ _ _ true _
    unfold Keep
    rw [if_pos rfl]
    refine body i x z H2 e hzi sm _ fun t H3 f3 s3 h3 => ?_
    have sm3 := sm.trans s3
    have htD : t ≠ D := fun z => by
      rw [z, hS] at f3
      cases f3
    have hlen2 : L.length ≤ bs.length := by
      have := nodup_len nd (m := bs) fun k hk => by
        obtain ⟨p, hp, rfl⟩ := List.mem_map.mp hk
        obtain ⟨z', hz', e'⟩ := (hL p hp).2
        rw [e']
        exact hb z' (List.mem_of_mem_take hz')
      rwa [List.length_map] at this
    refine ⟨D, t, L, [z.1, z.2], rfl, rfl, s3 _ _ hS, .inl (.inl h3), fun p hp => .inl (.inl (s3 _ _ (hL p hp).1)), by omega, fun L' c1 c2 => ?_⟩
    refine ⟨fun b o e => ?_, L', upd_same, ?_, fun p hp => ?_, fun z' hz' => ?_⟩
    · rw [upd_ne (ne_of_none e hD)]
      exact sm3 _ _ e
    · by_cases c : [z.1, z.2] ∈ L.map (·.2)
      · rw [c1 c]
        exact nd
      · have := (c2 c).map (·.2)
        exact this.nodup_iff.mpr (List.nodup_cons.mpr ⟨c, nd⟩)
    · by_cases c : [z.1, z.2] ∈ L.map (·.2)
      · rw [c1 c] at hp
        have hpD : p.1 ≠ D := fun z => by
          have := (hL p hp).1
          rw [z, hS] at this
          cases this
        obtain ⟨z', hz', e'⟩ := (hL p hp).2
        exact ⟨by rw [upd_ne hpD]; exact s3 _ _ (hL p hp).1, z', by rw [tk]; exact List.mem_append.mpr (.inl hz'), e'⟩
      · rcases List.mem_cons.mp ((c2 c).mem_iff.mp hp) with e' | hp
        · rw [e']
          exact ⟨by rw [upd_ne htD]; exact h3, z, by rw [tk]; exact List.mem_append.mpr (.inr (.head _)), rfl⟩
        · have hpD : p.1 ≠ D := fun z => by
            have := (hL p hp).1
            rw [z, hS] at this
            cases this
          obtain ⟨z', hz', e'⟩ := (hL p hp).2
          exact ⟨by rw [upd_ne hpD]; exact s3 _ _ (hL p hp).1, z', by rw [tk]; exact List.mem_append.mpr (.inl hz'), e'⟩
    · have old : z' ∈ zs.take i → [z'.1, z'.2] ∈ L'.map (·.2) := fun h => by
        by_cases c : [z.1, z.2] ∈ L.map (·.2)
        · rw [c1 c]
          exact hz z' h
        · exact ((c2 c).map (·.2)).mem_iff.mpr (.tail _ (hz z' h))
      rw [tk] at hz'
      rcases List.mem_append.mp hz' with h | h
      · exact old h
      · rw [List.mem_singleton.mp h]
        by_cases c : [z.1, z.2] ∈ L.map (·.2)
        · rw [c1 c]
          exact c
        · exact ((c2 c).map (·.2)).mem_iff.mpr (.head _)
  · have e : i = xs.length := by omega
    subst e
    rw [show zs.take xs.length = zs by rw [← hlen, List.take_length]] at hL hz
    exact .inl ⟨⟨_, .inl (.inl ha), by simp⟩, q D H' L hD sm hS nd hL hz⟩
/-- by the first number, then by the second -/
def plt (a b : Int × Int) : Prop := a.1 < b.1 ∨ (a.1 = b.1 ∧ a.2 < b.2)
def atH (H : Hp) (t : Addr) : Int × Int := match H t with
  | some (.tup [.int a, .int b]) => (a, b)
  | _ => (0, 0)
theorem atH_of {t : Addr} {a b : Int} (h : H t = some (.tup [.int a, .int b])) : atH H t = (a, b) := by
  unfold atH
  rw [h]
theorem z_sortedPr {a : Addr} {L : List (Addr × List Int)} {zs : List (Int × Int)} (h : H a = some (SetTO P w a L)) (hL : ∀ p ∈ L, H p.1 = some (.tup (p.2.map V.int)) ∧ ∃ z ∈ zs, p.2 = [z.1, z.2]) (hz : ∀ z ∈ zs, [z.1, z.2] ∈ L.map (·.2))
    (q : ∀ (ts : List Addr) (us : List (Int × Int)) (p : Addr) (H' : Hp), ts.length = us.length → (∀ (i : Nat) (t : Addr) (u : Int × Int), ts[i]? = some t → us[i]? = some u → H' t = some (.tup [.int u.1, .int u.2])) → us.Pairwise plt → (∀ z, z ∈ us ↔ z ∈ zs) → us.length ≤ L.length → H p = none → Same H H' → H' p = some (.lst (ts.map V.ref)) → Q (.ref p) H') :
    rSortedP2 K P w [.ref a] H Q := by
  have key : ∀ p ∈ L, p.2 = [(atH H p.1).1, (atH H p.1).2] := fun p hp => by
    obtain ⟨h1, z, _, e⟩ := hL p hp
    rw [e] at h1 ⊢
    rw [atH_of h1]
  refine ⟨a, L, atH H, rfl, h, fun p hp => ⟨.inl (.inl ?_), key p hp⟩, fun ts p pm pw nd hp => ?_⟩
  · have := (hL p hp).1
    rw [key p hp] at this
    exact this
  have mem : ∀ t ∈ ts, ∃ r ∈ L, r.1 = t := fun t ht => List.mem_map.mp (pm.mem_iff.mp ht)
  have ndt : (ts.map (atH H)).Nodup := by
    have e1 : (L.map (·.1)).map (fun t => [(atH H t).1, (atH H t).2]) = L.map (·.2) := by
      rw [List.map_map]
      exact List.map_congr_left fun r hr => (key r hr).symm
    have e2 : (ts.map fun t => [(atH H t).1, (atH H t).2]).Nodup := (pm.map _).nodup_iff.mpr (by rw [e1]; exact nd)
    have e3 : (ts.map (atH H)).Pairwise fun u v => u ≠ v := by
      rw [List.pairwise_map]
      refine (List.pairwise_map.mp e2).imp fun hne e => hne ?_
      rw [e]
    exact e3
  refine q ts (ts.map (atH H)) p _ (by rw [List.length_map]) (fun i t u ht hu => ?_) ?_ (fun z => ?_) (by rw [List.length_map, pm.length_eq, List.length_map]; exact Nat.le_refl _) hp (same_upd hp) upd_same
  · rw [List.getElem?_map, ht] at hu
    cases hu
    obtain ⟨r, hr, rfl⟩ := mem t (List.mem_of_getElem? ht)
    have h1 := (hL r hr).1
    rw [key r hr] at h1
    rw [upd_ne (ne_of_none h1 hp)]
    exact h1
  · rw [List.pairwise_map]
    have ndt' := List.pairwise_map.mp ndt
    refine (pw.and ndt').imp fun {t u} ⟨h1, h2⟩ => ?_
    unfold plt
    have h3 : ¬ ((atH H t).1 = (atH H u).1 ∧ (atH H t).2 = (atH H u).2) := fun e => h2 (Prod.ext e.1 e.2)
    omega
  · constructor
    · intro hz'
      obtain ⟨t, ht, rfl⟩ := List.mem_map.mp hz'
      obtain ⟨r, hr, rfl⟩ := mem t ht
      obtain ⟨_, z', hz2, e⟩ := hL r hr
      rw [key r hr] at e
      have e1 : (atH H r.1).1 = z'.1 := by injection e
      have e2 : (atH H r.1).2 = z'.2 := by
        injection e with _ e
        injection e
      rw [show atH H r.1 = z' from Prod.ext e1 e2]
      exact hz2
    · intro hz'
      obtain ⟨r, hr, e⟩ := List.mem_map.mp (hz z hz')
      rw [key r hr] at e
      have e1 : (atH H r.1).1 = z.1 := by injection e
      have e2 : (atH H r.1).2 = z.2 := by
        injection e with _ e
        injection e
      exact List.mem_map.mpr ⟨r.1, pm.mem_iff.mpr (List.mem_map.mpr ⟨r, hr, rfl⟩), Prod.ext e1 e2⟩
end
end Sc

/-! tuples of whole numbers: >, and < > of pairs; in, not in, of data -/
namespace Z
open PySem PySem.Spec PyProof PyProof.Rows L2
theorem room65 {k : Nat} {A : _root_.PySem.Around} (r : L2.Room k A) : A.units + 65 < cLine := by have := r.un; omega
def rGtT (K : PySem.W.Frag) : R2 := fun x y H Q => ∃ (a b : Addr) (ns ms : List Int), x = .ref a ∧ y = .ref b ∧ SqT K H a (ns.map V.int) ∧ SqT K H b (ms.map V.int) ∧
  Q (.bl (Ob.lexAt (fun j => decide (ns.getD j 0 = ms.getD j 0)) (fun j => decide (ms.getD j 0 < ns.getD j 0)) (decide (ms.length < ns.length)) 0 (min ns.length ms.length))) H
theorem op_gtT {X : Cx} (hu : X.A.units < cLine) : OpR X (compareOp .Gt) (rGtT X.K) := by
  intro pins s σ H x y v u Q I rx ry h
  obtain ⟨a, b, ns, ms, rfl, rfl, ha, hb, q⟩ := h
  cases rx
  cases ry
  obtain ⟨its, r1, p1, _⟩ := I.tuple ha
  obtain ⟨its2, r2, p2, _⟩ := I.tuple hb
  have i1 : IntsAre its ns := Vals.ints r1
  have i2 : IntsAre its2 ms := Vals.ints r2
  have e1 : its.toArray.size = ns.length := by rw [List.size_toArray]; exact i1.length
  have e2 : its2.toArray.size = ms.length := by rw [List.size_toArray]; exact i2.length
  have at1 : ∀ j (h1 : j < its.toArray.size), ∃ t, its.toArray[j] = .int (ns.getD j 0) t := fun j h1 => PyProof.Rows.IntsAre.int_at i1 _ _ (by simp at h1; simp [h1])
  have at2 : ∀ j (h1 : j < its2.toArray.size), ∃ t, its2.toArray[j] = .int (ms.getD j 0) t := fun j h1 => PyProof.Rows.IntsAre.int_at i2 _ _ (by simp at h1; simp [h1])
  have R := Ob.RcOp.tuples_gt (A := X.A) (s := s) (e := fun j => decide (ns.getD j 0 = ms.getD j 0)) (r := fun j => decide (ms.getD j 0 < ns.getD j 0)) p1 p2 hu (fun j h1 h2 => by
    obtain ⟨t, et⟩ := at1 j h1
    obtain ⟨t', et'⟩ := at2 j h2
    rw [et, et']
    have z : (ns.getD j 0 == ms.getD j 0) = decide (ns.getD j 0 = ms.getD j 0) := by
      by_cases q : ns.getD j 0 = ms.getD j 0
      · rw [decide_eq_true q]; exact beq_iff_eq.mpr q
      · rw [decide_eq_false q]; exact beq_eq_false_iff_ne.mpr q
    rw [← z]
    exact SeqAt.EqAt.int_int _ _ _ _) (fun j h1 h2 _ => by
    obtain ⟨t, et⟩ := at1 j h1
    obtain ⟨t', et'⟩ := at2 j h2
    rw [et, et']
    exact Ob.RcOp.gt_int _ _ _ _)
  rw [e1, e2] at R
  have z : wpAny (model X.prog X.w) X.A (compareOp .Gt (.ref a) (.ref b)) (EP X pins σ Q) X.xe s := R X.prog X.w X.xe (EP X pins σ Q) ⟨.bl _, H, I, rfl, q⟩
  exact z
section
variable {K : PySem.W.Frag} {H : Hp} {Q : VK} {p q : Addr} {a b c d : Int}
theorem z_ltP (h1 : H p = some (.tup [.int a, .int b])) (h2 : H q = some (.tup [.int c, .int d])) (k : Q (.bl (decide (a < c ∨ (a = c ∧ b < d)))) H) : rLtT K (.ref p) (.ref q) H Q := by
  refine ⟨p, q, [a, b], [c, d], rfl, rfl, .inl (.inl h1), .inl (.inl h2), ?_⟩
  have e : HT.lexLt [a, b] [c, d] = decide (a < c ∨ (a = c ∧ b < d)) := by
    unfold HT.lexLt
    by_cases h : a = c
    · subst h
      rw [if_pos rfl]
      unfold HT.lexLt
      by_cases h : b = d
      · subst h
        rw [if_pos rfl]
        unfold HT.lexLt
        simp
      · rw [if_neg h]
        simp
    · rw [if_neg h]
      simp [h]
  rw [e]
  exact k
theorem z_gtP (h1 : H p = some (.tup [.int a, .int b])) (h2 : H q = some (.tup [.int c, .int d])) (k : Q (.bl (decide (c < a ∨ (c = a ∧ d < b)))) H) : rGtT K (.ref p) (.ref q) H Q := by
  refine ⟨p, q, [a, b], [c, d], rfl, rfl, .inl (.inl h1), .inl (.inl h2), ?_⟩
  have e : Ob.lexAt (fun j => decide ([a, b].getD j 0 = [c, d].getD j 0)) (fun j => decide ([c, d].getD j 0 < [a, b].getD j 0)) (decide ([c, d].length < [a, b].length)) 0 (min [a, b].length [c, d].length) = decide (c < a ∨ (c = a ∧ d < b)) := by
    show Ob.lexAt _ _ _ 0 2 = _
    rw [Ob.lexAt_succ, Ob.lexAt_succ, Ob.lexAt_zero]
    show (if decide (a = c) = true then (if decide (b = d) = true then decide ((2 : Nat) < 2) else decide (d < b)) else decide (c < a)) = _
    by_cases h : a = c
    · subst h
      by_cases h : b = d
      · subst h
        simp
      · simp [h]
    · have h' : ¬ c = a := fun z => h z.symm
      simp [h, h']
  rw [e]
  exact k
end
def rInsert : V → List V → Hp → VK → Prop := fun x vs H Q => ∃ (l : Addr) (xs : List V) (i : Int) (y : V), x = .ref l ∧ vs = [.int i, y] ∧ H l = some (.lst xs) ∧ xs.length < sizeLine ∧ 0 ≤ i ∧ i < 2 ^ 63 ∧
    Q .non (upd H l (.lst (xs.take i.toNat ++ [y] ++ xs.drop i.toNat)))
theorem mt_insertN {X : Cx} : MtR X "list.insert" rInsert := mt_insert
section
variable {K : PySem.W.Frag} {σ : L2.St} {H : Hp} {Q : VK} {p : Addr} {xs : List V} {y : V} {n : L2.St → Hp → Prop} {r : VK} {b c : L2.St → Hp → Prop} {tb : TS}
theorem z_insert {i : Nat} (hp : H p = some (.lst xs)) (hl : xs.length < 1000) (hi : i < 1000) (q : Q .non (upd H p (.lst (xs.take i ++ [y] ++ xs.drop i)))) : rInsert (.ref p) [.int (i : Int), y] H Q :=
  ⟨p, xs, (i : Int), y, rfl, rfl, hp, Nat.lt_of_lt_of_le hl (by decide), by omega, by omega, by rw [Int.toNat_natCast]; exact q⟩
def ForR (g : TG) (tb : TS) (n : L2.St → Hp → Prop) (r : VK) (b c : L2.St → Hp → Prop) (σ : L2.St) : List V → Hp → Prop := fun xs H1 => tFor (iRng1 fun _ H R => R xs H) g tb ⟨n, r, b, c⟩ σ H1
theorem z_forRE {ta : TA} {g : TG} (h : ta σ H (ForR g tb n r b c σ)) : tFor (iRng1 ta) g tb ⟨n, r, b, c⟩ σ H := h
theorem z_forRr {k : Nat} (m : Nat) (hm : m < 2 ^ 62) (Pv : Nat → L2.St → Hp → Prop) (h0 : Pv 0 σ H)
    (hs : ∀ i σ H, i < m → Pv i σ H → tb ⟨Pv (i + 1), r, n, Pv (i + 1)⟩ (σ.set k (some (.int (i : Int)))) H) (hd : ∀ σ H, Pv m σ H → n σ H) : ForR (gName k) tb n r b c σ [.int (m : Int)] H :=
  z_forR1 m hm (fun R q => q) Pv h0 hs hd
end
end Z

namespace Cw
open PySem PySem.Spec PyProof.Rows L2 Z
/-- o.m(e, .., k = v, ..) -/
def tMethN (C : Addr) (mn : Str) (n m : Nat) (sp : Sp) (gV : List V → List V → List V) (E : XK) (ta : TE) (t tk : TA) : TE := fun σ H Q => ta σ H fun x H1 => ∃ a dx fs, x = .ref a ∧ H1 a = some (.ins C dx fs) ∧ fs.lookup mn = none ∧
  t σ H1 fun vs H2 => tk σ H2 fun zs H3 => vs.length = n ∧ zs.length = m ∧ sp (gV (x :: vs) zs) H3 Q E
section
variable {X : Cx} {CX : CXT} {k n : Nat} {f C : Addr} {fd : FuncData} {ps ks : List Str} {sp : Sp} {E : XK} {m : Str} {apos pos : Pos} {o e : Expr} {es : List Expr} {kws : List Keyword} {ta : TE} {t tk : TA} {g : List Value → List Value → List Value} {gV : List V → List V → List V}
theorem pe_methN {pl : Sem Bool} (he : PE X o ta) (c : Cls X.K C) (hm : Meth X.K C m f) (F : FnOk X.prog X.w X.K X.mg X.base CX k f fd ps sp) (hr : Room k X.A) (hb : KBn X.K fd ps (n + 1) ks g gV) (hx : Passes CX X E) (ha : PA X (e :: es) t) (hkw : PK X kws tk)
    (hall : (backToKw pos (keywordEach kws X.env)).all (·.1.isSome) = true := by rfl) (hks : (backToKw pos (keywordEach kws X.env)).filterMap (·.1) = ks := by rfl)
    (hst : starEach (e :: es) X.env = (false, eval e X.env) :: starEach es X.env := by rfl)
    (hpl : ((backTo pos (starEach (e :: es) X.env)).any (·.1) || (backToKw pos (keywordEach kws X.env)).any (·.1.isNone)) = false := by rfl)
    (ht : eval (.Call (.Attribute o m apos) (e :: es) kws pos) X.env = (do
      let ov ← eval o X.env
      standAt apos.atName
      let (f, first) ← holding [ov] (getMethod ov m pl)
      callWith pos f first (backTo pos (starEach (e :: es) X.env)) (backToKw pos (keywordEach kws X.env))) := by rfl) :
    PE X (.Call (.Attribute o m apos) (e :: es) kws pos) (tMethN C m n ks.length sp gV E ta t tk) := by
  refine ⟨fun pins s σ H Q I h => ?_⟩
  refine PySem.W.methodCall_KW (pl := pl) (thn (he.run pins s σ H _ I h) fun u s1 ⟨x, H1, I1, rx, a, dx, fs, ex, ea, l, q⟩ => ?_) ht
  subst ex
  obtain rfl : u = Value.ref a := rx
  refine getmeth_ok I1 ea c hm l ?_
  refine PySem.W.callWith_KW (first := [.ref a]) (h₀ := X.base) I.ok.mod.kin hm.kp hall (thn (ha.run pos pins s1 σ H1 _ I1 q) fun us s2 ⟨vs, H2, I2, r, q2⟩ => ?_) hpl hst
  refine thn (hkw.run pos pins s2 σ H2 _ I2 q2) fun ws s3 ⟨zs, H3, I3, rz, l1, l2, q3⟩ => ⟨I3.kIn, ?_⟩
  rw [hks]
  exact run_fnN (us := .ref a :: us) (vs := .ref a :: vs) F hr hb hx I3 (.cons rfl r) rz (by rw [List.length_cons, l1]) l2 q3
end
/-! methods whose errors are wished for at the slots (in a try) -/
def tMethS (C : Addr) (m : Str) (sp : Sp) (dvs : List V) (E : L2.St → XK) (ta : TE) (t : TA) : TE := fun σ H Q => ta σ H fun x H1 => ∃ a dx fs, x = .ref a ∧ H1 a = some (.ins C dx fs) ∧ fs.lookup m = none ∧ t σ H1 fun vs H2 => sp (x :: (vs ++ dvs)) H2 Q (E σ)
def tMethNS (C : Addr) (mn : Str) (n m : Nat) (sp : Sp) (gV : List V → List V → List V) (E : L2.St → XK) (ta : TE) (t tk : TA) : TE := fun σ H Q => ta σ H fun x H1 => ∃ a dx fs, x = .ref a ∧ H1 a = some (.ins C dx fs) ∧ fs.lookup mn = none ∧
  t σ H1 fun vs H2 => tk σ H2 fun zs H3 => vs.length = n ∧ zs.length = m ∧ sp (gV (x :: vs) zs) H3 Q (E σ)
section
variable {X : Cx} {CX : CXT} {k n : Nat} {f C : Addr} {fd : FuncData} {ps ks : List Str} {sp : Sp} {E : L2.St → XK} {m : Str} {apos pos : Pos} {o e : Expr} {es : List Expr} {kws : List Keyword} {ta : TE} {t tk : TA} {dvs : List V} {ds : List Value} {g : List Value → List Value → List Value} {gV : List V → List V → List V}
theorem pe_methS {pl : Sem Bool} (he : PE X o ta) (c : Cls X.K C) (hm : Meth X.K C m f) (F : FnOk X.prog X.w X.K X.mg X.base CX k f fd ps sp) (hr : Room k X.A) (hb : Binds X.K fd ps ds) (hd : Vals dvs ds) (hx : ∀ σ, PassesAt CX X σ (E σ)) (ha : PA X (e :: es) t)
    (hst : starEach (e :: es) X.env = (false, eval e X.env) :: starEach es X.env := by rfl) (hpl : (backTo pos (starEach es X.env)).any (·.1) = false := by rfl)
    (ht : eval (.Call (.Attribute o m apos) (e :: es) [] pos) X.env = (do
      let ov ← eval o X.env
      standAt apos.atName
      let (f, first) ← holding [ov] (getMethod ov m pl)
      callWith pos f first (backTo pos (starEach (e :: es) X.env)) (backToKw pos (keywordEach [] X.env))) := by rfl) :
    PE X (.Call (.Attribute o m apos) (e :: es) [] pos) (tMethS C m sp dvs E ta t) := by
  refine ⟨fun pins s σ H Q I h => ?_⟩
  refine PySem.W.methodCall_KW (pl := pl) (thn (he.run pins s σ H _ I h) fun u s1 ⟨x, H1, I1, rx, a, dx, fs, ex, ea, l, q⟩ => ?_) ht
  subst ex
  obtain rfl : u = Value.ref a := rx
  refine getmeth_ok I1 ea c hm l ?_
  refine PySem.W.callWith_K (first := [.ref a]) (h₀ := X.base) I.ok.mod.kin hm.kp (thn (ha.run pos pins s1 σ H1 _ I1 q) fun us s2 ⟨vs, H2, I2, r, q2⟩ => ⟨I2.kIn, ?_⟩) hst hpl
  exact run_fnSD (us := .ref a :: us) (vs := .ref a :: vs) F hr hb hd (hx σ) I2 (.cons rfl r) q2
theorem pe_meth0S {pl : Sem Bool} (he : PE X o ta) (c : Cls X.K C) (hm : Meth X.K C m f) (F : FnOk X.prog X.w X.K X.mg X.base CX k f fd ps sp) (hr : Room k X.A) (hb : Binds X.K fd ps ds) (hd : Vals dvs ds) (hx : ∀ σ, PassesAt CX X σ (E σ))
    (ht : eval (.Call (.Attribute o m apos) [] [] pos) X.env = (do
      let ov ← eval o X.env
      standAt apos.atName
      let (f, first) ← holding [ov] (getMethod ov m pl)
      callWith pos f first (backTo pos (starEach [] X.env)) (backToKw pos (keywordEach [] X.env))) := by rfl) :
    PE X (.Call (.Attribute o m apos) [] [] pos) (tMethS C m sp dvs E ta tNil) := by
  refine ⟨fun pins s σ H Q I h => ?_⟩
  refine PySem.W.methodCall_KW (pl := pl) (thn (he.run pins s σ H _ I h) fun u s1 ⟨x, H1, I1, rx, a, dx, fs, ex, ea, l, q⟩ => ?_) ht
  subst ex
  obtain rfl : u = Value.ref a := rx
  refine getmeth_ok I1 ea c hm l ?_
  exact PySem.W.callWith_K0 (first := [.ref a]) I1.kIn hm.kp (run_fnSD (us := [.ref a]) (vs := [.ref a]) F hr hb hd (hx σ) I1 (.cons rfl .nil) q)
theorem run_fnNS {pins : List (Addr × Obj)} {σ : L2.St} {H : Hp} {s : Shared} {Q : VK} {us ws : List Value} {vs zs : List V} (F : FnOk X.prog X.w X.K X.mg X.base CX k f fd ps sp) (hr : Room k X.A) (hb : KBn X.K fd ps n ks g gV) (hx : PassesAt CX X σ (E σ))
    (I : Inv X pins σ H s) (r : Vals vs us) (rz : Vals zs ws) (l1 : vs.length = n) (l2 : zs.length = ks.length) (h : sp (gV vs zs) H Q (E σ)) : wpAny (model X.prog X.w) X.A (call (.ref f) us (ks.zip ws)) (EP X pins σ Q) X.xe s := by
  have r2 := hb.rel r rz
  refine wpAny_call (codeAny_mono (F.run X.A X.stack s H ⟨us, ks.zip ws⟩ (g us ws) (gV vs zs) Q (E σ) hr I.env0 (hb.to s us ws I.kIn (r.length.symm.trans l1) (rz.length.symm.trans l2)) r2 h) fun r s' hq => ?_)
  cases r with
  | error e => exact hx pins H s e s' I hq
  | ok fl =>
    cases fl with
    | ret u => exact I.after hq
    | next => exact False.elim hq
    | brk => exact False.elim hq
    | cont => exact False.elim hq
theorem pe_methNS {pl : Sem Bool} (he : PE X o ta) (c : Cls X.K C) (hm : Meth X.K C m f) (F : FnOk X.prog X.w X.K X.mg X.base CX k f fd ps sp) (hr : Room k X.A) (hb : KBn X.K fd ps (n + 1) ks g gV) (hx : ∀ σ, PassesAt CX X σ (E σ)) (ha : PA X (e :: es) t) (hkw : PK X kws tk)
    (hall : (backToKw pos (keywordEach kws X.env)).all (·.1.isSome) = true := by rfl) (hks : (backToKw pos (keywordEach kws X.env)).filterMap (·.1) = ks := by rfl)
    (hst : starEach (e :: es) X.env = (false, eval e X.env) :: starEach es X.env := by rfl)
    (hpl : ((backTo pos (starEach (e :: es) X.env)).any (·.1) || (backToKw pos (keywordEach kws X.env)).any (·.1.isNone)) = false := by rfl)
    (ht : eval (.Call (.Attribute o m apos) (e :: es) kws pos) X.env = (do
      let ov ← eval o X.env
      standAt apos.atName
      let (f, first) ← holding [ov] (getMethod ov m pl)
      callWith pos f first (backTo pos (starEach (e :: es) X.env)) (backToKw pos (keywordEach kws X.env))) := by rfl) :
    PE X (.Call (.Attribute o m apos) (e :: es) kws pos) (tMethNS C m n ks.length sp gV E ta t tk) := by
  refine ⟨fun pins s σ H Q I h => ?_⟩
  refine PySem.W.methodCall_KW (pl := pl) (thn (he.run pins s σ H _ I h) fun u s1 ⟨x, H1, I1, rx, a, dx, fs, ex, ea, l, q⟩ => ?_) ht
  subst ex
  obtain rfl : u = Value.ref a := rx
  refine getmeth_ok I1 ea c hm l ?_
  refine PySem.W.callWith_KW (first := [.ref a]) (h₀ := X.base) I.ok.mod.kin hm.kp hall (thn (ha.run pos pins s1 σ H1 _ I1 q) fun us s2 ⟨vs, H2, I2, r, q2⟩ => ?_) hpl hst
  refine thn (hkw.run pos pins s2 σ H2 _ I2 q2) fun ws s3 ⟨zs, H3, I3, rz, l1, l2, q3⟩ => ⟨I3.kIn, ?_⟩
  rw [hks]
  exact run_fnNS (us := .ref a :: us) (vs := .ref a :: vs) F hr hb (hx σ) I3 (.cons rfl r) rz (by rw [List.length_cons, l1]) l2 q3
end
/-! the readings -/
section
variable {K : PySem.W.Frag} {H : Hp} {Q : VK} {σ : L2.St} {a C dx : Addr} {fs : List (Str × V)} {f m : Str} {v : V} {ta tv : TE} {t tk : TA} {n : L2.St → Hp → Prop} {r : VK} {b c : L2.St → Hp → Prop} {sp : Sp} {dvs : List V} {E : XK} {gV : List V → List V → List V}
def QFld (K : PySem.W.Frag) (f : Str) (Q : VK) : VK := fun x H1 => ∃ a C dx fs v, x = .ref a ∧ H1 a = some (.ins C dx fs) ∧ Cls K C ∧ NoAttr K C f ∧ fs.lookup f = some v ∧ Q v H1
theorem z_fldE (h : ta σ H (QFld K f Q)) : tFld K ta f σ H Q := h
theorem z_fld (e : H a = some (.ins C dx fs)) (c : Cls K C) (no : NoAttr K C f) (l : fs.lookup f = some v) (q : Q v H) : QFld K f Q (.ref a) H := ⟨a, C, dx, fs, v, rfl, e, c, no, l, q⟩
def QSet (K : PySem.W.Frag) (f : Str) (y : V) (n : Hp → Prop) : VK := fun x H2 => ∃ a C dx fs, x = .ref a ∧ H2 a = some (.ins C dx fs) ∧ Cls K C ∧ NoAttr K C f ∧ fs.length < 1000 ∧ n (upd H2 a (.ins C dx (putF f y fs)))
theorem z_sfldE (h : tv σ H fun y H1 => ta σ H1 (QSet K f y (n σ))) : sFld K ta tv f ⟨n, r, b, c⟩ σ H := h
theorem z_sfld {n : Hp → Prop} (e : H a = some (.ins C dx fs)) (c : Cls K C) (no : NoAttr K C f) (l : fs.length < 1000) (q : n (upd H a (.ins C dx (putF f v fs)))) : QSet K f v n (.ref a) H := ⟨a, C, dx, fs, rfl, e, c, no, l, q⟩
def QMeth (C : Addr) (m : Str) (σ : L2.St) (t : TA) (sp : List V → Hp → Prop) : VK := fun x H1 => ∃ a dx fs, x = .ref a ∧ H1 a = some (.ins C dx fs) ∧ fs.lookup m = none ∧ t σ H1 fun vs H2 => sp (x :: vs) H2
theorem z_methSE {E : L2.St → XK} (h : ta σ H (QMeth C m σ t fun vs H2 => sp (vs ++ dvs) H2 Q (E σ))) : tMethS C m sp dvs E ta t σ H Q := h
theorem z_methE (h : ta σ H (QMeth C m σ t fun vs H2 => sp (vs ++ dvs) H2 Q E)) : tMeth C m sp dvs E ta t σ H Q := h
theorem z_meth {sp : List V → Hp → Prop} (e : H a = some (.ins C dx fs)) (l : fs.lookup m = none) (q : t σ H fun vs H2 => sp (.ref a :: vs) H2) : QMeth C m σ t sp (.ref a) H := ⟨a, dx, fs, rfl, e, l, q⟩
def QMethN (C : Addr) (mn : Str) (k j : Nat) (sp : Sp) (gV : List V → List V → List V) (E : XK) (σ : L2.St) (t tk : TA) (Q : VK) : VK := fun x H1 => ∃ a dx fs, x = .ref a ∧ H1 a = some (.ins C dx fs) ∧ fs.lookup mn = none ∧
  t σ H1 fun vs H2 => tk σ H2 fun zs H3 => vs.length = k ∧ zs.length = j ∧ sp (gV (x :: vs) zs) H3 Q E
theorem z_methNE {k j : Nat} (h : ta σ H (QMethN C m k j sp gV E σ t tk Q)) : tMethN C m k j sp gV E ta t tk σ H Q := h
theorem z_methNSE {k j : Nat} {E : L2.St → XK} (h : ta σ H (QMethN C m k j sp gV (E σ) σ t tk Q)) : tMethNS C m k j sp gV E ta t tk σ H Q := h
theorem z_methN {k j : Nat} (e : H a = some (.ins C dx fs)) (l : fs.lookup m = none) (q : t σ H fun vs H2 => tk σ H2 fun zs H3 => vs.length = k ∧ zs.length = j ∧ sp (gV (.ref a :: vs) zs) H3 Q E) : QMethN C m k j sp gV E σ t tk Q (.ref a) H := ⟨a, dx, fs, rfl, e, l, q⟩
theorem z_lens {xs ys : List V} {k j : Nat} {P : Prop} (h1 : xs.length = k) (h2 : ys.length = j) (q : P) : xs.length = k ∧ ys.length = j ∧ P := ⟨h1, h2, q⟩
theorem z_make (h : t σ H fun vs H1 => ∀ x dx, H1 x = none → H1 dx = none → dx ≠ x → sp (.ref x :: (vs ++ dvs)) (upd (upd H1 dx (.own x)) x (.ins C dx [])) (fun v H2 => v = .non ∧ Q (.ref x) H2) E) : tMake C sp dvs E t σ H Q := h
end
/-! for and comprehensions over any walk -/
section
variable {K : PySem.W.Frag} {H : Hp} {Q : VK} {σ : L2.St} {wi : TI} {J : It} {m : Nat} {G : Hp → Prop} {Y : Nat → Hp → V → Hp → Prop} {g : TG} {tb : TS} {te : TE} {n : L2.St → Hp → Prop} {r : VK} {b c : L2.St → Hp → Prop} {vs : List Nat}
theorem z_forW (w : Walk J m G Y) (hi : ∀ R : It → Hp → Prop, R J H → wi σ H R) (Pv : Nat → L2.St → Hp → Prop) (h0 : Pv 0 σ H) (hG : ∀ i σ H, i ≤ m → Pv i σ H → G H)
    (hs : ∀ i x σ H H', i < m → Pv i σ H → Y i H x H' → g x σ H' fun σ2 H2 => tb ⟨Pv (i + 1), r, n, Pv (i + 1)⟩ σ2 H2) (hd : ∀ σ H, Pv m σ H → n σ H) : tFor wi g tb ⟨n, r, b, c⟩ σ H :=
  hi _ (for_it w Pv h0 hG hs hd)
theorem z_lcW (w : Walk J m G Y) (hi : ∀ R : It → Hp → Prop, R J H → wi σ H R) (Pv : Nat → Addr → List V → Hp → Prop)
    (h0 : ∀ D H', H D = none → Same H H' → H' D = some (.lst []) → Pv 0 D [] H') (hG : ∀ i D acc H', Pv i D acc H' → G H')
    (hs : ∀ i x D acc H' H2, i < m → acc.length = i → H' D = some (.lst acc) → Pv i D acc H' → Y i H' x H2 → g x (wipe σ vs) H2 fun σ2 H3 => wipe σ2 vs = wipe σ vs ∧ te σ2 H3 (LcN D i Pv))
    (hd : ∀ D acc H', H D = none → acc.length = m → H' D = some (.lst acc) → Pv m D acc H' → Q (.ref D) H') : tLc wi g tYes te vs σ H Q := by
  refine hi _ fun D hD => ?_
  refine lc_it w (fun i H' => ∃ acc, acc.length = i ∧ H' D = some (.lst acc) ∧ Pv i D acc H') ⟨[], rfl, upd_same, h0 D _ hD (same_upd hD) upd_same⟩ (fun i H' _ ⟨acc, _, _, pv⟩ => hG _ _ _ _ pv) (fun i x H' H2 hi' ⟨acc, hl, hH, pv⟩ y => ?_) (fun H' ⟨acc, hl, hH, pv⟩ => hd D acc H' hD hl hH pv)
  have h := hs i x D acc H' H2 hi' hl hH pv y
  have e : (fun σ2 H2 => wipe σ2 vs = wipe σ vs ∧ te σ2 H2 (LcN D i Pv)) = (fun (σ2 : L2.St) (H2 : Hp) => wipe σ2 vs = wipe σ vs ∧ tYes σ2 H2 fun b H3 => if b = true then te σ2 H3 (LcN D i Pv) else ∃ acc', acc'.length = i + 1 ∧ H3 D = some (.lst acc') ∧ Pv (i + 1) D acc' H3) := by
    funext σ2 H2
    show _ = (wipe σ2 vs = wipe σ vs ∧ if true = true then te σ2 H2 (LcN D i Pv) else ∃ acc', acc'.length = i + 1 ∧ H2 D = some (.lst acc') ∧ Pv (i + 1) D acc' H2)
    rw [if_pos rfl]
  rw [e] at h
  exact h
/-- [e for x in ..]: the values ws -/
theorem z_valsW {ws : List V} (w : Walk J m G Y) (hm : m ≤ 1000) (hi : ∀ R : It → Hp → Prop, R J H → wi σ H R) (hG : ∀ H', Same H H' → G H') (hl : ws.length = m)
    (hs : ∀ i x v H' H2 (R : VK), ws[i]? = some v → i < m → Same H H' → Y i H' x H2 → (∀ H3, Same H' H3 → R v H3) → g x (wipe σ vs) H2 fun σ2 H3 => wipe σ2 vs = wipe σ vs ∧ te σ2 H3 R)
    (hd : ∀ D H', H D = none → Same H H' → H' D = some (.lst ws) → Q (.ref D) H') : tLc wi g tYes te vs σ H Q := by
  refine z_lcW w hi (fun i D acc H' => Same H H' ∧ H D = none ∧ acc = ws.take i) (fun D H' f s _ => ⟨s, f, rfl⟩) (fun i D acc H' h => hG _ h.1) (fun i x D acc H' H2 hi' hl' hD ⟨s', fD, ea⟩ y => ?_) (fun D acc H' fD hl' hD ⟨s', _, ea⟩ => ?_)
  · have hw : ws[i]? = some ws[i] := List.getElem?_eq_getElem (by omega)
    refine hs i x ws[i] H' H2 _ hw hi' s' y fun H3 s3 => ?_
    refine z_lcB (s3 _ _ hD) hl' (by omega) fun H5 hD5 k5 e5 => ⟨fun b o h => ?_, fD, ?_⟩
    · rw [e5 b (ne_of_none h fD)]
      exact s3 _ _ (s' _ _ h)
    · subst ea
      rw [List.take_add_one, hw]
      rfl
  · refine hd D H' fD s' ?_
    rw [hD, ea, ← hl, List.take_length]
/-- [e for x in ..]: a new object each time -/
theorem z_objsW {ob : Nat → HO} (w : Walk J m G Y) (hm : m ≤ 1000) (hi : ∀ R : It → Hp → Prop, R J H → wi σ H R) (hG : ∀ H', Same H H' → G H')
    (hs : ∀ i x H' H2 (R : VK), i < m → Same H H' → Y i H' x H2 → (∀ a H3, H' a = none → Same H' H3 → H3 a = some (ob i) → R (.ref a) H3) → g x (wipe σ vs) H2 fun σ2 H3 => wipe σ2 vs = wipe σ vs ∧ te σ2 H3 R)
    (hd : ∀ (D : Addr) (H' : Hp) (as : List Addr), H D = none → Same H H' → H' D = some (.lst (as.map V.ref)) → as.length = m → as.Nodup → D ∉ as → (∀ i a, as[i]? = some a → H a = none ∧ H' a = some (ob i)) → Q (.ref D) H') : tLc wi g tYes te vs σ H Q := by
  refine z_lcW w hi (fun i D acc H' => Same H H' ∧ H D = none ∧ ∃ as : List Addr, acc = as.map V.ref ∧ as.Nodup ∧ D ∉ as ∧ ∀ i a, as[i]? = some a → H a = none ∧ H' a = some (ob i)) (fun D H' f s _ => ⟨s, f, [], rfl, List.nodup_nil, List.not_mem_nil, fun i a h => (by simp at h)⟩) (fun i D acc H' h => hG _ h.1) (fun i x D acc H' H2 hi' hl' hD ⟨s', fD, as, ea, nd, nD, hv⟩ y => ?_) (fun D acc H' fD hl' hD ⟨s', _, as, ea, nd, nD, hv⟩ => ?_)
  · have la : as.length = i := by
      have := congrArg List.length ea
      rw [List.length_map, hl'] at this
      exact this.symm
    refine hs i x H' H2 _ hi' s' y fun a H3 fa s3 h3 => ?_
    have na : a ∉ as := fun hm => by
      obtain ⟨j, hj⟩ := List.mem_iff_getElem?.mp hm
      have := (hv j a hj).2
      rw [fa] at this
      cases this
    have nDa : a ≠ D := fun z => by
      rw [z, hD] at fa
      cases fa
    refine z_lcB (s3 _ _ hD) hl' (by omega) fun H5 hD5 k5 e5 => ⟨fun b o h => ?_, fD, as ++ [a], by rw [ea, List.map_append]; rfl, ?_, ?_, fun j b hb => ?_⟩
    · rw [e5 b (ne_of_none h fD)]
      exact s3 _ _ (s' _ _ h)
    · rw [List.nodup_append]
      refine ⟨nd, List.pairwise_singleton _ _, fun x hx y hy z => ?_⟩
      rw [List.mem_singleton.mp hy] at z
      exact na (by rw [← z]; exact hx)
    · rw [List.mem_append, List.mem_singleton]
      rintro (h | h)
      · exact nD h
      · exact nDa h.symm
    · rcases Nat.lt_or_ge j as.length with h | h
      · rw [List.getElem?_append_left h] at hb
        have hne : b ≠ D := fun z => nD (by rw [← z]; exact List.mem_of_getElem? hb)
        refine ⟨(hv j b hb).1, ?_⟩
        rw [e5 b hne]
        exact s3 _ _ (hv j b hb).2
      · have hr : j = i := by
          have := (List.getElem?_eq_some_iff.mp hb).1
          rw [List.length_append, List.length_singleton] at this
          omega
        subst hr
        rw [List.getElem?_append_right h, la, Nat.sub_self] at hb
        cases hb
        refine ⟨?_, by rw [e5 a nDa]; exact h3⟩
        cases z : H a with
        | none => rfl
        | some o =>
          have := s' _ _ z
          rw [fa] at this
          cases this
  · have la : as.length = m := by
      have := congrArg List.length ea
      rw [List.length_map, hl'] at this
      exact this.symm
    exact hd D H' as fD s' (by rw [hD, ea]) la nd nD hv
/-! what is walked -/
def It0 (R : It → Hp → Prop) : List V → Hp → Prop := fun _ _ => True
theorem z_iRng {ta : TA} {k : Nat} {R : It → Hp → Prop} (ha : ∀ S : List V → Hp → Prop, S [.int (k : Int)] H → ta σ H S) (hk : k ≤ 1000) (q : R (Itr 0 k) H) : iRng1 ta σ H R := by
  refine ha _ ⟨(k : Int), rfl, by omega, by omega, ?_⟩
  rw [Int.toNat_natCast]
  exact q
theorem z_iList {te : TE} {a : Addr} {xs : List V} {R : It → Hp → Prop} (ha : ∀ S : VK, S (.ref a) H → te σ H S) (h : SqL K H a xs) (q : R (Itl K a) H) : iList K te σ H R := ha _ ⟨a, rfl, ⟨xs, h⟩, q⟩
theorem z_iZip {ta : TA} {a b : Addr} {xs ys : List V} {R : It → Hp → Prop} (ha : ∀ S : List V → Hp → Prop, S [.ref a, .ref b] H → ta σ H S) (h1 : SqL K H a xs) (h2 : SqL K H b ys) (q : R (Itz K a b) H) : iZip K ta σ H R := ha _ ⟨a, b, xs, ys, rfl, h1, h2, q⟩
theorem z_iEnum {ta : TA} {a : Addr} {xs : List V} {R : It → Hp → Prop} (ha : ∀ S : List V → Hp → Prop, S [.ref a] H → ta σ H S) (h1 : SqL K H a xs) (q : R (Ite K a) H) : iEnum K ta σ H R := ha _ ⟨a, xs, rfl, h1, q⟩
def rSumN (K : PySem.W.Frag) : List V → Hp → VK → Prop := rSum K
theorem z_sum {ns : List Int} {a : Addr} (h : SqL K H a (ns.map V.int)) (q : Q (.int ns.sum) H) : rSum K [.ref a] H Q := ⟨a, ns, rfl, h, q⟩
theorem z_reverse {xs : List V} {l : Addr} (h : H l = some (.lst xs)) (q : Q .non (upd H l (.lst xs.reverse))) : rReverse (.ref l) [] H Q := ⟨l, xs, rfl, rfl, h, q⟩
end
/-! one field -/
theorem look1 {f : Str} {v : V} : ([(f, v)] : List (Str × V)).lookup f = some v := by
  unfold List.lookup
  rw [show (f == f) = true from beq_self_eq_true f]
theorem look1n {f m : Str} {v : V} (h : (m == f) = false) : ([(f, v)] : List (Str × V)).lookup m = none := by
  unfold List.lookup
  rw [h]
  rfl
theorem put1 {f : Str} {v w : V} : putF f w [(f, v)] = [(f, w)] := by
  unfold putF
  rw [if_pos rfl]
theorem put0 {f : Str} {w : V} : putF f w [] = [(f, w)] := rfl
end Cw

namespace Co
open PySem PySem.Spec PyProof.Rows L2 Z
/-- a value is never NotImplemented -/
theorem notNI {v : V} {u : Value} (r : RelV v u) {Q : Value → Shared → Prop} {s : Shared} (q : Q u s) : PySem.W.CmpBack Q u s := by
  cases u <;> first | exact q | (cases v <;> first | (cases r; done) | (obtain ⟨_, r⟩ := r; cases r; done) | exact absurd r (by intro z; cases z))
/-- x op y by an own method -/
def rOwn (C : Addr) (sp : Sp) (E : L2.St → XK) : L2.St → R2 := fun σ x y H Q => ∃ a b dx dy fs gs, x = .ref a ∧ y = .ref b ∧ H a = some (.ins C dx fs) ∧ H b = some (.ins C dy gs) ∧ sp [.ref a, .ref b] H Q (E σ)
def rOwn1 (C : Addr) (sp : Sp) (E : L2.St → XK) : L2.St → V → Hp → VK → Prop := fun σ x H Q => ∃ a dx fs, x = .ref a ∧ H a = some (.ins C dx fs) ∧ sp [.ref a] H Q (E σ)
def tOpS (r : L2.St → R2) (ta tb : TE) : TE := fun σ H Q => ta σ H fun x H1 => tb σ H1 fun y H2 => r σ x y H2 Q
def tUnS (r : L2.St → V → Hp → VK → Prop) (ta : TE) : TE := fun σ H Q => ta σ H fun x H1 => r σ x H1 Q
section
variable {X : Cx} {CX : CXT} {k : Nat} {f C : Addr} {fd : FuncData} {ps : List Str} {sp : Sp} {E : L2.St → XK} {op : Operator} {nm : Str}
theorem own_bin {pins : List (Addr × Obj)} {s : Shared} {σ : L2.St} {H : Hp} {x y : V} {v u : Value} {Q : VK} (c : PySem.W.selfFirst X.K C = true) (hs : PySem.W.findIn X.K (.ref C) nm = some (some (.ref f))) (hf : PySem.W.isFn X.K (.ref f) = true) (F : FnOk X.prog X.w X.K X.mg X.base CX k f fd ps sp) (hr : Room k X.A) (hb : Binds X.K fd ps []) (hx : ∀ σ, PassesAt CX X σ (E σ))
    (hn : PySem.dunder op.info.2 = nm) (I : Inv X pins σ H s) (rx : RelV x v) (ry : RelV y u) (h : rOwn C sp E σ x y H Q) : wpAny (model X.prog X.w) X.A (binaryOp op v u) (EP X pins σ Q) X.xe s := by
  obtain ⟨a, b, dx, dy, fs, gs, rfl, rfl, ha, hb', hq⟩ := h
  cases rx
  cases ry
  obtain ⟨mA, J, _⟩ := ins_get I.hok ha
  obtain ⟨mB, J', _⟩ := ins_get I.hok hb'
  obtain ⟨od, J, _⟩ := J.look
  obtain ⟨od', J', _⟩ := J'.look
  obtain ⟨m, hF⟩ := I.fr
  subst hn
  refine PySem.W.binop_K hF I.ok.mod.kin J J'.type c hs hf ?_
  refine wpAny_mono (run_fnSD (us := [.ref a, .ref b]) (vs := [.ref a, .ref b]) F hr hb .nil (hx σ) I (.cons rfl (.cons rfl .nil)) hq) (fun r s' q => ?_) fun _ _ x => x
  obtain ⟨z, H', I', rz, q⟩ := q
  exact notNI rz ⟨z, H', I', rz, q⟩
theorem pe_own {a b : Expr} {ta tb : TE} {pos : Pos} (c : PySem.W.selfFirst X.K C = true) (hs : PySem.W.findIn X.K (.ref C) nm = some (some (.ref f))) (hf : PySem.W.isFn X.K (.ref f) = true) (F : FnOk X.prog X.w X.K X.mg X.base CX k f fd ps sp) (hr : Room k X.A) (hb : Binds X.K fd ps []) (hx : ∀ σ, PassesAt CX X σ (E σ))
    (ha : PE X a ta) (hbb : PE X b tb) (hn : PySem.dunder op.info.2 = nm := by decide +kernel) : PE X (.BinOp a op b pos) (tOpS (rOwn C sp E) ta tb) := by
  refine ⟨fun pins s σ H Q I h => ?_⟩
  exact wpAny_BinOp (binT ha hbb I h fun v u s2 x y H2 I2 rx ry q => own_bin c hs hf F hr hb hx hn I2 rx ry q)
theorem own_neg {pins : List (Addr × Obj)} {s : Shared} {σ : L2.St} {H : Hp} {x : V} {v : Value} {Q : VK} (hs : PySem.W.findIn X.K (.ref C) "__neg__" = some (some (.ref f))) (hf : PySem.W.isFn X.K (.ref f) = true) (F : FnOk X.prog X.w X.K X.mg X.base CX k f fd ps sp) (hr : Room k X.A) (hb : Binds X.K fd ps []) (hx : ∀ σ, PassesAt CX X σ (E σ))
    (I : Inv X pins σ H s) (rx : RelV x v) (h : rOwn1 C sp E σ x H Q) : wpAny (model X.prog X.w) X.A (unaryOp .USub v) (EP X pins σ Q) X.xe s := by
  obtain ⟨a, dx, fs, rfl, ha, hq⟩ := h
  cases rx
  obtain ⟨mA, J, _⟩ := ins_get I.hok ha
  obtain ⟨od, J, _⟩ := J.look
  obtain ⟨m, hF⟩ := I.fr
  unfold unaryOp
  refine wpAny_holding ?_
  show wpAny _ _ (if (UnaryOp.USub == UnaryOp.Not) = true then _ else _) _ _ _
  rw [if_neg (by decide)]
  refine wpAny_bind (PySem.W.special_fn (args := []) (I.ok.mod.kin.keeps hF.keep) J hs (beq_iff_eq.mp hf) ?_)
  refine wpAny_mono (run_fnSD (us := [.ref a]) (vs := [.ref a]) F hr hb .nil (hx σ) I (.cons rfl .nil) hq) (fun r s' q => ?_) fun _ _ x => x
  exact wpAny_pure q
theorem pe_ownNeg {a : Expr} {ta : TE} {pos : Pos} (hs : PySem.W.findIn X.K (.ref C) "__neg__" = some (some (.ref f))) (hf : PySem.W.isFn X.K (.ref f) = true) (F : FnOk X.prog X.w X.K X.mg X.base CX k f fd ps sp) (hr : Room k X.A) (hb : Binds X.K fd ps []) (hx : ∀ σ, PassesAt CX X σ (E σ))
    (ha : PE X a ta) : PE X (.UnaryOp .USub a pos) (tUnS (rOwn1 C sp E) ta) := by
  refine ⟨fun pins s σ H Q I h => ?_⟩
  exact UnaryOp_ (thn (ha.run pins s σ H _ I h) fun v s1 ⟨x, H1, I1, r1, q1⟩ => own_neg hs hf F hr hb hx I1 r1 q1)
end
theorem passAll {X : Cx} {CX : CXT} {E : XK} (h : Passes CX X E) : ∀ σ, PassesAt CX X σ ((fun _ => E) σ) := fun σ pins H s e s' I q => h pins σ H s e s' I q
section
variable {ta tb : TE} {σ : L2.St} {H : Hp} {Q : VK} {C a b dx dy : Addr} {fs gs : List (Str × V)} {sp : Sp} {E : L2.St → XK}
theorem z_opS {r : L2.St → R2} (h : ta σ H fun x H1 => tb σ H1 fun y H2 => r σ x y H2 Q) : tOpS r ta tb σ H Q := h
theorem z_unS {r : L2.St → V → Hp → VK → Prop} (h : ta σ H fun x H1 => r σ x H1 Q) : tUnS r ta σ H Q := h
theorem z_own (h1 : H a = some (.ins C dx fs)) (h2 : H b = some (.ins C dy gs)) (q : sp [.ref a, .ref b] H Q (E σ)) : rOwn C sp E σ (.ref a) (.ref b) H Q := ⟨a, b, dx, dy, fs, gs, rfl, rfl, h1, h2, q⟩
theorem z_own1 (h1 : H a = some (.ins C dx fs)) (q : sp [.ref a] H Q (E σ)) : rOwn1 C sp E σ (.ref a) H Q := ⟨a, dx, fs, rfl, h1, q⟩
end
end Co

/-! an exception that leaves a list comprehension, also a nested one -/
namespace Xc
open PySem PySem.Spec PyProof.Rows L2 Z
section
variable {M : Model} {A : Around} {E : Value → Shared → Prop} {s : Shared} {env : Env}
/-- what a comprehension's run is to leave; the frame of its environment is told -/
def cpX (M : Model) (A : Around) (E : Value → Shared → Prop) (Q : Value → Shared → Prop) (acc : Value) (cenv : Env) (r : Result) (s' : Shared) : Prop :=
  match r with
  | .ok _ => ∃ m, s'.heap.Ns cenv.locals m ∧ ∀ h', Heap.SameBut cenv.locals s'.heap h' → Q acc { s' with heap := h' }
  | .error x => ∃ m, s'.heap.Ns cenv.locals m ∧ ∀ h', Heap.SameBut cenv.locals s'.heap h' → ∀ c' : Env, c'.frame = cenv.frame → wpAny M A (passOn "comprehension.variables-let-go" x c' : Sem Value) (fun _ _ => False) E { s' with heap := h' }
theorem comp_x {e : Expr} {scope : Scope} {pos : Pos} {newAcc first : Sem Value} {g : Comprehension} {gs : List Comprehension} {cl : List (Str × Addr)} {Q : Value → Shared → Prop}
    (hcl : clausesOf e = g :: gs) (hs : ∀ x, foldedSetIterable g.iter env x = pure x) (hclos : closureFor scope env = pure cl)
    (hkind : scope.kind = .function) (hnames : ∀ x ∈ scope.names, x.2 = .local → scope.names.lookup x.1 = some .local)
    (h : wpAny M A first (fun x s₁ => wpAny M A (pyIter x) (fun it s₂ => wpAny M A newAcc (fun acc s₃ =>
      wpAny M A (newFunctionEnv scope env.globals cl [] env.qual none .none (some env)) (fun cenv s₄ =>
        codeAny M A (.compStart e 0 it acc { cenv with scope := relabel scope env }) (cpX M A E Q acc cenv) s₄) E s₃) E s₂) E s₁) E s) :
    wpAny M A (comprehension e scope env pos newAcc false first none) Q E s := by
  unfold comprehension
  rw [hclos, hcl]
  refine wpAny_bind (wpAny_mono h (fun x s₁ h₁ => wpAny_bind (wpAny_standAt (wpAny_bind (wpAny_of_eq (hs x) (wpAny_bind (wpAny_holding (wpAny_mono h₁ (fun it s₂ h₂ =>
    wpAny_standIf (wpAny_bind (wpAny_mono h₂ (fun acc s₃ h₃ => wpAny_bind (wpAny_pure (wpAny_bind (wpAny_mono h₃ (fun cenv s₄ h₄ => ?_) fun _ _ h' => h')))) fun _ _ h' => h')))
      fun _ _ h' => h'))))))) fun _ _ h' => h')
  dsimp only
  have hv : ∀ x ∈ (scope.names.filter fun x => (x.2 == .local || x.2 == .cell) && x.1 != (".0" : Str)).reverse, x.2 = .local →
      Env.kindOf { cenv with scope := relabel scope env } x.1 = some .local := fun x hx hl => lookup_relabel_local (hnames x (List.mem_filter.mp (List.mem_reverse.mp hx)).1 hl)
  refine wpAny_holding (wpAny_bind (wpAny_attempt (wpAny_holding (wpAny_run (codeAny_mono h₄ fun r s' hr => ?_)))))
  cases r with
  | ok f =>
    obtain ⟨m, hn, hr⟩ := hr
    exact wpAny_bind (wpAny_holding (wpAny_comp_letGo (cenv := { cenv with scope := relabel scope env }) hkind _ s' m hv hn fun h' m' _ hs' => wpAny_pure (hr h' hs')))
  | error x =>
    obtain ⟨m, hn, hr⟩ := hr
    exact wpAny_bind (wpAny_holding (wpAny_comp_letGo (cenv := { cenv with scope := relabel scope env }) hkind _ s' m hv hn fun h' m' _ hs' => wpAny_mono (hr h' hs' _ rfl) (fun _ _ f => f.elim) fun _ _ y => y))
end

/-- an exception in the air of X, its frame at L -/
def XF (X : Cx) (L : Addr) (E : XK) (P : Heap → List Env → Addr → (Obj → Prop) → Addr → Heap → Prop) (u : Value) (s' : Shared) : Prop :=
  ∃ (a : Addr) (B : Heap) (sI : Shared) (pins : List (Addr × Obj)) (σ : L2.St) (H : Hp) (cls : Value) (d : Option Addr),
    u = .ref a ∧ Inv X pins σ H sI ∧ (∀ b o, sI.heap.get? b = some o → b ∉ frs X.stack → B.get? b = some o) ∧ sI.heap.UpToSlots s'.heap ∧
      P B X.stack a (Zc cls d) L s'.heap ∧ H a = none ∧ s'.os = sI.os ∧ AllBare s'.gens ∧ E cls d H
def Tk (X : Cx) (E : XK) : Prop := ∃ L D outs, X.stack = D :: outs ∧ D.frame = some L ∧ X.env.frame = some L ∧ ∀ u s', XF X L E Sky u s' → X.xe u s'
abbrev Held (B : Heap) (l : List Env) (a : Addr) (Z : Obj → Prop) (L : Addr) (h : Heap) : Prop := HandSPX.HeldZ B l a Z L h

section
variable {X : Cx} {E : XK} {L : Addr} {pins : List (Addr × Obj)} {σ : L2.St} {H : Hp} {s s' : Shared} {u : Value}
theorem tk_def (hs : X.stack = X.env :: X.outer) (hf : X.env.frame = some X.env.locals) (tk : Takes X (fun cls d _ H => E cls d H)) : Tk X E := ⟨X.env.locals, X.env, X.outer, hs, hf, hf, fun u s' h => tk u s' h⟩

/-- a call's exception -/
theorem XF.of_call (I : Inv X pins σ H s) (c : L2.CX X.prog X.w X.stack H s E u s') : XF X L E Sky u s' := by
  obtain ⟨a, B, H', cls, d, rfl, fl, hok, ub, na, os, ag, hE⟩ := c
  obtain ⟨G, gy, gn⟩ := restrict s'.heap fun b => (B.get? b).isSome || decide (b ∈ frs X.stack)
  have keepB : ∀ b o, B.get? b = some o → G.get? b = some o := fun b o e => (gy b (by simp [e])).trans (fl.1 b o e)
  have atF : ∀ b, b ∈ frs X.stack → G.get? b = s'.heap.get? b := fun b hb => gy b (by simp [hb])
  have inG : ∀ b o, G.get? b = some o → s'.heap.get? b = some o ∧ ((B.get? b).isSome = true ∨ b ∈ frs X.stack) := fun b o e => by
    by_cases q : ((B.get? b).isSome || decide (b ∈ frs X.stack)) = true
    · rw [gy b q] at e
      exact ⟨e, by simpa [Bool.or_eq_true] using q⟩
    · rw [gn b (by simpa using q)] at e; cases e
  have J : Inv X pins σ H' { s with heap := G, gens := s'.gens, drawn := s'.drawn, toks := s'.toks } := by
    refine I.call (ch := []) ⟨fun b o e n hb _ => keepB b o (ub.keep b o e n hb), fun b o e _ hb _ => ?_, fun b o e n _ => ub.free b o e n, fun b o e _ => ?_, ub.tups, ub.frzs, ub.tbls⟩ (hok.kept keepB) ag (fun _ z => nomatch z)
    · obtain ⟨sl, q⟩ := ub.slot b o e hb
      exact ⟨sl, (atF b hb).trans q⟩
    · by_cases hb : b ∈ frs X.stack
      · obtain ⟨sl, q⟩ := ub.slot b o e hb
        exact ⟨_, (atF b hb).trans q⟩
      · obtain ⟨o', q⟩ := ub.there b o e hb
        exact ⟨o', keepB b o' q⟩
  refine ⟨a, B, _, pins, σ, H', cls, d, rfl, J, fun b o e hb => ?_, Heap.UpToSlots.of_keeps fun b o e => (inG b o e).1, .inr (.inl fl), na, os, ag, hE⟩
  obtain ⟨e', h⟩ := inG b o e
  rcases h with h | h
  · obtain ⟨o', q⟩ := Option.isSome_iff_exists.mp h
    have z := fl.1 b o' q
    rw [e'] at z; cases z
    exact q
  · exact absurd h hb
theorem pass (tk : Tk X E) : Passes (L2.CX X.prog X.w) X E := fun pins σ H s e s' I c => by
  obtain ⟨L, D, outs, _, _, _, t⟩ := tk
  exact t e s' (XF.of_call I c)

/-- noted -/
theorem XF.noted {E₁ : Value → Shared → Prop} {D : Env} {outs : List Env} (hs : X.stack = D :: outs) (hD : D.frame = some L) (hf : X.env.frame = some L) (hA : X.A.frames = some X.stack) (x : XF X L E Sky u s') :
    wpAny (model X.prog X.w) X.A (noteFrame u X.env) (fun _ s'' => XF X L E Held u s'') E₁ s' := by
  obtain ⟨a, B, sI, pins, σ, H, cls, d, rfl, I, nb, up, sky, na, os, ag, hE⟩ := x
  have e : noteFrame (.ref a) X.env = noteFrame (.ref a) D := by unfold noteFrame PySem.frameOf; rw [hf, hD]
  rw [e]
  have hfr : X.A.frames = some (D :: outs) := by rw [hA, hs]
  have fin : ∀ h', HandSPX.HeldZ B X.stack a (Zc cls d) L h' → s'.heap.UpToSlots h' → XF X L E Held (.ref a) { s' with heap := h' } := fun h' hh up' => ⟨a, B, sI, pins, σ, H, cls, d, rfl, I, nb, up.trans up', hh, na, os, ag, hE⟩
  rw [hs] at sky fin
  rcases sky with ⟨hB, hn, hl, oe, vs, he, hz, hd, h1⟩ | fl | hh
  · exact HandSPX.look_newZ Zc.steady hfr hl hD he hB hn hd h1 hz fin
  · exact HandSPX.looks_onZ Zc.steady hfr hD fl fin
  · exact HandSPX.againZ hD hh.2.2.2 (fin s'.heap hh (Heap.UpToSlots.refl _))
/-- handed on -/
theorem XF.passed {E₁ : Value → Shared → Prop} {ce : Env} {what : String} (hf : ce.frame = some L) (x : XF X L E Held u s') (h : ∀ s'', XF X L E Sky u s'' → E₁ u s'') :
    wpAny (model X.prog X.w) X.A (passOn what u ce : Sem Value) (fun _ _ => False) E₁ s' := by
  obtain ⟨a, B, sI, pins, σ, H, cls, d, rfl, I, nb, up, hh, na, os, ag, hE⟩ := x
  unfold PySem.passOn
  obtain ⟨oe, vs, T, oT, ts, he, hz, hd, h1, hnT, hTe, hT, hdT, h3⟩ := hh.2.2.2
  refine wpAny_bind (wpAny_field he hd h1 ?_)
  rw [if_neg (show ¬ ((Value.ref T == Value.none) = true) from by simp)]
  rw [hf]
  refine wpAny_bind (HandSPX.setFlight_onZ hh fun h' hh' up' => ?_)
  exact wpAny_throw (h _ ⟨a, B, sI, pins, σ, H, cls, d, rfl, I, nb, up.trans up', .inr (.inr hh'), na, os, ag, hE⟩)
end
/-- the context of a block, with what is wanted of an exception -/
abbrev blkE (X : Cx) (s : Shared) (H : Hp) (scope : Scope) (cenv : Env) (fp : List Addr) (xe : Value → Shared → Prop) : Cx := { X with s_0 := s, H_0 := H, env := cenv, outer := X.stack, ex := fp, fn := fun x => scope.names.lookup x == some .cell, pn := [], xe := xe }
theorem toE {X : Cx} {s : Shared} {H : Hp} {scope : Scope} {ce : Env} {fp : List Addr} {xe : Value → Shared → Prop} {pins : List (Addr × Obj)} {σ : L2.St} {H' : Hp} {s' : Shared} (I : Inv (X.blk s H scope ce fp) pins σ H' s') : Inv (blkE X s H scope ce fp xe) pins σ H' s' :=
  ⟨⟨I.ok.mod, I.ok.kind, I.ok.glob, I.ok.blt, I.ok.above, I.ok.inj, I.ok.has, I.ok.cab, I.ok.hd, I.ok.frames, I.ok.stk, I.ok.exf, I.ok.bs, I.ok.bsz, I.ok.noex, I.ok.exfs, I.ok.funs, I.ok.frf⟩, I.os, I.bare, I.base, I.loc, I.cell, I.free, I.freeC, I.pin, I.hok, I.len⟩

theorem fun_hide {h h' B B' : Heap} {C : Addr} (sb : Heap.SameBut C h h') (gone : ∀ b, B.get? b = none → B'.get? b = none) : ∀ {l : List Env}, C ∉ frs l → h.FunFrames B l → h'.FunFrames B' l
  | [], _, _ => trivial
  | env :: l, hn, ⟨hk, ⟨L, o, hf, hb, ho, hd⟩, hr⟩ => by
    have hm : L ∈ frs (env :: l) := List.mem_filterMap.mpr ⟨env, List.mem_cons_self, hf⟩
    exact ⟨hk, ⟨L, o, hf, gone L hb, (sb.2 L fun z => hn (z ▸ hm)).trans ho, hd⟩, fun_hide sb gone (fun q => hn (by
      obtain ⟨e, he, q⟩ := List.mem_filterMap.mp q
      exact List.mem_filterMap.mpr ⟨e, List.mem_cons_of_mem _ he, q⟩)) hr⟩
/-- out of a block: the block's own names go -/
theorem XF.out {X : Cx} {E : XK} {L : Addr} {pins : List (Addr × Obj)} {σ : L2.St} {H : Hp} {s3 s' : Shared} {u : Value} {scope : Scope} {ce : Env} {fp : List Addr} {xe : Value → Shared → Prop} (I3 : Inv X pins σ H s3) (hC : s3.heap.objs.size ≤ ce.locals)
    (f3 : ∀ b ∈ fp, FpOk X pins H b ∧ b < s3.heap.objs.size) (x : XF (blkE X s3 H scope ce fp xe) L E Held u s') :
    (∃ m, s'.heap.Ns ce.locals m) ∧ ∀ h', Heap.SameBut ce.locals s'.heap h' → XF X L E Held u { s' with heap := h' } := by
  obtain ⟨a, B, sI, pn, σ', H', cls, d, rfl, I, nb, up, hh, na, os, ag, hE⟩ := x
  have J : Inv X pins σ H' sI := I3.call' (ch := fp) I.os I.base I.hok I.bare fun b hb => ⟨(f3 b hb).1.2.2.2.1, (f3 b hb).1.2.1, (f3 b hb).1.2.2.2.2.1, (f3 b hb).1.2.2.2.2.2⟩
  have nf : ce.locals ∉ frs X.stack := fun hm => by
    obtain ⟨_, o, e, _⟩ := I3.stack.mem hm
    exact absurd (Nat.lt_of_lt_of_le (Heap.lt_size e) hC) (Nat.lt_irrefl _)
  have nC : H' ce.locals = none := I.free
  obtain ⟨m, hn, _⟩ := I.loc
  have hn : sI.heap.Ns ce.locals m := hn
  obtain ⟨oc, es, ep, ho, hd, hk, hf⟩ := hn
  have hB : B.get? ce.locals = some oc := nb _ _ ho nf
  have hs' : s'.heap.get? ce.locals = some oc := hh.1 _ _ hB
  refine ⟨⟨m, oc, es, ep, hs', hd, hk, hf⟩, fun h' sb => ?_⟩
  have f := I3.fpOk (H' := H') hC nC
  obtain ⟨f0, f1, f2, f3', f4, f5⟩ := f
  have J2 : Inv X pins σ H' { sI with heap := PySem.W.hideAll sI.heap [ce.locals], toks := sI.toks } := J.turned (it := ce.locals) (fun b o hb e => PySem.W.hideAll_get _ e (by simpa using hb)) f0 f1 f3' f4 f5
  have aC : a ≠ ce.locals := fun z => by
    have q := hh.2.1
    rw [z, hB] at q; cases q
  have inB : ∀ b o, (PySem.W.hideAll B [ce.locals]).get? b = some o → B.get? b = some o ∧ b ≠ ce.locals := fun b o e => ⟨PySem.W.of_hideAll _ e, fun z => by
    rw [z, PySem.W.hideAll_none [ce.locals] (by simp)] at e; cases e⟩
  have inS : ∀ b o, (PySem.W.hideAll sI.heap [ce.locals]).get? b = some o → sI.heap.get? b = some o ∧ b ≠ ce.locals := fun b o e => ⟨PySem.W.of_hideAll _ e, fun z => by
    rw [z, PySem.W.hideAll_none [ce.locals] (by simp)] at e; cases e⟩
  have gone : ∀ b, B.get? b = none → (PySem.W.hideAll B [ce.locals]).get? b = none := fun b e => by
    cases q : (PySem.W.hideAll B [ce.locals]).get? b with
    | none => rfl
    | some o => rw [(inB b o q).1] at e; cases e
  have hh0 := hh
  obtain ⟨k1, k2, k3, k4⟩ := hh
  have k3 : s'.heap.FunFrames B X.stack := k3
  have k4 := k4
  refine ⟨a, PySem.W.hideAll B [ce.locals], _, pins, σ, H', cls, d, rfl, J2, fun b o e hb => ?_, fun b o e hnf => ?_, ⟨fun b o e => ?_, gone a k2, ?_, ?_⟩, na, os, ag, hE⟩
  · have e : (PySem.W.hideAll sI.heap [ce.locals]).get? b = some o := e
    obtain ⟨e1, e2⟩ := inS b o e
    exact PySem.W.hideAll_get _ (nb b o e1 hb) (by simpa using e2)
  · have e : (PySem.W.hideAll sI.heap [ce.locals]).get? b = some o := e
    obtain ⟨e1, e2⟩ := inS b o e
    obtain ⟨sl, q⟩ := up b o e1 hnf
    exact ⟨sl, (sb.2 b e2).trans q⟩
  · obtain ⟨e1, e2⟩ := inB b o e
    exact (sb.2 b e2).trans (k1 b o e1)
  · exact fun_hide sb gone nf k3
  · obtain ⟨oe, vs, T, oT, ts, he, hz, hd', h1, hnT, hTe, hT, hdT, h3⟩ := k4
    have tC : T ≠ ce.locals := fun z => by rw [z, hB] at hnT; cases hnT
    exact ⟨oe, vs, T, oT, ts, (sb.2 a aC).trans he, hz, hd', h1, gone T hnT, hTe, (sb.2 T tC).trans hT, hdT, h3⟩

section
variable {X : Cx} {E : XK}
/-- [elt for target in iter if ..], what may raise E inside -/
theorem pe_lcX {elt tg iter : Expr} {ifs : List Expr} {scope : Scope} {own : List (Str × Nat)} {pos : Pos} {wi : TI} {g : TG} {tt : TT} {te : TE} (tk : Tk X E) (hc : X.calm = true) (hN : X.N.Nodup) (hi : PI X tg iter wi) (ok : BlkOk X.N X.env.scope scope own)
    (hg : ∀ (s : Shared) (H : Hp) (C : Addr) (cl : List (Str × Addr)) (fp : List Addr) (xe : Value → Shared → Prop), Tk (blkE X s H scope (compEnvC scope cl C X.env) fp xe) E → PG (blkE X s H scope (compEnvC scope cl C X.env) fp xe) tg g)
    (ht : ∀ (s : Shared) (H : Hp) (C : Addr) (cl : List (Str × Addr)) (fp : List Addr) (xe : Value → Shared → Prop), Tk (blkE X s H scope (compEnvC scope cl C X.env) fp xe) E → PTs (blkE X s H scope (compEnvC scope cl C X.env) fp xe) ifs tt)
    (he : ∀ (s : Shared) (H : Hp) (C : Addr) (cl : List (Str × Addr)) (fp : List Addr) (xe : Value → Shared → Prop), Tk (blkE X s H scope (compEnvC scope cl C X.env) fp xe) E → PE (blkE X s H scope (compEnvC scope cl C X.env) fp xe) elt te)
    (hs : ∀ x, foldedSetIterable iter X.env x = pure x := by intro _; rfl) :
    PE X (.ListComp elt [⟨tg, iter, ifs, 0⟩] scope pos) (tLc wi g tt te (own.map (·.2))) := by
  refine ⟨fun pins s σ H Q I h => ?_⟩
  obtain ⟨L, Dm, outs, hstk, hDf, hXf, htk⟩ := tk
  rw [eval_ListComp]
  have hfree : ∀ y ∈ scope.names, y.2 = .free → ∃ c, X.env.cells.lookup y.1 = some c := fun y hy e => by
    rcases ok.free y hy e with k | k
    · exact I.ok.has _ (.inl k)
    · exact I.ok.has _ (.inr k)
  refine comp_x rfl hs (closure_ok hfree) ok.kind (fun y hy e => by rw [ok.uniq y hy, e])
    (thn (hi.run pins s σ H _ I h) fun xv s1 hx => thn hx fun itv s2 h2 => ?_)
  obtain ⟨it, fp, tn, J, H2, e, I2, T, st2, f2, q⟩ := h2
  subst e
  refine wpAny_newObj_type (newEnv_comp ?_) (by show 0 ≤ sizeLine; decide)
  generalize hD : s2.heap.objs.size = D
  have hDn : H2 D = none := I2.hok.fresh (Nat.le_of_eq hD)
  obtain ⟨W, ⟨m0, w0⟩, turn⟩ := q D hDn
  generalize hs3 : ({ s2 with heap := s2.heap.push { cls := .type "list", data := .seq ([] : List Value).toArray } } : Shared) = s3
  have I3 : Inv X pins σ (upd H2 D (.lst [])) s3 := by
    rw [← hs3]
    refine I2.laid (t' := s2.toks) (fun b o e => Heap.get?_push_of_some _ e) (Nat.le_of_eq hD) ⟨Nat.zero_le _, [], 0, .nil, ?_⟩
    rw [← hD]
    exact Heap.get?_push_size _ rfl
  have h3 : s3.heap = s2.heap.push { cls := .type "list", data := .seq ([] : List Value).toArray } := by rw [← hs3]
  have sz : ∀ b ∈ fp, b < s2.heap.objs.size := fun b hb => by
    obtain ⟨o, e, _⟩ := T.obj _ _ st2 b hb
    exact Heap.lt_size e
  have f3 : ∀ b ∈ fp, FpOk X pins (upd H2 D (.lst [])) b ∧ b < s3.heap.objs.size := fun b hb => by
    have hlt := sz b hb
    refine ⟨⟨?_, (f2 b hb).2⟩, by rw [h3, Heap.size_push]; exact Nat.lt_succ_of_lt hlt⟩
    rw [upd_ne (by rw [← hD]; exact Nat.ne_of_lt hlt)]
    exact (f2 b hb).1
  have st3 : tn 0 s3.heap := T.keep _ _ _ st2 fun b _ o e => by rw [h3]; exact Heap.get?_push_of_some _ e
  have I4 := block_start I3 ok hN f3
  generalize hcl : cellsFrom (s3.heap.objs.size + 1) scope.names (cloFrom X.env.cells scope.names []) = cl at I4
  have pg := hg s3 (upd H2 D (.lst [])) s3.heap.objs.size cl fp
  have pt := ht s3 (upd H2 D (.lst [])) s3.heap.objs.size cl fp
  have pe := he s3 (upd H2 D (.lst [])) s3.heap.objs.size cl fp
  show codeAny _ _ (.compStart (.ListComp elt [⟨tg, iter, ifs, 0⟩] scope pos) 0 (.ref it) (.ref D) (compEnvC scope cl s3.heap.objs.size X.env)) (cpX (model X.prog X.w) X.A X.xe (fun v s' => EP X pins σ Q v s') (.ref D) (newEnv scope s3.heap.objs.size X.env.globals cl X.env.qual none .none (some X.env) builtinsNs)) { s3 with heap := pushCells (s3.heap.push { cls := .type "dict", data := .dict #[] }) scope.names }
  have nL : (newEnv scope s3.heap.objs.size X.env.globals cl X.env.qual none .none (some X.env) builtinsNs).locals = s3.heap.objs.size := rfl
  have nF : (newEnv scope s3.heap.objs.size X.env.globals cl X.env.qual none .none (some X.env) builtinsNs).frame = some L := hXf
  generalize newEnv scope s3.heap.objs.size X.env.globals cl X.env.qual none .none (some X.env) builtinsNs = cn at nL nF ⊢
  have nfp : ∀ b ∈ fp, (upd H2 D (.lst [])) b = none := fun b hb => (f3 b hb).1.1
  have cF : (compEnvC scope cl s3.heap.objs.size X.env).frame = some L := hXf
  have cL : (compEnvC scope cl s3.heap.objs.size X.env).locals = s3.heap.objs.size := rfl
  generalize hce : compEnvC scope cl s3.heap.objs.size X.env = ce at I4 pg pt pe cF cL ⊢
  generalize hH3 : upd H2 D (.lst []) = H3 at I3 I4 pg pt pe w0 nfp f3
  generalize hs4 : ({ s3 with heap := pushCells (s3.heap.push { cls := .type "dict", data := .dict #[] }) scope.names } : Shared) = s4 at I4 ⊢
  have st4 : tn 0 s4.heap := T.keep _ _ _ st3 fun b _ o e => by rw [← hs4]; exact pushCells_keeps _ _ _ _ (Heap.get?_push_of_some _ e)
  generalize hR : cpX (model X.prog X.w) X.A X.xe (fun v s' => EP X pins σ Q v s') (.ref D) cn = R
  generalize hxe : notedBy (model X.prog X.w) X.A ce (fun e s' => R (.error e) s') = xe
  have tkb : Tk (blkE X s3 H3 scope ce fp xe) E := by
    refine ⟨L, Dm, outs, hstk, hDf, cF, fun u s' x => ?_⟩
    show xe u s'
    rw [← hxe]
    show wpAny _ _ (noteFrame u ce) _ _ s'
    refine wpAny_mono (XF.noted (X := blkE X s3 H3 scope ce fp xe) (E₁ := fun e s' => R (.error e) s') hstk hDf cF I3.ok.frames x) (fun _ s'' x' => ?_) fun _ _ z => z
    rw [← hR]
    obtain ⟨⟨m, hm⟩, ho⟩ := XF.out I3 (Nat.le_of_eq cL.symm) f3 x'
    rw [cL] at hm ho
    refine ⟨m, by rw [nL]; exact hm, fun h' sb c' hc' => ?_⟩
    rw [nL] at sb
    exact XF.passed (hc'.trans nF) (ho h' sb) (htk u)
  have pg := pg xe tkb
  have pt := pt xe tkb
  have pe := pe xe tkb
  have I4 := toE (xe := xe) I4
  have stat : ∀ {σ' : L2.St} {H' : Hp} {s' : Shared}, Inv (blkE X s3 H3 scope ce fp xe) [] σ' H' s' → (∀ b ∈ fp, H' b = none) → ∀ b ∈ fp, FpOk (blkE X s3 H3 scope ce fp xe) [] H' b := fun {σ' H' s'} I' hn b hb =>
    ⟨hn b hb, (I'.ok.exf b hb).1, I'.ok.exfs b hb, .inl hb, fun x c e => (I'.ok.exf b hb).2 x c e, fun p hp => absurd (show p ∈ ([] : List (Addr × Obj)) ++ [] from hp) (by simp)⟩
  have loop : codeAny (model X.prog X.w) X.A (.compLoop (.ListComp elt [⟨tg, iter, ifs, 0⟩] scope pos) 0 (.ref it) (.ref D) ce) R s4 := by
    refine compLoop_any (fun n s' => ∃ i H', Inv (blkE X s3 H3 scope ce fp xe) [] (wipe σ (own.map (·.2))) H' s' ∧ tn i s'.heap ∧ (∀ b ∈ fp, H' b = none) ∧ W i n H') ?_ m0 ⟨0, H3, I4, st4, nfp, w0⟩
    rintro n s5 ⟨i, H5, I5, st5, n5, w5⟩
    rw [hxe]
    rcases turn i n H5 w5 with ⟨stop, qq⟩ | ⟨go, Nx, hNx, step⟩
    · refine thnF (T.done (blkE X s3 H3 scope ce fp xe) rfl rfl rfl hc i [] s5 _ H5 (fun _ _ => False) I5 (stat I5 n5) st5 stop) fun r s6 ⟨hr, I6⟩ => ?_
      subst hr
      have I7 : Inv X pins σ H5 s6 := I3.call' (ch := fp) I6.os I6.base I6.hok I6.bare fun b hb => ⟨(f3 b hb).1.2.2.2.1, (f3 b hb).1.2.1, (f3 b hb).1.2.2.2.2.1, (f3 b hb).1.2.2.2.2.2⟩
      have nC : H5 s3.heap.objs.size = none := by
        have z : H5 ce.locals = none := I6.free
        rw [cL] at z
        exact z
      obtain ⟨m, hn, _⟩ := I6.loc
      have hn : s6.heap.Ns ce.locals m := hn
      rw [cL] at hn
      show R (.ok .next) s6
      rw [← hR]
      refine ⟨m, by rw [nL]; exact hn, fun h'' sb => ?_⟩
      rw [nL] at sb
      obtain ⟨f0, f1, f2, f3', f4, f5⟩ := I3.fpOk (H' := H5) (Nat.le_refl _) nC
      exact ⟨.ref D, H5, I7.turned (t' := s6.toks) (fun b o hb e => (sb.2 b hb).trans e) f0 f1 f3' f4 f5, rfl, qq⟩
    · refine thnF (T.item (blkE X s3 H3 scope ce fp xe) rfl rfl rfl hc i [] s5 _ H5 (fun _ _ => False) I5 (stat I5 n5) st5 go) fun r s6 ⟨u, hr, h6⟩ => ?_
      subst hr
      refine thnF h6 fun _ s7 ⟨x, H7, I7, r7, y7, st7, n7⟩ => ?_
      have I7' := I7.pinned (stat I7 n7) (T.obj _ _ st7)
      refine thn (pg.run _ s7 _ H7 x u _ I7' r7 (step x H7 y7)) fun _ s8 ⟨σ8, H8, I8, hw8, q8⟩ => ?_
      refine thn (pt.run _ s8 σ8 H8 _ I8 q8) fun b s9 ⟨H9, I9, q9⟩ => ?_
      have fin : ∀ {s' : Shared} {H' : Hp}, Inv (blkE X s3 H3 scope ce fp xe) ([] ++ pinsAt fp s7.heap) σ8 H' s' → Nx H' → ∃ m, m < n ∧ ∃ i H', Inv (blkE X s3 H3 scope ce fp xe) [] (wipe σ (own.map (·.2))) H' s' ∧ tn i s'.heap ∧ (∀ b ∈ fp, H' b = none) ∧ W i m H' := fun {s' H'} I' nx => by
        obtain ⟨m', hm, w'⟩ := hNx H' nx
        have pin' : ∀ b ∈ fp, ∀ o, s7.heap.get? b = some o → s'.heap.get? b = some o ∧ H' b = none := fun b hb o e =>
          let z := I'.pin (b, o) (List.mem_append_right _ (List.mem_append_right _ (mem_pinsAt hb e)))
          ⟨z.1, z.2.1⟩
        have hl : (wipe σ (own.map (·.2))).length = σ8.length := by rw [← hw8, wipe_length]
        refine ⟨m', hm, i + 1, H', (I'.unpinned (pins := [])).weak hl (fun j v e => ?_), T.keep _ _ _ st7 fun b hb o e => (pin' b hb o e).1, fun b hb => ?_, w'⟩
        · rw [← hw8] at e
          exact (wipe_some e).1
        · obtain ⟨o, e, _⟩ := T.obj _ _ st7 b hb
          exact (pin' b hb o e).2
      cases b with
      | false =>
        simp only [Bool.false_eq_true, if_false] at q9 ⊢
        exact fin I9 q9
      | true =>
        simp only [if_true] at q9 ⊢
        refine thn (pe.run _ s9 σ8 H9 _ I9 q9) fun z s10 ⟨yv, H10, I10, r10, acc, hD10, hz10, nx⟩ => ?_
        exact app_ok (X := blkE X s3 H3 scope ce fp xe) I10 hD10 hz10 r10 fun s11 I11 => fin I11 nx
  exact codeAny_compStart_list loop (T.self X.A 0 _ _ _ st4 loop)
end
section
variable {H : Hp} {Q : VK} {σ : L2.St} {wi : TI} {J : It} {m : Nat} {G : Hp → Prop} {Y : Nat → Hp → V → Hp → Prop} {g : TG} {te : TE} {vs : List Nat}
/-- a comprehension that can't come to its end: an element without P raises -/
theorem z_failW (P : Nat → Prop) (w : Walk J m G Y) (hm : m ≤ 1000) (hi : ∀ R : It → Hp → Prop, R J H → wi σ H R) (hG : ∀ H', Same H H' → G H') (no : ¬ ∀ i, i < m → P i)
    (hs : ∀ i x H' H2 (R : VK), i < m → Same H H' → Y i H' x H2 → (P i → ∀ v H3, Same H' H3 → R v H3) → g x (wipe σ vs) H2 fun σ2 H3 => wipe σ2 vs = wipe σ vs ∧ te σ2 H3 R) : tLc wi g tYes te vs σ H Q := by
  refine Cw.z_lcW w hi (fun i D acc H' => Same H H' ∧ H D = none ∧ ∀ k, k < i → P k) (fun D H' f s _ => ⟨s, f, fun k h => absurd h (Nat.not_lt_zero _)⟩) (fun i D acc H' h => hG _ h.1) (fun i x D acc H' H2 hi' hl' hD ⟨s', fD, hp⟩ y => ?_) (fun D acc H' fD hl' hD ⟨s', _, hp⟩ => absurd hp no)
  refine hs i x H' H2 _ hi' s' y fun p v H3 s3 => ?_
  refine z_lcB (s3 _ _ hD) hl' (by omega) fun H5 hD5 k5 e5 => ⟨fun b o h => ?_, fD, fun k hk => ?_⟩
  · rw [e5 b (ne_of_none h fD)]
    exact s3 _ _ (s' _ _ h)
  · rcases Nat.lt_succ_iff_lt_or_eq.mp hk with h | h
    · exact hp k h
    · exact h ▸ p
end
end Xc

/-! tuple(e for x in xs), whose element may call defs of the program -/
namespace Tg
open PySem PySem.Spec PyProof.Rows L2 GenW Gl GxR
/-- the context of a generator expression's own run -/
abbrev gx (X : Cx) (A' : Around) (s : Shared) (H : Hp) (ce : Env) (fp : List Addr) : Cx :=
  { X with A := A', s_0 := s, H_0 := H, env := ce, outer := X.stack, stack := ce :: X.stack, ex := fp, fn := fun _ => false, calm := true, pn := [], xe := fun _ _ => False }
section
variable {X : Cx} {pins : List (Addr × Obj)} {σ : L2.St} {H : Hp} {s : Shared}
theorem gen_start {A' : Around} {scope : Scope} {own : List (Str × Nat)} {fp : List Addr} {code : Value} {s' : Shared} (I : Inv X pins σ H s) (ok : BlkOk X.N X.env.scope scope own) (hcell : ∀ y ∈ scope.names, y.2 ≠ .cell) (hN : X.N.Nodup)
    (hfp : ∀ b ∈ fp, FpOk X pins H b ∧ b < s.heap.objs.size) (hd : A'.handled = none) (hA : A'.frames = some (genEnv scope (cloFrom X.env.cells scope.names []) s.heap.objs.size code builtinsNs X.env :: X.stack))
    (kp : ∀ b o, s.heap.get? b = some o → s'.heap.get? b = some o) (os : s'.os = s.os) (hb : AllBare s'.gens) (hns : ∃ m, s'.heap.Ns s.heap.objs.size m) :
    Inv (gx X A' s H (genEnv scope (cloFrom X.env.cells scope.names []) s.heap.objs.size code builtinsNs X.env) fp) [] (wipe σ (own.map (·.2))) H s' := by
  have hfree : ∀ y ∈ scope.names, y.2 = .free → ∃ c, X.env.cells.lookup y.1 = some c := fun y hy e => by
    rcases ok.free y hy e with k | k
    · exact I.ok.has _ (.inl k)
    · exact I.ok.has _ (.inr k)
  generalize hcenv : genEnv scope (cloFrom X.env.cells scope.names []) s.heap.objs.size code builtinsNs X.env = ce at hA ⊢
  have hL : ce.locals = s.heap.objs.size := by rw [← hcenv]; rfl
  have hcl : ce.cells = cloFrom X.env.cells scope.names [] := by rw [← hcenv]; rfl
  have hsc : ce.scope = scope := by rw [← hcenv]; rfl
  have cm : ∀ {y c}, (y, c) ∈ cloFrom X.env.cells scope.names [] → X.env.cells.lookup y = some c ∧ c < s.heap.objs.size := fun {y c} hm => by
    rcases cloFrom_mem hm with hm | ⟨h1, rfl⟩
    · cases hm
    · obtain ⟨c, hc⟩ := hfree _ h1 rfl
      rw [hc]
      obtain ⟨w, z⟩ := I.cell _ _ hc
      exact ⟨rfl, z.lt⟩
  have mem : ∀ {y c}, ce.cells.lookup y = some c → X.env.cells.lookup y = some c ∧ c < s.heap.objs.size := fun {y c} e => by
    rw [hcl] at e
    exact cm (PySem.mem_of_lookup e)
  have look : ∀ {y}, scope.names.lookup y = some .free → ∃ c, ce.cells.lookup y = some c ∧ X.env.cells.lookup y = some c := fun {y} hl => by
    have hy : (y, NameKind.free) ∈ scope.names := PySem.mem_of_lookup hl
    obtain ⟨c', e'⟩ := mem_lookup (cloFrom_has (cells := X.env.cells) (acc := []) hy)
    rw [← hcl] at e'
    exact ⟨c', e', (mem e').1⟩
  have noc : ∀ {y}, ce.kindOf y ≠ some .cell := fun {y} z => by
    unfold Env.kindOf at z
    rw [hsc] at z
    exact hcell _ (PySem.mem_of_lookup z) rfl
  obtain ⟨m, hm⟩ := hns
  have okB : (gx X A' s H ce fp).Ok := by
    refine ⟨I.ok.mod, by show ce.scope.kind = _; rw [hsc]; exact ok.kind, by show ce.globals = _; rw [← hcenv]; exact I.ok.glob, by show ce.builtins = _; rw [← hcenv]; rfl, by show s.heap.objs.size ≤ ce.locals; rw [hL]; exact Nat.le_refl _,
      fun y z c e1 e2 => I.ok.inj y z c (mem e1).1 (mem e2).1, fun y hy => ?_, fun y c z e => Bool.noConfusion z, fun _ => hd, hA, .inr ⟨rfl, ?_⟩, fun b hb => ⟨?_, fun y c e z => ?_⟩, I.bs, Nat.le_trans I.ok.bsz I.sz, fun b o e hb => ?_, fun b hb z => ?_, I.stack, I.stkFree⟩
    · rcases hy with hy | hy
      · exact absurd hy noc
      · have hy : ce.scope.names.lookup y = some .free := hy
        rw [hsc] at hy
        obtain ⟨c, h1, _⟩ := look hy
        exact ⟨c, h1⟩
    · show ce.frame = some ce.locals
      rw [← hcenv]
      rfl
    · show b ≠ ce.locals
      rw [hL]; exact Nat.ne_of_lt (hfp b hb).2
    · exact (hfp b hb).1.2.2.2.2.1 y c (mem e).1 z
    · rcases (hfp b hb).1.2.2.2.1 with z | z
      · exact I.ok.noex b o e z
      · exact absurd (Nat.lt_of_lt_of_le (Heap.lt_size e) (Nat.le_trans I.ok.bsz z)) (Nat.lt_irrefl _)
    · rcases List.mem_cons.mp (I.stkSub b z) with z | z
      · exact (hfp b hb).1.2.1 z
      · exact (hfp b hb).1.2.2.1 z
  refine ⟨okB, os, hb, Un.kept kp, ⟨m, ?_, fun i y av e1 e2 e3 => ?_⟩, fun y c e => ?_, ?_, fun y c e => I.freeC y c (mem e).1, fun p hp => ?_, I.hok.kept kp, by rw [wipe_length]; exact I.len⟩
  · show Heap.Ns _ ce.locals _
    rw [hL]
    exact hm
  · obtain ⟨e2, hne⟩ := wipe_some e2
    have hfr : scope.names.lookup y = some .free := by
      have e3 : Vis ce.scope y := e3
      rw [hsc] at e3
      have no : ∀ k', scope.names.lookup y = some k' → ¬ (k' = .local ∨ k' = .cell) := fun k' e hh => by
        rcases ok.own _ (PySem.mem_of_lookup e) hh with e' | e'
        · obtain ⟨p, hp, hpy⟩ := List.mem_map.mp e'
          have e3 := ok.ix p hp
          have : p.1 = y := hpy
          rw [this] at e3
          exact hne (List.mem_map.mpr ⟨p, hp, nodup_ix hN e3 e1⟩)
        · exact e' (List.mem_of_getElem? e1)
      rcases e3 with e3 | e3 | e3
      · exact absurd (.inl rfl) (no _ e3)
      · exact absurd (.inr rfl) (no _ e3)
      · exact e3
    obtain ⟨m, hn, hl⟩ := I.loc
    have hvis : Vis X.env.scope y := (ok.free _ (PySem.mem_of_lookup hfr) rfl).elim (fun k => .inr (.inl k)) (fun k => .inr (.inr k))
    obtain ⟨w, r, q⟩ := hl i y av e1 e2 hvis
    have kf : ce.kindOf y = some .free := by
      unfold Env.kindOf
      rw [hsc]
      exact hfr
    refine ⟨w, r, .inr ⟨.inr kf, ?_⟩⟩
    obtain ⟨c, h1, h2⟩ := look hfr
    rcases q with ⟨k, _⟩ | ⟨_, c', e', z⟩
    · have k : X.env.scope.names.lookup y = some .local := k
      rcases ok.free _ (PySem.mem_of_lookup hfr) rfl with k' | k' <;> rw [show X.env.scope.names.lookup y = _ from k'] at k <;> cases k
    · rw [h2] at e'; cases e'
      exact ⟨c, h1, z.keeps kp⟩
  · obtain ⟨w, z⟩ := I.cell y c (mem e).1
    exact ⟨w, z.keeps kp⟩
  · show H ce.locals = none
    rw [hL]; exact I.hok.fresh (Nat.le_refl _)
  · exact absurd (show p ∈ ([] : List (Addr × Obj)) ++ [] from hp) (by simp)
end
/-! ### a turn of the generator -/
abbrev gE (elt tg iter : Expr) (scope : Scope) (pos : Pos) : Expr := .GeneratorExp elt [⟨tg, iter, [], 0⟩] scope pos
abbrev cL (elt tg iter : Expr) (scope : Scope) (pos : Pos) (it : Addr) (ce : Env) : Code := .compLoop (gE elt tg iter scope pos) 0 (.ref it) .none ce
abbrev cS (elt tg iter : Expr) (scope : Scope) (pos : Pos) (it : Addr) (ce : Env) : Code := .compStart (gE elt tg iter scope pos) 0 (.ref it) .none ce
section
variable {A : Around} {elt tg iter : Expr} {scope : Scope} {pos : Pos} {it : Addr} {ce : Env}
theorem over_cL : A.over (cL elt tg iter scope pos it ce) [] = A.deeper ce := by
  first
    | rfl
    | (obtain ⟨hd, d, fr, gs, u⟩ := A; simp [Around.over, Around.deeper, marksOver, frameCount, unitsOf, envsOf, guardsOf, pushEnvs, pushGuards, Code.envs, Code.env?, Code.isFrame, Code.guards, Code.isGuard, Code.weight, Code.frames, Code.isCreation, Code.isCaller, Code.cUnits])
variable {GX : Cx} {pins : List (Addr × Obj)} {σ : L2.St} {H : Hp} {s : Shared} {fp : List Addr} {tn : Nat → Heap → Prop} {J : It} {g : TG} {te : TE} {i : Nat} {Φ : End → Shared → Prop} {vs : List Nat}
theorem sg_item (hA : A.over (cL elt tg iter scope pos it GX.env) [] = GX.A) (hco : GX.env.scope.isCoroutine = false) (hc : GX.calm = true) (hxe : GX.xe = fun _ _ => False)
    (hg : PG GX tg g) (he : PE GX elt te) (T : Turn GX.prog GX.w GX.K tg J fp it tn) (I : Inv GX pins σ H s) (hf : ∀ b ∈ fp, FpOk GX pins H b) (st : tn i s.heap) (go : J.go i H) {Post : V → Hp → Prop}
    (step : ∀ x H', J.yld i H x H' → g x σ H' fun σ2 H2 => wipe σ2 vs = σ ∧ te σ2 H2 fun y H3 => Post y H3)
    (hΦ : ∀ v y σ1 pl H3 s1, Inv GX (pins ++ pl) σ1 H3 s1 → wipe σ1 vs = σ → tn (i + 1) s1.heap → (∀ b ∈ fp, H3 b = none) → RelV y v → Post y H3 → ∀ k l p, Again GX.prog GX.w A (cL elt tg iter scope pos it GX.env) [] k → Φ (.susp v false l k (cL elt tg iter scope pos it GX.env) p []) s1) :
    Sg (model GX.prog GX.w) A Φ (cL elt tg iter scope pos it GX.env) ((model GX.prog GX.w).den (cL elt tg iter scope pos it GX.env)) [] s := by
  show Sg _ A Φ _ ((compTurn (gE elt tg iter scope pos) 0 (.ref it) .none GX.env).onRaise (leaving GX.env)) [] s
  rw [compTurn_gen, Sem.onRaise_eq_wrap]
  refine sg_bindw (wpAny_standAt ?_)
  refine sg_bindw ?_
  rw [hA]
  refine wpAny_mono (T.item GX rfl rfl rfl hc i pins s σ H (fun _ _ => False) I hf st go) (fun r s1 hr => ?_) fun _ _ z => z.elim
  obtain ⟨u, rfl, hu⟩ := hr
  refine sg_bindw ?_
  rw [hA]
  refine wpAny_mono hu (fun _ s2 h2 => ?_) fun _ _ z => z.elim
  obtain ⟨x, H2, I2, rx, yx, st2, fr2⟩ := h2
  have I2' := I2.pinned (fun b hb => ⟨fr2 b hb, (hf b hb).2⟩) (T.obj _ _ st2)
  refine sg_bindw ?_
  rw [hA]
  refine wpAny_mono (hg.run _ s2 σ H2 x u _ I2' rx (step x H2 yx)) (fun _ s3 h3 => ?_) fun _ _ z => by rw [hxe] at z; exact z.elim
  obtain ⟨σ3, H3, I3, hw3, q3⟩ := h3
  refine sg_bindw ?_
  rw [hA]
  simp only [List.forIn_nil]
  refine wpAny_pure ?_
  have hy : ∀ v, yieldOut GX.env v = yieldValue v := fun v => by
    simp only [yieldOut, hco, Bool.false_eq_true, if_false]
  simp only [if_true, hy]
  rw [Sem.bind_eq_wrap', Sem.bind_eq_wrap', Sem.wrap_wrap, Sem.wrap_wrap]
  refine sg_wrap ?_
  rw [hA]
  refine wpAny_mono (he.run _ s3 σ3 H3 _ I3 q3) (fun v s4 h4 => ?_) fun _ _ z => by rw [hxe] at z; exact z.elim
  obtain ⟨y, H4, I4, ry, q4⟩ := h4
  have keepT : tn (i + 1) s4.heap := T.keep _ _ _ st2 fun b hb o q => (I4.pin (b, o) (List.mem_append_right _ (List.mem_append_right _ (mem_pinsAt hb q)))).1
  have frT : ∀ b ∈ fp, H4 b = none := fun b hb => by
    obtain ⟨o, q, _⟩ := T.obj _ _ st2 b hb
    exact (I4.pin (b, o) (List.mem_append_right _ (List.mem_append_right _ (mem_pinsAt hb q)))).2.1
  refine sg_at (sg_yield rfl fun p => ?_)
  exact hΦ v y σ3 _ H4 s4 I4 hw3 keepT frT ry q4 _ _ p fun Φ' s' h' => sg_again rfl h'
theorem sg_done (hA : A.over (cL elt tg iter scope pos it GX.env) [] = GX.A) (hc : GX.calm = true) (T : Turn GX.prog GX.w GX.K tg J fp it tn) (I : Inv GX pins σ H s) (hf : ∀ b ∈ fp, FpOk GX pins H b) (st : tn i s.heap) (stop : J.stop i H)
    (hΦ : ∀ s1, Inv GX pins σ H s1 → Φ (.ret (.ok .next)) s1) :
    Sg (model GX.prog GX.w) A Φ (cL elt tg iter scope pos it GX.env) ((model GX.prog GX.w).den (cL elt tg iter scope pos it GX.env)) [] s := by
  show Sg _ A Φ _ ((compTurn (gE elt tg iter scope pos) 0 (.ref it) .none GX.env).onRaise (leaving GX.env)) [] s
  rw [compTurn_gen, Sem.onRaise_eq_wrap]
  refine sg_bindw (wpAny_standAt ?_)
  refine sg_bindw ?_
  rw [hA]
  refine wpAny_mono (T.done GX rfl rfl rfl hc i pins s σ H (fun _ _ => False) I hf st stop) (fun r s1 hr => ?_) fun _ _ z => z.elim
  obtain ⟨rfl, I1⟩ := hr
  exact sg_end (.ok .next) (hΦ s1 I1)
theorem sg_start {P : Program} {w : World} {K : PySem.W.Frag} (T : Turn P w K tg J fp it tn) (st : tn i s.heap) (loop : Sg (model P w) A Φ (cL elt tg iter scope pos it ce) ((model P w).den (cL elt tg iter scope pos it ce)) [] s) :
    Sg (model P w) A Φ (cS elt tg iter scope pos it ce) ((model P w).den (cS elt tg iter scope pos it ce)) [] s := by
  show Sg _ A Φ _ ((compStart (gE elt tg iter scope pos) 0 (.ref it) .none ce).onRaise (leaving ce)) [] s
  unfold compStart
  rw [Sem.onRaise_eq_wrap]
  show Sg _ A Φ _ ((ask >>= _).wrap _ _ _ _) [] s
  refine sg_bindw (wpAny_askSetting ?_)
  split
  · exact sg_again rfl loop
  · refine sg_bindw (wpAny_rule ?_)
    show Sg _ A Φ _ ((standAt iter.pos >>= _).wrap _ _ _ _) [] s
    exact sg_bindw (wpAny_standAt (sg_bindw (T.self _ i s _ _ st (sg_again rfl loop))))
end
section
variable {P : Program} {w : World} {A : Around} {E : Value → Shared → Prop} {s : Shared}
/-- the next item of a generator expression, or its end -/
theorem next_gx {a : Addr} {g : Nat} {gs : GenState} {Φ : End → Shared → Prop} {Q : Option Value → Shared → Prop} (hh : A.handled = none) (hl : s.heap.NoLimit) (hroom : A.depth < recursionLimit) (hg : s.heap.IsGen a g) (hgs : s.gens[g]? = some gs)
    (hgo : Wk (model P w) A.in1 Φ gs (s.setGen g .running))
    (hΦ : ∀ e s1, Φ e s1 → (∃ v l k c p fs, e = .susp v false l k c p fs ∧ fs.any Frame.guarded = false ∧ Q (some v) (s1.setGen g e.genState)) ∨
      (e = .ret (.ok .next) ∧ ∀ h', (∀ b o, s1.heap.get? b = some o → h'.get? b = some o) → Q none { s1.setGen g .finished with heap := h' })) : wpAny (model P w) A (pyNext (.ref a)) Q E s := by
  unfold pyNext
  apply wpAny_bind
  apply wpAny_attempt
  refine wpAny_callSpecial?_slot (name := Str.ofString "__next__") hg.typeIs slot_gen_next ?_
  refine wpAny_call_entry slot_gen_next hg.typeIs entry_gen_next ?_ (args_gen_next _)
  show wpAny _ A.in1 (Builtin.Generator.genWake (.ref a) (.send .none)) _ _ s
  unfold Builtin.Generator.genWake
  refine wpAny_bind (wpAny_holding (wpAny_genNumber hg ?_))
  refine wpAny_bind (wpAny_genState hgs ?_)
  have fin : ∀ e s1, Φ e s1 → e.quiet = true := fun e s1 h => by
    rcases hΦ e s1 h with ⟨v, l, k, c, p, fs, rfl, hfs, _⟩ | ⟨rfl, _⟩
    · show (!(false || fs.any Frame.guarded)) = true
      rw [hfs]
      rfl
    · rfl
  cases gs with
  | running => exact hgo.elim
  | finished => exact hgo.elim
  | fresh c0 =>
    apply wpAny_bind
    refine wpAny_roomToWake hl hroom ?_
    show wpAny (model P w) A.in1 (.resume g (.send .none) [] _) _ _ s
    refine wpAny_wake hgs hgo fun e s1 he => ⟨fin e s1 he, ?_⟩
    rcases hΦ e s1 he with ⟨v, l, k, c, p, fs, rfl, _, q⟩ | ⟨rfl, q⟩
    · exact wpAny_pure ⟨v, rfl, wpAny_pure q⟩
    · show wpAny (model P w) A.in1 (newExc (.type "StopIteration") [] >>= _) _ _ _
      apply wpAny_bind
      simp only [newExc, newTuple]
      apply wpAny_bind
      refine wpAny_newObj_type ?_ (by size_fits)
      refine wpAny_bind (m := firstArgMember _ _) (wpAny_of_eq (a := Value.none) ?_ ?_)
      · first
          | rfl
          | (simp only [firstArgMember]; rfl)
      refine wpAny_newObj_type ?_ (by size_fits)
      simp only [raiseNew]
      refine wpAny_bind (wpAny_bind (wpAny_handled ?_))
      rw [show A.in1.handled = none from hh]
      refine wpAny_throw (wpAny_bind ?_)
      refine wpAny_isInstance (T := "StopIteration") (b := true) ⟨_, Heap.get?_push_size _ rfl, rfl⟩ isSubtype_stop ?_
      exact wpAny_pure (q _ fun b o hb => Heap.get?_push_of_some _ (Heap.get?_push_of_some _ hb))
  | suspended k0 l0 c0 p0 fs0 cl =>
    apply wpAny_bind
    refine wpAny_roomToWake hl hroom ?_
    show wpAny (model P w) A.in1 (.resume g (.send .none) [] _) _ _ s
    refine wpAny_wake hgs hgo fun e s1 he => ⟨fin e s1 he, ?_⟩
    rcases hΦ e s1 he with ⟨v, l, k, c, p, fs, rfl, _, q⟩ | ⟨rfl, q⟩
    · exact wpAny_pure ⟨v, rfl, wpAny_pure q⟩
    · show wpAny (model P w) A.in1 (newExc (.type "StopIteration") [] >>= _) _ _ _
      apply wpAny_bind
      simp only [newExc, newTuple]
      apply wpAny_bind
      refine wpAny_newObj_type ?_ (by size_fits)
      refine wpAny_bind (m := firstArgMember _ _) (wpAny_of_eq (a := Value.none) ?_ ?_)
      · first
          | rfl
          | (simp only [firstArgMember]; rfl)
      refine wpAny_newObj_type ?_ (by size_fits)
      simp only [raiseNew]
      refine wpAny_bind (wpAny_bind (wpAny_handled ?_))
      rw [show A.in1.handled = none from hh]
      refine wpAny_throw (wpAny_bind ?_)
      refine wpAny_isInstance (T := "StopIteration") (b := true) ⟨_, Heap.get?_push_size _ rfl, rfl⟩ isSubtype_stop ?_
      exact wpAny_pure (q _ fun b o hb => Heap.get?_push_of_some _ (Heap.get?_push_of_some _ hb))
end
end Tg

namespace Tg
open PySem PySem.Spec PyProof.Rows L2 GenW Gl GxR
section
variable {GX : Cx} {A A1 : Around} {elt tg iter : Expr} {scope : Scope} {pos : Pos} {it : Addr} {pins : List (Addr × Obj)} {σ : L2.St} {H : Hp} {s : Shared} {fp : List Addr} {tn : Nat → Heap → Prop} {J : It} {g : TG} {te : TE} {i : Nat} {vs : List Nat} {E : Value → Shared → Prop}
/-- an address of ours: nothing knows it -/
structure Apart (GX : Cx) (fp : List Addr) (b : Addr) : Prop where
  loc : b ≠ GX.env.locals
  fs : b ∉ GX.fs
  new : GX.s_0.heap.objs.size ≤ b
  cell : ∀ x c, GX.env.cells.lookup x = some c → c ≠ b
  fp : b ∉ fp
/-- the generator asleep, i items taken; the collector's list at S -/
structure Alive (GX : Cx) (A1 : Around) (elt tg iter : Expr) (scope : Scope) (pos : Pos) (it : Addr) (σ : L2.St) (fp : List Addr) (tn : Nat → Heap → Prop) (a S gn i : Nat) (H : Hp) (us : List Value) (s : Shared) : Prop where
  inv : Inv GX [] σ H s
  at_ : tn i s.heap
  its : ∀ b ∈ fp, FpOk GX [] H b
  un : H a = none ∧ H S = none
  gen : s.heap.IsGen a gn
  gs : ∃ gs, s.gens[gn]? = some gs ∧ ∀ Φ s', tn i s'.heap → Sg (model GX.prog GX.w) A1 Φ (cL elt tg iter scope pos it GX.env) ((model GX.prog GX.w).den (cL elt tg iter scope pos it GX.env)) [] s' → Wk (model GX.prog GX.w) A1 Φ gs s'
  lst : ∃ c, s.heap.get? S = some { cls := .type "list", data := .seq us.toArray c }
theorem next_alive {a S gn : Nat} {us : List Value} (hA : A.in1.over (cL elt tg iter scope pos it GX.env) [] = GX.A) (hco : GX.env.scope.isCoroutine = false) (hc : GX.calm = true) (hxe : GX.xe = fun _ _ => False) (hpn : GX.pn = []) (hh : A.handled = none) (hroom : A.depth < recursionLimit)
    (hg : PG GX tg g) (he : PE GX elt te) (T : Turn GX.prog GX.w GX.K tg J fp it tn) (ea : Apart GX fp a) (eS : Apart GX fp S) (haS : a ≠ S) (al : Alive GX A.in1 elt tg iter scope pos it σ fp tn a S gn i H us s)
    (hl : σ.length = σ.length) {B : Prop} {Post : V → Hp → Prop} (turn : (B ∧ J.stop i H) ∨ (J.go i H ∧ ∀ x H', J.yld i H x H' → g x σ H' fun σ2 H2 => wipe σ2 vs = σ ∧ te σ2 H2 fun y H3 => Post y H3)) :
    wpAny (model GX.prog GX.w) A (pyNext (.ref a)) (fun r s' => (r = none ∧ B ∧ Inv GX [] σ H s' ∧ ∃ c, s'.heap.get? S = some { cls := .type "list", data := .seq us.toArray c }) ∨
      (∃ u y H', r = some u ∧ RelV y u ∧ Post y H' ∧ Alive GX A.in1 elt tg iter scope pos it σ fp tn a S gn (i + 1) H' us s')) E s := by
  obtain ⟨gs, hgs, wk⟩ := al.gs
  obtain ⟨cS, hS⟩ := al.lst
  obtain ⟨oa, nm, qn, hoa, ra⟩ := id al.gen
  have hgl : gn < s.gens.size := (Array.getElem?_eq_some_iff.mp hgs).1
  have I0 : Inv GX [] σ H (s.setGen gn .running) := inv_gens (s0 := s) al.inv ⟨s.gens, rfl⟩ (allBare_setGen al.inv.bare rfl)
  -- pins: a and S
  have I1 : Inv GX [(a, oa), (S, { cls := .type "list", data := .seq us.toArray cS })] σ H (s.setGen gn .running) := I0.pins_of fun p hp => by
    rcases List.mem_cons.mp hp with rfl | hp
    · refine ⟨hoa, al.un.1, ea.loc, ea.fs, fun v z => ?_⟩
      have := ra.2.1
      rw [z] at this
      cases this
    · obtain rfl := List.mem_singleton.mp hp
      exact ⟨hS, al.un.2, eS.loc, eS.fs, fun v z => by cases z⟩
  have hf : ∀ b ∈ fp, FpOk GX [(a, oa), (S, { cls := .type "list", data := .seq us.toArray cS })] H b := fun b hb => by
    obtain ⟨f0, f1, f2, f3, f4, _⟩ := al.its b hb
    refine ⟨f0, f1, f2, f3, f4, fun p hp => ?_⟩
    rw [hpn] at hp
    rcases List.mem_cons.mp hp with rfl | hp
    · exact fun z => ea.fp (by rw [show a = b from z]; exact hb)
    · obtain rfl := List.mem_singleton.mp hp
      exact fun z => eS.fp (by rw [show S = b from z]; exact hb)
  refine wpAny_gsz (n := gn + 1) hgl ?_
  refine next_gx (Φ := fun e s1 => (∃ v l k p y σ1 pl H1, e = .susp v false l k (cL elt tg iter scope pos it GX.env) p [] ∧ Inv GX ([(a, oa), (S, { cls := .type "list", data := .seq us.toArray cS })] ++ pl) σ1 H1 s1 ∧ wipe σ1 vs = σ ∧ tn (i + 1) s1.heap ∧ (∀ b ∈ fp, H1 b = none) ∧ RelV y v ∧ Post y H1 ∧
      Again GX.prog GX.w A.in1 (cL elt tg iter scope pos it GX.env) [] k) ∨ (e = .ret (.ok .next) ∧ B ∧ Inv GX [(a, oa), (S, { cls := .type "list", data := .seq us.toArray cS })] σ H s1)) hh al.inv.nolimit hroom al.gen hgs ?_ ?_
  · refine wk _ _ al.at_ ?_
    rcases turn with ⟨stop', stop⟩ | ⟨go, step⟩
    · exact sg_done hA hc T I1 hf al.at_ stop fun s1 I2 => .inr ⟨rfl, stop', I2⟩
    · exact sg_item (vs := vs) hA hco hc hxe hg he T I1 hf al.at_ go step fun v y σ1 pl H3 s1 I2 hw t2 f2 rv q k l p ag => .inl ⟨v, l, k, p, y, σ1, pl, H3, rfl, I2, hw, t2, f2, rv, q, ag⟩
  · rintro e s1 (⟨v, l, k, p, y, σ1, pl, H1, rfl, I2, hw, t2, f2, rv, q, ag⟩ | ⟨rfl, stop, I2⟩)
    · refine .inl ⟨v, l, k, _, p, [], rfl, rfl, fun hsz => ?_⟩
      have egs : (End.susp v false l k (cL elt tg iter scope pos it GX.env) p []).genState = .suspended k l (cL elt tg iter scope pos it GX.env) p [] false := rfl
      rw [egs] at hsz ⊢
      rw [setGen_size] at hsz
      have pa := I2.pin (a, oa) (List.mem_append_right _ (List.mem_append_left _ List.mem_cons_self))
      have pS := I2.pin (S, { cls := .type "list", data := .seq us.toArray cS }) (List.mem_append_right _ (List.mem_append_left _ (List.mem_cons_of_mem _ List.mem_cons_self)))
      have hlen : σ.length = σ1.length := by rw [← hw, wipe_length]
      have I3 : Inv GX [] σ H1 s1 := ((I2.unpinned (pins := [(a, oa), (S, { cls := .type "list", data := .seq us.toArray cS })])).unpinned (pins := [])).weak hlen fun j v e => by
        rw [← hw] at e
        exact (wipe_some e).1
      refine .inr ⟨v, y, H1, rfl, rv, q, ⟨inv_gens (s0 := s1) I3 ⟨s1.gens, rfl⟩ (allBare_setGen I3.bare rfl), t2, fun b hb => ⟨f2 b hb, (al.its b hb).2⟩, ⟨pa.2.1, pS.2.1⟩, ⟨oa, nm, qn, pa.1, ra⟩, ⟨_, setGen_at hsz, fun Φ' s' _ h' => ag Φ' s' h'⟩, cS, pS.1⟩⟩
    · refine .inr ⟨rfl, fun h' hk _ => .inl ⟨rfl, stop, ?_, cS, ?_⟩⟩
      · have I3 : Inv GX [] σ H s1 := I2.unpinned (pins := [])
        have I4 : Inv GX [] σ H (s1.setGen gn .finished) := inv_gens (s0 := s1) I3 ⟨s1.gens, rfl⟩ (allBare_setGen I3.bare rfl)
        exact I4.kept (t' := s1.toks) hk
      · exact hk _ _ (I2.pin (S, { cls := .type "list", data := .seq us.toArray cS }) (List.mem_append_right _ (List.mem_cons_of_mem _ List.mem_cons_self))).1
/-- what the reading asks of the generator's turns -/
def Wx (J : It) (g : TG) (te : TE) (vs : List Nat) (σ : L2.St) (W : Nat → Nat → List V → Hp → Prop) (Fin : List V → Hp → Prop) : Prop :=
  ∀ i m acc H, W i m acc H → (J.stop i H ∧ acc.length ≤ sizeLine ∧ Fin acc H) ∨ (J.go i H ∧ acc.length < sizeLine ∧ ∃ Nx : V → Hp → Prop, (∀ y H', Nx y H' → ∃ m', m' < m ∧ W (i + 1) m' (acc ++ [y]) H') ∧
    ∀ x H', J.yld i H x H' → g x σ H' fun σ2 H2 => wipe σ2 vs = σ ∧ te σ2 H2 Nx)
theorem drain {A0 : Around} {a S gn : Nat} {res : Value} {R : Result → Shared → Prop} {W : Nat → Nat → List V → Hp → Prop} {Fin : List V → Hp → Prop} (hA : A0.in1.in1.over (cL elt tg iter scope pos it GX.env) [] = GX.A) (hco : GX.env.scope.isCoroutine = false) (hc : GX.calm = true) (hxe : GX.xe = fun _ _ => False) (hpn : GX.pn = []) (hh : A0.handled = none) (hroom : A0.depth < recursionLimit)
    (hg : PG GX tg g) (he : PE GX elt te) (T : Turn GX.prog GX.w GX.K tg J fp it tn) (ea : Apart GX fp a) (eS : Apart GX fp S) (haS : a ≠ S) (wx : Wx J g te vs σ W Fin)
    (hR : ∀ s' H' acc us c, Inv GX [] σ H' s' → Vals acc us → acc.length ≤ sizeLine → Fin acc H' → s'.heap.get? S = some { cls := .type "list", data := .seq us.toArray c } → R (.ok (.ret res)) s') :
    ∀ m i H acc us s, Alive GX A0.in1.in1 elt tg iter scope pos it σ fp tn a S gn i H us s → Vals acc us → W i m acc H → codeAny (model GX.prog GX.w) A0 (.builtin "list.extend.loop" ⟨[.ref S, .ref a, res], []⟩) R s := by
  intro m
  induction m using Nat.strongRecOn with
  | ind m ih =>
  intro i H acc us s al rv w0
  refine codeAny_builtin F.entry_extend_loop ?_
  rw [Around.under_plainId F.plain_extend_loop _]
  show wpAny _ A0.in1 (pyNext (.ref a) >>= _) _ _ s
  rcases wx i m acc H w0 with ⟨stop, hz, fin⟩ | ⟨go, hz, Nx, hNx, step⟩
  · refine wpAny_bind (wpAny_mono (next_alive (E := fun _ _ => False) (A := A0.in1) (vs := vs) (B := True) (Post := fun _ _ => False) hA hco hc hxe hpn hh hroom hg he T ea eS haS al rfl (.inl ⟨trivial, stop⟩)) (fun r s1 h1 => ?_) fun _ _ z => z.elim)
    rcases h1 with ⟨rfl, _, I1, c, e1⟩ | ⟨_, _, _, _, _, z, _⟩
    · exact wpAny_pure (hR s1 H acc us c I1 rv hz fin e1)
    · exact z.elim
  · refine wpAny_bind (wpAny_mono (next_alive (E := fun _ _ => False) (A := A0.in1) (vs := vs) (B := False) (Post := Nx) hA hco hc hxe hpn hh hroom hg he T ea eS haS al rfl (.inr ⟨go, step⟩)) (fun r s1 h1 => ?_) fun _ _ z => z.elim)
    rcases h1 with ⟨rfl, stop, I1, c, e1⟩ | ⟨u, y, H1, rfl, ry, nx, al1⟩
    · exact stop.elim
    · obtain ⟨c, e1⟩ := al1.lst
      have lenV := rv.length
      show wpAny _ _ (updateSeq S (·.push u) >>= _) _ _ _
      have b1 : us.toArray.size ≤ sizeLine := by rw [List.size_toArray]; omega
      have b2 : (us.toArray.push u).size ≤ sizeLine + 1 := by rw [Array.size_push, List.size_toArray]; omega
      refine wpAny_bind ?_
      refine wpAny_updateSeq e1 rfl (wpAny_pure ⟨plainId_quiet F.plain_extend_loop _, ?_⟩) b1 b2
      obtain ⟨m', hm, w1⟩ := hNx y H1 nx
      have oth : ∀ b o, b ≠ S → s1.heap.get? b = some o → (s1.heap.update S (Obj.mapSeq (·.push u))).get? b = some o := fun b o h q => (Heap.get?_update_other _ _ (Ne.symm h)).trans q
      refine ih m' hm (i + 1) H1 (acc ++ [y]) (us ++ [u]) _ ⟨?_, ?_, al1.its, al1.un, ?_, al1.gs, ?_⟩ (rv.append (.cons ry .nil)) w1
      · exact al1.inv.turned (it := S) (t' := s1.toks) oth al1.un.2 eS.loc (.inr eS.new) eS.cell fun p hp => by
          rw [hpn] at hp
          exact absurd hp (by simp)
      · refine T.keep _ _ _ al1.at_ fun b hb o q => oth b o (fun z => eS.fp (by rw [← z]; exact hb)) q
      · obtain ⟨o, nm, qn, ho, r⟩ := al1.gen
        exact ⟨o, nm, qn, oth a o haS ho, r⟩
      · have := Heap.get?_update_self (Obj.mapSeq (·.push u)) e1 rfl
        refine ⟨c + 1, ?_⟩
        rw [this]
        simp [Obj.mapSeq]
end
end Tg

namespace Tg
open PySem PySem.Spec PyProof.Rows L2 GenW Gl GxR
section
variable {prog : Program} {w : World} {A : Around} {E : Value → Shared → Prop} {s : Shared} {I : Addr} {Fin : Array Value → Shared → Prop}
/-- the loop that the collector runs, from its list S just laid -/
def LoopOk (prog : Program) (w : World) (A : Around) (I : Addr) (s : Shared) (Fin : Array Value → Shared → Prop) : Prop :=
  ∀ (h1 : Heap) (t1 : Nat) (R : Result → Shared → Prop), (∀ b o, s.heap.get? b = some o → h1.get? b = some o) → (∃ c, h1.get? s.heap.objs.size = some { cls := .type "list", data := .seq #[] c }) →
    (∀ s' acc c, Fin acc s' → s'.heap.get? s.heap.objs.size = some { cls := .type "list", data := .seq acc c } → R (.ok (.ret (.ref s.heap.objs.size))) s') →
    codeAny (model prog w) A (.builtin "list.extend.loop" ⟨[.ref s.heap.objs.size, .ref I, .ref s.heap.objs.size], []⟩) R { s with heap := h1 }
theorem collect_g {Q : List Value → Shared → Prop} {gn : Nat} (hg : s.heap.IsGen I gn) (hl : LoopOk prog w A I s Fin) (hQ : ∀ s' acc, Fin acc s' → Q acc.toList s') : wpAny (model prog w) A (collect (.ref I)) Q E s := by
  obtain ⟨oa, _, _, hoa, _⟩ := id hg
  have hSI : s.heap.objs.size ≠ I := Nat.ne_of_gt (Heap.lt_size hoa)
  have gty : ∀ {h : Heap}, (∀ b o, s.heap.get? b = some o → h.get? b = some o) → h.IsGen I gn := fun {h} q => hg.keeps q
  unfold collect
  refine wpAny_bind (wpAny_runValue (codeAny_builtin F.entry_proto_collect ?_))
  rw [Around.under_plainId F.plain_proto_collect _]
  show wpAny _ A.in1 (newList [] >>= fun l => again (.builtin "list.__iadd__" ⟨[l, .ref I], []⟩)) _ _ s
  refine wpAny_bind (wpAny_newObj_type ?_ (by show 0 ≤ sizeLine; decide))
  refine wpAny_pure ⟨plainId_quiet F.plain_list_iadd _, codeAny_builtin F.entry_list_iadd ?_⟩
  rw [Around.under_plainId F.plain_list_iadd _]
  show wpAny _ A.in1 (Builtin.List.listExtendWith (.ref s.heap.objs.size) (.ref I) (.ref s.heap.objs.size)) _ _ _
  have k1 : ∀ b o, s.heap.get? b = some o → (s.heap.push { cls := .type "list", data := .seq ([] : List Value).toArray }).get? b = some o := fun b o e => Heap.get?_push_of_some _ e
  unfold Builtin.List.listExtendWith
  refine wpAny_bind (wpAny_typeOf (Heap.IsGen.typeIs (s := { s with heap := _ }) (gty k1)) ?_)
  have h1 : Builtin.List.listSameRef (.ref s.heap.objs.size) (.ref I) = false := by simp [Builtin.List.listSameRef, hSI]
  have h2 : (Value.type "generator" == Value.type "list") = false := by decide
  have h3 : (Value.type "generator" == Value.type "tuple") = false := by decide
  simp only [h1, h2, h3, Bool.or_false, Bool.false_eq_true, if_false]
  refine wpAny_bind (wpAny_pyIter_gen (s := { s with heap := _ }) (gty k1) ?_)
  refine wpAny_bind (wpAny_holding ?_)
  unfold Builtin.List.listLengthHint
  refine wpAny_bind (wpAny_specialOf (Heap.IsGen.typeIs (s := { s with heap := _ }) (gty k1)) F.gen_no_len ?_)
  show wpAny _ A.in1 (specialOf (Value.ref I) (Str.ofString "__length_hint__") >>= _) _ _ _
  refine wpAny_bind (wpAny_specialOf (Heap.IsGen.typeIs (s := { s with heap := _ }) (gty k1)) F.gen_no_hint ?_)
  refine wpAny_pure ?_
  show wpAny _ A.in1 (rule "list.extend.makes-room" >>= fun _ => Builtin.List.listTouch (.ref s.heap.objs.size) >>= fun _ =>
    again (.builtin "list.extend.loop" ⟨[.ref s.heap.objs.size, .ref I, .ref s.heap.objs.size], []⟩)) _ _ _
  refine wpAny_bind (wpAny_rule ?_)
  have hS₁ : (s.heap.push { cls := .type "list", data := .seq ([] : List Value).toArray }).get? s.heap.objs.size = some { cls := .type "list", data := .seq ([] : List Value).toArray } := Heap.get?_push_size _ rfl
  refine wpAny_bind ?_
  show wpAny _ A.in1 (updateSeq s.heap.objs.size (·.push .none) >>= fun _ => updateSeq s.heap.objs.size (·.pop)) _ _ _
  refine wpAny_bind (wpAny_updateSeq hS₁ rfl ?_)
  have hS₂ := Heap.get?_update_self (Obj.mapSeq (·.push Value.none)) hS₁ rfl
  refine wpAny_updateSeq (hz := by seq_fits) hS₂ rfl ?_
  have hS₃ := Heap.get?_update_self (Obj.mapSeq (·.pop)) hS₂ rfl
  have oth : ∀ b o, s.heap.get? b = some o →
      (((s.heap.push { cls := .type "list", data := .seq ([] : List Value).toArray }).update s.heap.objs.size (Obj.mapSeq (·.push Value.none))).update s.heap.objs.size (Obj.mapSeq (·.pop))).get? b = some o :=
    fun b o e => have hb := Nat.ne_of_lt (Heap.lt_size e); (Heap.get?_update_other _ _ (Ne.symm hb)).trans ((Heap.get?_update_other _ _ (Ne.symm hb)).trans (k1 b o e))
  refine wpAny_pure ⟨plainId_quiet F.plain_extend_loop _, hl _ s.toks _ oth ⟨_, hS₃⟩ fun s' acc c hm hS' => ?_⟩
  show wpAny _ A (load s.heap.objs.size >>= _) _ _ s'
  refine wpAny_bind (wpAny_load hS' ?_)
  exact wpAny_pure (hQ s' acc hm)
theorem code_tuple_g {Q₁ : Value → Shared → Prop} {gn : Nat} (hg : s.heap.IsGen I gn) (hl : LoopOk prog w A.in1 I s Fin) (hsz : ∀ s' acc, Fin acc s' → acc.size ≤ sizeLine)
    (h : ∀ s' acc, Fin acc s' → Q₁ (.ref s'.heap.objs.size) { s' with heap := s'.heap.push { cls := .type "tuple", data := .seq acc } }) :
    codeAny (model prog w) A (.call (.builtin "tuple.__new__") ⟨[.type "tuple", .ref I], []⟩) (wants Q₁ E) s := by
  refine codeAny_of_tree ?_
  show wpAny _ A.in1 (do checkBuiltinCall "tuple.__new__" ⟨[.type "tuple", .ref I], []⟩; again (.builtin "tuple.__new__" ⟨[.type "tuple", .ref I], []⟩)) _ _ s
  refine wpAny_bind (wpAny_of_eq (F.newCall_tuple_1 _) (wpAny_pure ⟨plainId_quiet F.plain_tuple_new _, codeAny_builtin F.entry_tuple_new ?_⟩))
  rw [Around.under_plainId F.plain_tuple_new _]
  have hsub := sub_tuple_self
  have hinit := init_tuple_lookup
  have hmh := madeHere_tuple
  have hTI := hg.typeIs (s := s)
  wp_walk using wpAny_typeOf hTI, collect_g (Fin := Fin) hg hl
  intro s' acc hacc
  show wpAny _ _ (Builtin.Tuple.tupleExact acc.toList.toArray >>= fun v => ret v) _ _ _
  unfold Builtin.Tuple.tupleExact
  refine wpAny_bind (wpAny_newObj_type ?_ (by show acc.toList.toArray.size ≤ sizeLine; simp only [Array.toArray_toList]; exact hsz _ _ hacc))
  refine wpAny_pure ?_
  have e : acc.toList.toArray = acc := by simp
  rw [e]
  exact h s' acc hacc
theorem call_tuple_g {Q : Value → Shared → Prop} {gn : Nat} (hg : s.heap.IsGen I gn) (hl : LoopOk prog w A.in1.in1 I s Fin) (hsz : ∀ s' acc, Fin acc s' → acc.size ≤ sizeLine)
    (hQ : ∀ s' acc, Fin acc s' → Q (.ref s'.heap.objs.size) { s' with heap := s'.heap.push { cls := .type "tuple", data := .seq acc } }) :
    wpAny (model prog w) A (call (.type "tuple") [.ref I]) Q E s := by
  refine callType_codes (Q₁ := fun obj s₁ => s₁.TypeIs obj "tuple" ∧ Q obj s₁) F.called_tuple (F.typeCall_tuple_1 _) F.entry_object_init
    (code_tuple_g hg hl hsz fun s' acc hacc => ⟨⟨_, Heap.get?_push_size _ rfl, rfl⟩, hQ s' acc hacc⟩) fun obj s₁ h₁ => ?_
  exact ⟨h₁.1, F.args_object_init_2 obj _, object_init_meets F.called_tuple.init.lookup F.called_tuple.made (by decide) prog w A.in1 _ s₁ ⟨h₁.1, rfl, h₁.2⟩⟩
end
section
variable {X : Cx} {k : Nat} {c P : Addr} {elt tg iter : Expr} {scope : Scope} {own : List (Str × Nat)} {pos gpos p : Pos} {wi : TI} {g : TG} {te : TE}
/-- tuple(e for target in iter): W by the turn, a measure and the values so far -/
def tTupG (P : Addr) (wi : TI) (g : TG) (te : TE) (vs : List Nat) : TE := fun σ H Q => wi σ H fun J H1 => TabG H1 P ∧ ∀ H2, Tabbed P H1 H2 → ∃ W : Nat → Nat → List V → Hp → Prop, (∃ m, W 0 m [] H2) ∧
  Wx J g te vs (wipe σ vs) W fun acc H' => ∀ q, H' q = none → Q (.ref q) (upd H' q (.tup acc))
theorem pe_tupG (hr : Room (k + 1) X.A) (TB : TabB X.base X.mg c P) (hcode : X.env.code = .ref c) (hN : X.N.Nodup) (hi : PI X tg iter wi) (ok : BlkOk X.N X.env.scope scope own) (hcell : ∀ y ∈ scope.names, y.2 ≠ .cell)
    (h0 : scope.names.lookup (".0" : Str) = some NameKind.local) (hco : scope.isCoroutine = false)
    (hg : ∀ (A' : Around) (s : Shared) (H : Hp) (C : Addr) (code : Value) (cl : List (Str × Addr)) (fp : List Addr), PG (gx X A' s H (genEnv scope cl C code builtinsNs X.env) fp) tg g)
    (he : ∀ (A' : Around) (s : Shared) (H : Hp) (C : Addr) (code : Value) (cl : List (Str × Addr)) (fp : List Addr), Room k A' → PE (gx X A' s H (genEnv scope cl C code builtinsNs X.env) fp) elt te)
    (hgl : Gl X "tuple") (hml : X.mg "tuple" = none)
    (hs : ∀ x, genFold iter X.env x = pure x := by intro _; rfl)
    (hst : starEach [.GeneratorExp elt [⟨tg, iter, [], 0⟩] scope gpos] X.env = (false, eval (.GeneratorExp elt [⟨tg, iter, [], 0⟩] scope gpos) X.env) :: starEach [] X.env := by rfl) :
    PE X (.Call (.Name "tuple" p) [.GeneratorExp elt [⟨tg, iter, [], 0⟩] scope gpos] [] pos) (tTupG P wi g te (own.map (·.2))) := by
  refine ⟨fun pins s σ H Q I h => ?_⟩
  refine wpAny_Call_Name_kw (ld_blt I hgl hml (by decide +kernel : bootBuiltins "tuple" = some (.type "tuple")) ?_)
  refine PyProof.Rows.callWith_type1 ?_ hst rfl
  rw [hst]
  show wpAny _ _ (spliced ((false, eval (.GeneratorExp elt [⟨tg, iter, [], 0⟩] scope gpos) X.env) :: backTo pos (starEach [] X.env))) _ _ s
  have hfree : ∀ y ∈ scope.names, y.2 = .free → ∃ c, X.env.cells.lookup y.1 = some c := fun y hy e => by
    rcases ok.free y hy e with k | k
    · exact I.ok.has _ (.inl k)
    · exact I.ok.has _ (.inr k)
  -- the generator is made
  have mk : wpAny (model X.prog X.w) X.A (eval (.GeneratorExp elt [⟨tg, iter, [], 0⟩] scope gpos) X.env) (fun v s6 => ∃ (it : Addr) (fp : List Addr) (tn : Nat → Heap → Prop) (J : It) (H2 : Hp) (s4 : Shared) (code : Value) (a gn : Nat), v = .ref a ∧
      Inv X pins σ H2 s4 ∧ Turn X.prog X.w X.K tg J fp it tn ∧ tn 0 s6.heap ∧ (∀ b ∈ fp, FpOk X pins H2 b ∧ b < s4.heap.objs.size) ∧ (∃ W : Nat → Nat → List V → Hp → Prop, (∃ m, W 0 m [] H2) ∧ Wx J g te (own.map (·.2)) (wipe σ (own.map (·.2))) W fun acc H' => ∀ q, H' q = none → Q (.ref q) (upd H' q (.tup acc))) ∧
      (∀ b o, s4.heap.get? b = some o → s6.heap.get? b = some o) ∧ s6.os = s4.os ∧ AllBare s6.gens ∧ (∃ m, s6.heap.Ns s4.heap.objs.size m) ∧ s6.heap.IsGen a gn ∧ s4.heap.objs.size < a ∧
      s6.gens[gn]? = some (.fresh (cS elt tg iter scope gpos it (genEnv scope (cloFrom X.env.cells scope.names []) s4.heap.objs.size code builtinsNs X.env)))) X.xe s := by
    refine wpAny_GeneratorExp_make hco (closure_ok hfree) hcell h0 ok.kind (by have := hr.dp; omega) ?_ hs
    refine thn (hi.run pins s σ H _ I h) fun xv s1 hx => thn hx fun itv s2 h2 => ?_
    obtain ⟨it, fp, tn, J, H1, rfl, I1, T, st, f1, ⟨ps, hP, ht⟩, q⟩ := h2
    have hPs : s2.heap.get? P = some { cls := .none, data := .fields ps } := I1.hok P _ hP
    have cd : PySem.W.CodeHd s2.heap c P := TB.code.keeps fun b u e => I1.bk b u e
    have nPfp : P ∉ fp := fun z => by
      have := (f1 P z).1
      rw [hP] at this; cases this
    have cont : ∀ (code : Value) (h3 : Heap) (tk : Nat) (more : Array Value), Heap.ExtBut P s2.heap h3 → s2.heap.objs.size ≤ h3.objs.size → h3.get? P = some { cls := .none, data := .fields (ps ++ more) } → TriplesOk (ps ++ more).toList →
        wpAny (model X.prog X.w) X.A (builtinsFor X.env.globals X.env.builtins) (fun bi s₄ =>
          ∀ h', h'.Ns s₄.heap.objs.size (fun y => if y = ".0" then some (Value.ref it) else none) → Heap.SameBut s₄.heap.objs.size (s₄.heap.push { cls := .type "frame", data := .dict #[] }) h' →
            ∃ (it1 : Addr) (fp : List Addr) (tn : Nat → Heap → Prop) (J : It) (H2 : Hp) (s4 : Shared) (code' : Value) (a gn : Nat), Value.ref h'.objs.size = .ref a ∧
      Inv X pins σ H2 s4 ∧ Turn X.prog X.w X.K tg J fp it1 tn ∧ tn 0 (h'.push { cls := .type "generator", data := .fields #[.int s₄.gens.size 0, .str "<genexpr>" (s₄.toks + 1), .str (X.env.qual ++ "<genexpr>") (s₄.toks + 1 + 1)] }) ∧ (∀ b ∈ fp, FpOk X pins H2 b ∧ b < s4.heap.objs.size) ∧ (∃ W : Nat → Nat → List V → Hp → Prop, (∃ m, W 0 m [] H2) ∧ Wx J g te (own.map (·.2)) (wipe σ (own.map (·.2))) W fun acc H' => ∀ q, H' q = none → Q (.ref q) (upd H' q (.tup acc))) ∧
      (∀ b o, s4.heap.get? b = some o → (h'.push { cls := .type "generator", data := .fields #[.int s₄.gens.size 0, .str "<genexpr>" (s₄.toks + 1), .str (X.env.qual ++ "<genexpr>") (s₄.toks + 1 + 1)] }).get? b = some o) ∧ s₄.os = s4.os ∧ AllBare (s₄.gens.push (.fresh (cS elt tg iter scope gpos it (genEnv scope (cloFrom X.env.cells scope.names []) s₄.heap.objs.size code bi X.env)))) ∧
      (∃ m, (h'.push { cls := .type "generator", data := .fields #[.int s₄.gens.size 0, .str "<genexpr>" (s₄.toks + 1), .str (X.env.qual ++ "<genexpr>") (s₄.toks + 1 + 1)] }).Ns s4.heap.objs.size m) ∧ (h'.push { cls := .type "generator", data := .fields #[.int s₄.gens.size 0, .str "<genexpr>" (s₄.toks + 1), .str (X.env.qual ++ "<genexpr>") (s₄.toks + 1 + 1)] }).IsGen a gn ∧ s4.heap.objs.size < a ∧
      (s₄.gens.push (.fresh (cS elt tg iter scope gpos it (genEnv scope (cloFrom X.env.cells scope.names []) s₄.heap.objs.size code bi X.env))))[gn]? = some (.fresh (cS elt tg iter scope gpos it1 (genEnv scope (cloFrom X.env.cells scope.names []) s4.heap.objs.size code' builtinsNs X.env)))) X.xe { s2 with heap := h3, toks := tk } := by
      intro code h3 tk more hx hsz hP3 ht3
      obtain ⟨bm, ob, e1, e2, e3, e4, e5, e6, e7, e8⟩ := TB.bm
      have keep3 : ∀ b u, b ≠ P → s2.heap.get? b = some u → h3.get? b = some u := fun b u hb e => hx b u hb e
      refine wpAny_builtinsFor (m := X.mg) (by rw [I1.ok.glob]; exact (I1.mod.glob.keeps I1.bk).extBut hx TB.gP) e1 e2 (keep3 _ _ e4 (I1.bk _ _ e5)) e6 e7 e8 ?_
      intro h' hn' hs'
      have I2 := inv_tab (more := more) (h' := h3) (g' := s2.gens) (d' := s2.drawn) (t' := tk) I1 hP (fun b o hb e => keep3 b o hb e) hP3 I1.bare
      have keep4 : ∀ b o, h3.get? b = some o → h'.get? b = some o := fun b o e => hs'.extBut b o (Nat.ne_of_lt (Heap.lt_size e)) (Heap.get?_push_of_some _ e)
      have hsz' : h'.objs.size = h3.objs.size + 1 := by rw [hs'.1, Heap.size_push]
      have q2 := q (upd H1 P (.tbl (ps ++ more))) ⟨⟨ps ++ more, upd_same, ht3⟩, fun b hb => upd_ne hb⟩
      refine ⟨it, fp, tn, J, _, _, code, h'.objs.size, s2.gens.size, rfl, I2, T, ?_, fun b hb => ?_, q2, fun b o e => Heap.get?_push_of_some _ (keep4 b o e), rfl, AllBare.push I1.bare rfl, ⟨_, hn'.push _⟩, ⟨_, _, _, Heap.get?_push_size _ rfl, rfl, rfl, rfl⟩, ?_, Array.getElem?_push_size ..⟩
      · refine T.keep _ _ _ st fun b hb o e => Heap.get?_push_of_some _ (keep4 b o (keep3 b o (fun z => nPfp (by rw [← z]; exact hb)) e))
      · obtain ⟨f0, fr⟩ := f1 b hb
        obtain ⟨o, e, _⟩ := T.obj _ _ st b hb
        refine ⟨⟨?_, fr⟩, Heap.lt_size (keep3 b o (fun z => nPfp (by rw [← z]; exact hb)) e)⟩
        rw [upd_ne (fun z => nPfp (by rw [← z]; exact hb))]
        exact f0
      · show h3.objs.size < h'.objs.size
        omega
    refine ⟨I1.nolimit, ?_⟩
    cases hf : codeAmong gpos ps.toList with
    | none =>
      refine wpAny_genexprCodeX hcode (cd.code hPs ht) (cd.tab hPs) hf fun c' h' tk hx hge hlt hco' _ htab' _ => ?_
      obtain ⟨o1, vs, f1, tf, fl, tg, inF, tx, tt, op, _, _, _, _, _, _, _, _, _, htr, _⟩ := hco'
      exact cont _ h' tk _ hx (Nat.le_trans hge (Nat.le_of_lt hlt)) htab'.2 htr
    | some cv =>
      refine wpAny_genexprCode_hit hcode (cd.code hPs ht) hf ?_
      have := cont cv s2.heap s2.toks #[] (Heap.ExtBut.refl _ _) (Nat.le_refl _) (by rw [Array.append_empty]; exact hPs) (by rw [Array.append_empty]; exact ht)
      exact this
  refine Calls.spliced_cons (thn mk fun v s6 hv => ?_)
  obtain ⟨it, fp, tn, J, H2, s4, code, a, gn, rfl, I4, T, st6, f4, ⟨W, ⟨m0, w0⟩, wx⟩, k6, os6, b6, ns6, gen6, ha6, gs6⟩ := hv
  refine Calls.spliced_nil ?_
  generalize hce : genEnv scope (cloFrom X.env.cells scope.names []) s4.heap.objs.size code builtinsNs X.env = ce at gs6
  have hceL : ce.locals = s4.heap.objs.size := by rw [← hce]; rfl
  have hAf : (X.A.in1.in1.in1.in1.deeper ce).frames = some (ce :: X.stack) := Around.frames_deeper (env := ce) I4.ok.frames
  have IG : Inv (gx X (X.A.in1.in1.in1.in1.deeper ce) s4 H2 ce fp) [] (wipe σ (own.map (·.2))) H2 s6 := by
    rw [← hce]
    exact gen_start I4 ok hcell hN f4 hr.hd (by rw [hce]; exact hAf) k6 os6 b6 ns6
  have hroom : Room k (X.A.in1.in1.in1.in1.deeper ce) := ⟨hr.hd, by have := hr.dp; show X.A.depth + 1 + 3 * k + 5 < _; omega, by have := hr.un; show X.A.units + 1 + 1 + 1 + 1 + 3 + 16 * k + 200 < _; omega⟩
  have pg := hg (X.A.in1.in1.in1.in1.deeper ce) s4 H2 s4.heap.objs.size code (cloFrom X.env.cells scope.names []) fp
  have pe := he (X.A.in1.in1.in1.in1.deeper ce) s4 H2 s4.heap.objs.size code (cloFrom X.env.cells scope.names []) fp hroom
  rw [hce] at pg pe
  have cell4 : ∀ x c, ce.cells.lookup x = some c → c < s4.heap.objs.size := fun x c e => by
    rw [← hce] at e
    rcases cloFrom_mem (PySem.mem_of_lookup (show (cloFrom X.env.cells scope.names []).lookup x = some c from e)) with hm | ⟨h1, rfl⟩
    · cases hm
    · obtain ⟨c, hc⟩ := hfree _ h1 rfl
      rw [hc]
      obtain ⟨w, z⟩ := I4.cell _ _ hc
      exact z.lt
  have fs4 : ∀ b, s4.heap.objs.size ≤ b → b ∉ frs X.stack := fun b hb z => by
    obtain ⟨_, o, ho, _⟩ := I4.stack.mem z
    exact absurd (Nat.lt_of_lt_of_le (Heap.lt_size ho) hb) (Nat.lt_irrefl _)
  have apart : ∀ b, s4.heap.objs.size < b → Apart (gx X (X.A.in1.in1.in1.in1.deeper ce) s4 H2 ce fp) fp b := fun b hb =>
    ⟨by show b ≠ ce.locals; rw [hceL]; exact Nat.ne_of_gt hb, fs4 b (Nat.le_of_lt hb), Nat.le_of_lt hb, fun x c e => Nat.ne_of_lt (Nat.lt_trans (cell4 x c e) hb), fun z => absurd (Nat.lt_trans hb (f4 b z).2) (Nat.lt_irrefl _)⟩
  obtain ⟨oa, nm, qn, hoa, ra⟩ := id gen6
  have aS : a < s6.heap.objs.size := Heap.lt_size hoa
  have ha2 : H2 a = none := I4.hok.fresh (Nat.le_of_lt ha6)
  have hS2 : H2 s6.heap.objs.size = none := I4.hok.fresh (Nat.le_of_lt (Nat.lt_trans ha6 aS))
  refine call_tuple_g (Fin := fun acc s' => ∃ vs H', Vals vs acc.toList ∧ vs.length ≤ sizeLine ∧ Inv X pins σ H' s' ∧ ∀ q, H' q = none → Q (.ref q) (upd H' q (.tup vs))) gen6 ?_ ?_ ?_
  · intro h1 t1 R kh ⟨cS, hS⟩ hR
    refine drain (iter := iter) (scope := scope) (pos := gpos) (GX := gx X (X.A.in1.in1.in1.in1.deeper ce) s4 H2 ce fp) (A0 := X.A.in1.in1) (W := W) (Fin := fun acc H' => ∀ q, H' q = none → Q (.ref q) (upd H' q (.tup acc))) (vs := own.map (·.2)) over_cL (by show ce.scope.isCoroutine = false; rw [← hce]; exact hco) rfl rfl rfl hr.hd (by have := hr.dp; show X.A.depth < _; omega) pg pe T (apart a ha6) (apart _ (Nat.lt_trans ha6 aS)) (Nat.ne_of_lt aS) wx ?_ m0 0 H2 [] [] _
      ⟨IG.kept (t' := s6.toks) kh, T.keep _ _ _ st6 fun b _ o e => kh b o e, fun b hb => ?_, ⟨ha2, hS2⟩, gen6.keeps kh, ⟨_, gs6, fun Φ s' st' loop => ?_⟩, cS, hS⟩ .nil w0
    · intro s' H' acc us cc I' rv hz fin e
      have I7 : Inv X pins σ H' s' := I4.call' (ch := fp) I'.os I'.base I'.hok I'.bare fun b hb => ⟨(f4 b hb).1.2.2.2.1, (f4 b hb).1.2.1, (f4 b hb).1.2.2.2.2.1, (f4 b hb).1.2.2.2.2.2⟩
      exact hR s' us.toArray cc ⟨acc, H', by simpa using rv, hz, I7, fin⟩ e
    · obtain ⟨⟨f0, f1, f2, f3, f4', f5⟩, hlt⟩ := f4 b hb
      refine ⟨f0, ?_, ?_, .inl hb, fun x c e => ?_, fun p hp => absurd (show p ∈ ([] : List (Addr × Obj)) ++ [] from hp) (by simp)⟩
      · exact (IG.ok.exf b hb).1
      · exact IG.ok.exfs b hb
      · exact (IG.ok.exf b hb).2 x c e
    · exact sg_start T st' loop
  · rintro s' acc ⟨vs, H', rv, hz, _⟩
    have := rv.length
    have e2 : acc.toList.length = acc.size := Array.length_toList
    omega
  · rintro s' acc ⟨vs, H', rv, hz, I7, fin⟩
    refine ⟨.ref s'.heap.objs.size, upd H' s'.heap.objs.size (.tup vs), ?_, rfl, fin _ (I7.hok.fresh (Nat.le_refl _))⟩
    refine I7.laid (t' := s'.toks) (fun b o e => Heap.get?_push_of_some _ e) (Nat.le_refl _) ⟨hz, acc.toList, rv, ?_⟩
    exact ⟨_, Heap.get?_push_size _ rfl, rfl, 0, by simp⟩
end
end Tg

namespace Tg
open PySem PySem.Spec PyProof.Rows L2 Z GxR LamX
/-- all but the tables of code objects is kept -/
structure SameX (H H' : Hp) : Prop where
  keep : ∀ b x, (∀ ps, x ≠ .tbl ps) → H b = some x → H' b = some x
  tab : ∀ P, TabG H P → TabG H' P
section
variable {K : PySem.W.Frag} {H H' H'' : Hp}
theorem SameX.of (s : Same H H') : SameX H H' := ⟨fun b x _ h => s b x h, fun P ⟨ps, h, t⟩ => ⟨ps, s _ _ h, t⟩⟩
theorem SameX.refl : SameX H H := ⟨fun _ _ _ h => h, fun _ h => h⟩
theorem SameX.trans (a : SameX H H') (b : SameX H' H'') : SameX H H'' := ⟨fun c x n h => b.keep c x n (a.keep c x n h), fun P h => b.tab P (a.tab P h)⟩
theorem SameX.th (a : SameX H H') (b : Same H' H'') : SameX H H'' := a.trans (.of b)
theorem SameX.ofTab {P : Addr} (t : Tabbed P H H') (h : TabG H P) : SameX H H' := by
  obtain ⟨t1, t2⟩ := t
  refine ⟨fun b x n e => ?_, fun R q => ?_⟩
  · by_cases hb : b = P
    · obtain ⟨ps, hP, _⟩ := h
      rw [hb, hP] at e
      cases e
      exact absurd rfl (n ps)
    · rw [t2 b hb]; exact e
  · by_cases hb : R = P
    · rw [hb]; exact t1
    · obtain ⟨ps, hR, z⟩ := q
      exact ⟨ps, by rw [t2 R hb]; exact hR, z⟩
theorem SameX.lst {a : Addr} {xs : List V} (s : SameX H H') (h : H a = some (.lst xs)) : H' a = some (.lst xs) := s.keep _ _ (fun _ z => by cases z) h
theorem SameX.tup {a : Addr} {xs : List V} (s : SameX H H') (h : H a = some (.tup xs)) : H' a = some (.tup xs) := s.keep _ _ (fun _ z => by cases z) h
theorem SameX.seqT {a : Addr} {xs : List V} (s : SameX H H') (h : SqT K H a xs) : SqT K H' a xs := by
  rcases h with (h | ⟨o, h⟩) | h
  · exact .inl (.inl (s.tup h))
  · exact .inl (.inr ⟨o, s.keep _ _ (fun _ z => by cases z) h⟩)
  · exact .inr h
theorem SameX.seqL {a : Addr} {xs : List V} (s : SameX H H') (h : SqL K H a xs) : SqL K H' a xs := by
  rcases h with (h | ⟨o, h⟩) | h
  · exact .inl (.inl (s.lst h))
  · exact .inl (.inr ⟨o, s.keep _ _ (fun _ z => by cases z) h⟩)
  · exact .inr h
mutual
theorem SameX.dp (s : SameX H H') : ∀ {d : PyData} {v : V}, Dp K H v d → Dp K H' v d
  | _, _, .non => .non
  | _, _, .bl b => .bl b
  | _, _, .int i => .int i
  | _, _, .str x => .str x
  | _, _, .lst h a => .lst (s.seqL h) (SameX.dpA s a)
  | _, _, .tup h a => .tup (s.seqT h) (SameX.dpA s a)
theorem SameX.dpA (s : SameX H H') : ∀ {ds : List PyData} {vs : List V}, DpAll K H vs ds → DpAll K H' vs ds
  | _, _, .nil => .nil
  | _, _, .cons h a => .cons (SameX.dp s h) (SameX.dpA s a)
end
theorem dpA_app : ∀ {vs ws : List V} {ds es : List PyData}, DpAll K H vs ds → DpAll K H ws es → DpAll K H (vs ++ ws) (ds ++ es)
  | _, _, _, _, .nil, k => k
  | _, _, _, _, .cons h a, k => .cons h (dpA_app a k)
end
section
variable {K : PySem.W.Frag} {H : Hp} {Q : VK} {σ : L2.St} {wi : TI} {J : It} {m : Nat} {G : Hp → Prop} {Y : Nat → Hp → V → Hp → Prop} {g : TG} {te : TE} {P : Addr} {vs : List Nat}
theorem z_tupG (w : Walk J m G Y) (hm : m ≤ 1000) (hi : ∀ R : It → Hp → Prop, R J H → wi σ H R) (hP : TabG H P) (Pv : Nat → List V → Hp → Prop) (h0 : ∀ H', SameX H H' → Pv 0 [] H') (hG : ∀ i acc H', Pv i acc H' → G H')
    (hs : ∀ i x acc H' H2, i < m → acc.length = i → Pv i acc H' → Y i H' x H2 → g x (wipe σ vs) H2 fun σ2 H3 => wipe σ2 vs = wipe σ vs ∧ te σ2 H3 fun y H4 => Pv (i + 1) (acc ++ [y]) H4)
    (hd : ∀ acc H' p H'', acc.length = m → Pv m acc H' → H' p = none → Same H' H'' → H'' p = some (.tup acc) → Q (.ref p) H'') : tTupG P wi g te vs σ H Q := by
  refine hi _ ⟨hP, fun H2 t => ⟨fun i n acc H' => n = m - i ∧ i ≤ m ∧ acc.length = i ∧ Pv i acc H', ⟨m, by simp, Nat.zero_le _, rfl, h0 _ (.ofTab t hP)⟩, ?_⟩⟩
  rintro i n acc H' ⟨rfl, hi', hl, p⟩
  have q := hG i acc H' p
  have h1000 : (1000 : Nat) < sizeLine := by decide
  by_cases hlt : i < m
  · refine .inr ⟨w.goes i H' hlt q, by omega, fun y H4 => Pv (i + 1) (acc ++ [y]) H4, fun y H4 p4 => ⟨m - (i + 1), by omega, rfl, hlt, by rw [List.length_append, hl]; rfl, p4⟩, fun x H2 y => hs i x acc H' H2 hlt hl p (w.yields i H' x H2 hlt q y)⟩
  · have e : i = m := by omega
    subst e
    exact .inl ⟨w.stops H' q, by omega, fun p' hp => hd acc H' p' _ hl p hp (same_upd hp) upd_same⟩
/-- .. whose elements are data -/
theorem z_tupD (ds : List PyData) (w : Walk J m G Y) (hl : ds.length = m) (hm : m ≤ 1000) (hi : ∀ R : It → Hp → Prop, R J H → wi σ H R) (hP : TabG H P) (hG : ∀ H', SameX H H' → G H')
    (hs : ∀ i x d H' H2 (R : VK), ds[i]? = some d → i < m → SameX H H' → Y i H' x H2 → (∀ v H3, SameX H' H3 → Dp K H3 v d → R v H3) → g x (wipe σ vs) H2 fun σ2 H3 => wipe σ2 vs = wipe σ vs ∧ te σ2 H3 R)
    (hd : ∀ acc p H', SameX H H' → acc.length = m → H' p = some (.tup acc) → DpAll K H' acc ds → Q (.ref p) H') : tTupG P wi g te vs σ H Q := by
  refine z_tupG w hm hi hP (fun i acc H' => SameX H H' ∧ DpAll K H' acc (ds.take i)) (fun H' s => ⟨s, .nil⟩) (fun i acc H' h => hG _ h.1) (fun i x acc H' H2 hi' hl' ⟨s, a⟩ y => ?_) fun acc H' p H'' hl' ⟨s, a⟩ hp s2 e => ?_
  · have hw : ds[i]? = some ds[i] := List.getElem?_eq_getElem (by omega)
    refine hs i x ds[i] H' H2 _ hw hi' s y fun v H3 s3 dv => ⟨s.trans s3, ?_⟩
    rw [List.take_add_one, hw]
    exact dpA_app (s3.dpA a) (.cons dv .nil)
  · rw [← hl, List.take_length] at a
    exact hd acc p H'' (s.th s2) hl' e (SameX.dpA (.of s2) a)
end
/-! ### defs with a generator expression; the end of a law with tables -/
section
variable {P : Program} {w : World} {K : PySem.W.Frag} {mg : Str → Option Value} {base : Heap}
theorem _root_.L2.Fun.okC {x qual : Str} {st : Stmt} {f c : Addr} {fd : FuncData} {N ps : List Str} {k : Nat} {sp : Sp} (F : Fun K x qual st f fd) (hc : fd.code = .ref c) (S : FnScope N ps (defScope st)) (len : ∀ vs H Q E, sp vs H Q E → vs.length = ps.length)
    (hbody : ∀ (A : Around) (outer : List Env) (s : Shared) (H : Hp) (vs : List V) (Q : VK) (E : XK), Room k (A.deeper (envOfC qual (defScope st) s.heap.objs.size f (.ref c))) → sp vs H Q E →
      ∃ t, PSs (cxOf (L2.CX P w) P w K mg base N qual (defScope st) f (.ref c) A outer s H E) (defBody st) t ∧ t { nx := fun _ H' => Q .non H', rt := Q } (start N vs) H) : FnOk P w K mg base (L2.CX P w) (k + 1) f fd ps sp := by
  obtain ⟨oc, od, kV, doc, pm, an, cdv, ct, osl, rfl, lk, hcd⟩ := F.ex
  obtain rfl : cdv = .ref c := hc
  exact fn_of lk hcd S len fun A outer s H vs Q E hr hsp => hbody A outer s H vs Q E hr hsp
end
/-- the tables of the module's defs stand empty -/
def TabAll (q : Program) (K : PySem.W.Frag) (mg : Str → Option Value) (h : Heap) : Prop := ∀ (x : Str) (fa c P : Addr) (o : Obj) (fd : FuncData) (e : Value) (dd : Option Addr) (vs : Array Value) (sl : Array (Option Value)), ((recsOf q).any fun e => e.name == x) = true → mg x = some (.ref fa) →
  K.lookup fa = some o → o.data = .func fd → fd.code = .ref c → K.lookup c = some ⟨e, dd, .fields vs, sl⟩ → vs[11]? = some (.ref P) → h.get? P = some { cls := .none, data := .fields #[] } ∧ PySem.W.CodeHd h c P
theorem walk_tabs {l : PySem.W.OpenLaw} {n k : Nat} {q : Program} {loose : List Str} {XP : (Str → Option Value) → Heap → Prop} {YP : World → Heap → Prop} {d : DefRec} {K : Params → PySem.W.Frag} {CX : World → CXT} {x : Str}
    (hn : l.most = some n) (hn2 : n ≤ sizeLine) (hdf : d.params.defaults = []) (hr : Room k callerA) (hY : ∀ (w : World) (h : Heap), YP w h → (K w.params).In h)
    (F : ∀ (w : World) (mg : Str → Option Value) (fa : Addr) (h : Heap), (K w.params).In h → h.Ns mainGlobals mg → mg d.name = some (.ref fa) → TabAll q (K w.params) mg h → LawAtS l w (K w.params) (CX w) k n x mg fa h)
    (hCX : ∀ (w : World) (H : Hp) (s : Shared) (e : Value) (s' : Shared), CX w [] H s (fun _ _ _ => False) e s' → False) :
    PySem.W.WalkO q loose XP YP l.row.toRowW d [] (fun f vs => PySem.call f vs) := by
  refine Att.attach_callB hn hdf fun w s₀ s₁ mg mb fa o pm cd doc a vs ns G Y ho hd hcd hmg hobj hints hlen hbits hg => ?_
  have KX := hY w _ Y
  have own : TabAll q (K w.params) mg s₁.heap := fun y fb c P o1 fd1 e dd vs1 sl k0 kg k1 k2 k3 k4 k5 => by
    obtain ⟨dL, hm, hn1⟩ := List.any_eq_true.mp k0
    have hn2 : dL.name = y := beq_iff_eq.mp hn1
    obtain ⟨a', o', fd', c', P', h1, h2, h3, h4, h5, h6⟩ := G.T.tab dL hm
    rw [hn2, kg] at h1
    cases h1
    have g1 := KX _ _ k1
    rw [g1] at h2
    cases h2
    rw [k2] at h3
    cases h3
    rw [k3] at h4
    cases h4
    have hcd := PySem.W.CodeHd.of h5 h6
    obtain ⟨⟨oc, vc, e1, _, e3, e4⟩, hP⟩ := h6
    have g2 := KX _ _ k4
    rw [g2] at e1
    cases e1
    cases e3
    rw [k5] at e4
    cases e4
    exact ⟨hP, hcd⟩
  obtain ⟨fd, cs, sp, hT, nT, C, hb, hsp, hF⟩ := F w mg fa _ KX G.T.g hmg own
  exact law_callTs KX G.T.g G.T.b G.T.builtins G.T.nolimit hg hT nT C G.T.bmain hobj hints (Nat.le_trans hlen hn2) hr hF hb (fun H hH hS => hsp H a ns hlen hbits hH hS) fun H e s' => hCX w H s₁ e s'
end Tg

/-! t[:h:-1] of a tuple -/
namespace Tg
open PySem PySem.Spec PyProof.Rows L2 Z GxR HT
def cntR (n : Nat) : Option Int → Nat
  | none => n
  | some h => n - (h.toNat + 1)
theorem adjust_rev (hi : Option Int) (n : Nat) (h0 : ∀ h, hi = some h → 0 ≤ h) : Builtin.Slice.slicePlaces (Builtin.Slice.sliceAdjust none hi (-1) (n : Int)).1 (Builtin.Slice.sliceAdjust none hi (-1) (n : Int)).2 (-1) = cntR n hi ∧ (Builtin.Slice.sliceAdjust none hi (-1) (n : Int)).1 = (n : Int) - 1 := by
  refine ⟨?_, rfl⟩
  unfold Builtin.Slice.slicePlaces Builtin.Slice.sliceAdjust cntR
  have h1 : ¬ ((-1 : Int) > 0) := by omega
  have h2 : ((-1 : Int) < 0) := by omega
  have h3 : (- -1 : Int) = 1 := by decide
  simp only [h1, h2, if_true, if_false, h3, Int.ediv_one]
  cases hi with
  | none => dsimp only; split <;> omega
  | some h =>
    have := h0 h rfl
    have h4 : ¬ h < 0 := by omega
    simp only [h4, if_false]
    split <;> omega
theorem fm_congr {α β : Type} {f g : α → Option β} : ∀ {l : List α}, (∀ a ∈ l, f a = g a) → l.filterMap f = l.filterMap g
  | [], _ => rfl
  | a :: l, h => by
    rw [List.filterMap_cons, List.filterMap_cons, h a List.mem_cons_self, fm_congr fun b hb => h b (List.mem_cons_of_mem _ hb)]
theorem pick_rev (xs : Array Value) (k : Nat) (hk : k ≤ xs.size) : ((List.range k).filterMap fun (m : Nat) => xs[(((xs.size : Int) - 1) + (m : Int) * (-1)).toNat]?).toArray = (xs.toList.reverse.take k).toArray := by
  have e : (List.range k).filterMap (fun (m : Nat) => xs[(((xs.size : Int) - 1) + (m : Int) * (-1)).toNat]?) = (List.range k).filterMap fun m => xs.reverse[m]? := by
    refine fm_congr fun m hm => ?_
    have hm := List.mem_range.mp hm
    have : (((xs.size : Int) - 1) + (m : Int) * (-1)).toNat = xs.size - 1 - m := by omega
    rw [this, Array.getElem?_eq_getElem (by omega), Array.getElem?_eq_getElem (by rw [Array.size_reverse]; omega), Array.getElem_reverse]
  rw [e]
  have := pick_run xs.reverse 0 k
  have e2 : (List.range k).map (0 + ·) = List.range k := by
    rw [show ((0 + ·) : Nat → Nat) = id from funext fun k => Nat.zero_add k, List.map_id]
  rw [e2, List.drop_zero, Array.toList_reverse] at this
  rw [this]
section
variable {prog : Program} {w : World} {A : Around} {E : Value → Shared → Prop} {s : Shared}
theorem sliceApplied_rev {sl : Addr} {vu vs : Value} {hi : Option Int} {n : Nat} {Q : Int × Int × Nat → Shared → Prop} (hs : s.heap.IsSliceOf sl .none vu vs) (pu : IsPart vu hi) (ps : IsPart vs (some (-1))) (h0 : ∀ h, hi = some h → 0 ≤ h)
    (h : Q ((n : Int) - 1, -1, cntR n hi) s) : wpAny (model prog w) A (Builtin.Slice.sliceApplied (.ref sl) (pure (n : Int))) Q E s := by
  obtain ⟨os, hos, hcs, hds⟩ := id hs
  unfold Builtin.Slice.sliceApplied Builtin.Slice.sliceFields
  refine wpAny_bind (wpAny_bind (wpAny_field hos hds (x := .none) rfl (wpAny_bind (wpAny_field hos hds (x := vu) rfl (wpAny_bind (wpAny_field hos hds (x := vs) rfl (wpAny_pure ?_)))))))
  refine wpAny_bind (slicePart_ ps ?_)
  show wpAny _ _ (if ((-1 : Int) == 0) = true then _ else _) _ _ s
  rw [if_neg (by decide)]
  refine wpAny_bind (slicePart_none (wpAny_bind (slicePart_ pu (wpAny_bind (wpAny_pure ?_)))))
  obtain ⟨e1, e2⟩ := adjust_rev hi n h0
  show wpAny _ _ (pure ((Builtin.Slice.sliceAdjust none hi (-1) (n : Int)).1, (-1 : Int), Builtin.Slice.slicePlaces (Builtin.Slice.sliceAdjust none hi (-1) (n : Int)).1 (Builtin.Slice.sliceAdjust none hi (-1) (n : Int)).2 (-1))) _ _ s
  rw [e1, e2]
  exact wpAny_pure h
theorem cntR_le (n : Nat) (hi : Option Int) : cntR n hi ≤ n := by
  cases hi with
  | none => exact Nat.le_refl _
  | some h => exact Nat.sub_le _ _
theorem getItem_tuple_rev {t sl : Addr} {items : Array Value} {vu vs : Value} {hi : Option Int} {Q : Value → Shared → Prop} (ht : IsTup s.heap t items) (hs : s.heap.IsSliceOf sl .none vu vs) (pu : IsPart vu hi) (ps : IsPart vs (some (-1))) (h0 : ∀ h, hi = some h → 0 ≤ h)
    (h : Q (.ref s.heap.objs.size) { s with heap := s.heap.push { cls := .type "tuple", data := .seq (items.toList.reverse.take (cntR items.size hi)).toArray } })
    (hsz : items.size ≤ sizeLine) : wpAny (model prog w) A (getItem (.ref t) (.ref sl)) Q E s := by
  have htake : sizeOk (.seq (items.toList.reverse.take (cntR items.size hi)).toArray) := by
    show (items.toList.reverse.take (cntR items.size hi)).toArray.size ≤ sizeLine
    rw [List.size_toArray, List.length_take, List.length_reverse, Array.length_toList]
    omega
  obtain ⟨os, hos, hcs, hds⟩ := id hs
  have hTs : s.TypeIs (.ref sl) "slice" := ⟨os, hos, hcs⟩
  unfold getItem
  try with_reducible refine wpAny_holding ?_
  first | refine wpAny_bind (wpAny_pure ?_) | skip
  refine wpAny_bind (wpAny_sequenceKey ht.typeIs (by decide) ?_)
  refine wpAny_bind (wpAny_callSpecial?_slot (name := Str.ofString "__getitem__") ht.typeIs PyProof.Rows.slot_tuple_getitem
    (wpAny_call_entry PyProof.Rows.slot_tuple_getitem ht.typeIs entry_tuple_getitem ?_ (args_tuple_getitem _ _)))
  show wpAny _ _ (Builtin.Tuple.tupleItemsOf (.ref t) >>= _) _ _ s
  refine wpAny_bind (tupleItemsOf_ ht ?_)
  refine wpAny_bind (wpAny_typeOf hTs ?_)
  rw [if_pos (by decide)]
  refine wpAny_bind (sliceApplied_rev hs pu ps h0 ?_)
  have hno : ¬ ((((items.size : Int) - 1) == 0 && (-1 : Int) == 1 && cntR items.size hi == items.size) = true) := by
    intro q
    rw [Bool.and_eq_true, Bool.and_eq_true] at q
    exact absurd q.1.2 (by decide)
  show wpAny _ _ (if (((items.size : Int) - 1) == 0 && (-1 : Int) == 1 && cntR items.size hi == items.size) = true then _ else _) _ _ s
  rw [if_neg hno, pick_rev _ _ (cntR_le _ _)]
  first
    | exact wpAny_bind (m := Builtin.Tuple.tupleExact _) (wpAny_newObj_type (wpAny_pure ⟨_, rfl, wpAny_pure h⟩) htake)
    | exact wpAny_bind (m := Builtin.Tuple.tupleExact _) (wpAny_newObj_type (wpAny_bind (wpAny_pure (wpAny_pure ⟨_, rfl, wpAny_pure h⟩))) htake)
    | exact wpAny_bind (wpAny_bind (m := Builtin.Tuple.tupleExact _) (wpAny_newObj_type (wpAny_pure (wpAny_pure ⟨_, rfl, wpAny_pure h⟩)) htake))
    | exact wpAny_bind (wpAny_bind (m := Builtin.Tuple.tupleExact _) (wpAny_newObj_type (wpAny_pure ⟨_, rfl, wpAny_pure h⟩) htake))
end
/-- t[:h:-1] -/
def tRevT (K : PySem.W.Frag) (te : TE) (tu : TO) : TE := fun σ H Q => te σ H fun x H1 => tu σ H1 fun hi H2 => ∃ a xs, x = .ref a ∧ SqT K H2 a xs ∧ (∀ h, hi = some h → 0 ≤ h) ∧ ∀ p, H2 p = none → Q (.ref p) (upd H2 p (.tup (xs.reverse.take (cntR xs.length hi))))
theorem pe_revT {X : Cx} {e : Expr} {te : TE} {hi : Option Expr} {tu : TO} {k : Nat} {p1 p2 p3 pos : Pos} (he : PE X e te) (hu : PO X hi tu) : PE X (.Subscript e (.Slice none hi (some (.UnaryOp .USub (.Constant (.int 1) k p1) p2)) p3) pos) (tRevT X.K te tu) := by
  refine ⟨fun pins s σ H Q I h => ?_⟩
  refine Subscript_ (thn (he.run pins s σ H _ I h) fun v s1 ⟨x, H1, I1, r1, q1⟩ => ?_)
  have hst : PO X (some (.UnaryOp .USub (.Constant (.int 1) k p1) p2)) (tPart (tUn (rU fun i => .int (-i)) (tC (.int 1)))) := po_some (pe_un un_neg pe_int)
  refine wpAny_Slice (thn (po_none.run pins s1 σ H1 (fun o H2 => o = none ∧ H2 = H1) I1 ⟨rfl, rfl⟩) fun vl s2 ⟨l, H2, I2, pl, el, e2⟩ => ?_)
  subst el e2
  refine thn (hu.run pins s2 σ H2 _ I2 q1) fun vu s3 ⟨u, H3, I3, pu, q3⟩ => ?_
  obtain ⟨a, xs, ex, hx, h0, q⟩ := q3
  subst ex
  cases r1
  refine thn (hst.run pins s3 σ H3 (fun o H4 => o = some (-1) ∧ H4 = H3) I3 ⟨1, rfl, -1, rfl, rfl, rfl⟩) fun vs s4 ⟨o, H4, I4, ps, eo, e4⟩ => ?_
  subst eo e4
  cases pl
  have I5 : Inv X pins σ H4 { s4 with heap := s4.heap.push { cls := .type "slice", data := .fields #[.none, vu, vs] } } := I4.kept (t' := s4.toks) fun b ob q => Heap.get?_push_of_some _ q
  obtain ⟨its, r, ht, hz⟩ := I5.tuple hx
  have hlen := r.length
  show wpAny (model X.prog X.w) X.A (subscriptTail e (.Slice none hi (some (.UnaryOp .USub (.Constant (.int 1) k p1) p2)) p3) (.ref a) (.ref s4.heap.objs.size)) (EP X pins σ Q) X.xe { s4 with heap := s4.heap.push { cls := .type "slice", data := .fields #[.none, vu, vs] } }
  refine tail_any (ops := [.ref a, .ref s4.heap.objs.size]) ht.typeIs (PyProof.Rows.slot_tuple_getitem.lookup) ?_ (by with_unfolding_all rfl)
  refine getItem_tuple_rev ht (Heap.IsSliceOf.new _ .none vu vs) pu ps h0 ?_ (by rw [List.size_toArray]; omega)
  have e9 : its.toArray.size = xs.length := by rw [List.size_toArray]; exact hlen.symm
  rw [e9]
  refine ⟨.ref _, _, I5.laid (t' := s4.toks) (o := .tup (xs.reverse.take (cntR xs.length u))) (fun b ob q => Heap.get?_push_of_some _ q) (Nat.le_refl _) ?_, rfl, q _ (I5.hok.fresh (Nat.le_refl _))⟩
  exact ⟨by rw [List.length_take, List.length_reverse]; omega, _, r.reverse.take _, _, Heap.get?_push_size _ rfl, rfl, 0, rfl⟩
section
variable {K : PySem.W.Frag} {H : Hp} {Q : VK} {σ : L2.St} {te : TE} {tu : TO} {a : Addr} {xs : List V}
theorem z_revT {hi : Option Int} (ht : ∀ R : VK, R (.ref a) H → te σ H R) (hx : SqT K H a xs) (hu : ∀ R : Option Int → Hp → Prop, R hi H → tu σ H R) (h0 : ∀ h, hi = some h → 0 ≤ h) (q : ∀ p H', H p = none → Same H H' → H' p = some (.tup (xs.reverse.take (cntR xs.length hi))) → Q (.ref p) H') : tRevT K te tu σ H Q :=
  ht _ (hu _ ⟨a, xs, rfl, hx, h0, fun p hp => q p _ hp (same_upd hp) upd_same⟩)
/-- t[lo:hi], whole or not -/
theorem z_slA {lo hi : Option Int} (h : SqT K H a xs) (q : ∀ p H', Same H H' → SqT K H' p (cutV xs lo hi) → Q (.ref p) H') : rSlA K (.ref a) lo hi H Q := by
  refine ⟨a, xs, rfl, h, fun hw => q a H (fun _ _ z => z) ?_, fun _ p hp => q p _ (same_upd hp) (.inl (.inl upd_same))⟩
  have e : cutV xs lo hi = xs := by
    unfold cutV
    rw [hw.1, hw.2, List.drop_zero]
    exact List.take_of_length_le (by omega)
  rw [e]
  exact h
end
end Tg

/-! raise X(f'.. {N} ..') -/
namespace Tg
open PySem PySem.Spec PyProof.Rows L2 Z
def okF (m1 : Str) (k : Int) (m2 : Str) : Bool := decide (k.natAbs.log2 < 1920) && decide ((Str.empty ++ m1).length ≤ sizeLine) && decide ((Str.empty ++ m1 ++ (toString k : Str)).length ≤ sizeLine) && decide ((Str.empty ++ m1 ++ (toString k : Str) ++ m2).length ≤ sizeLine)
theorem pmkF {X : Cx} {C : Addr} {x m1 m2 : Str} {k : Int} {e : Expr} {j1 j2 : Nat} {p p1 p2 p3 p4 pos : Pos} (E : ExcX X.K X.mg x C) (hg : Gl X x) (hc : PE X e (tC (.int k))) (ok : okF m1 k m2 = true)
    (hs : starEach [Expr.JoinedStr [.Constant (.str m1) j1 p1, .FormattedValue e (-1) none p2, .Constant (.str m2) j2 p3] p4] X.env = (false, eval (Expr.JoinedStr [.Constant (.str m1) j1 p1, .FormattedValue e (-1) none p2, .Constant (.str m2) j2 p3] p4) X.env) :: starEach [] X.env := by rfl) (hdb : (x == ("__debug__" : Str)) = false := by decide) :
    PMk X (.Call (.Name x p) [.JoinedStr [.Constant (.str m1) j1 p1, .FormattedValue e (-1) none p2, .Constant (.str m2) j2 p3] p4] [] pos) (fun _ H Q => Q (.ref C) none H) := by
  intro pins s σ H Q I h
  unfold okF at ok
  rw [Bool.and_eq_true, Bool.and_eq_true, Bool.and_eq_true, decide_eq_true_eq, decide_eq_true_eq, decide_eq_true_eq, decide_eq_true_eq] at ok
  refine SkE.pmk_own1 PySem.F.excBase_ValueError E.q E.g E.k (raises_own E.c.hs E.t) hg (pe_joined (.cons pe_str (.cons (pe_fmt hc) (.cons pe_str .nil)))) hs hdb pins s σ H Q I ?_
  exact ⟨m1, rfl, ok.1.1.2, .inr ⟨k, rfl, ok.1.1.1, _, rfl, ok.1.2, m2, rfl, ok.2, h⟩⟩
end Tg
namespace Tg
open PySem PySem.Spec PyProof.Rows L2 Z
def tCallNS (n m : Nat) (sp : Sp) (gV : List V → List V → List V) (E : L2.St → XK) (t tk : TA) : TE := fun σ H Q => t σ H fun vs H1 => tk σ H1 fun zs H2 => vs.length = n ∧ zs.length = m ∧ sp (gV vs zs) H2 Q (E σ)
section
variable {X : Cx} {CX : CXT} {k n : Nat} {f : Addr} {fd : FuncData} {ps ks : List Str} {sp : Sp} {E : L2.St → XK} {x : Str} {p pos : Pos} {e : Expr} {es : List Expr} {kws : List Keyword} {t tk : TA} {g : List Value → List Value → List Value} {gV : List V → List V → List V}
/-- f(e, .., k = v, ..) within a try -/
theorem pe_callNS (F : FnOk X.prog X.w X.K X.mg X.base CX k f fd ps sp) (hr : Room k X.A) (hg : Gl X x) (hm : X.mg x = some (.ref f)) (hk : PySem.W.keepIn X.K (.ref f) = true) (hb : KBn X.K fd ps n ks g gV) (hx : ∀ σ, PassesAt CX X σ (E σ))
    (ha : PA X (e :: es) t) (hkw : PK X kws tk) (hall : (backToKw pos (keywordEach kws X.env)).all (·.1.isSome) = true := by rfl) (hks : (backToKw pos (keywordEach kws X.env)).filterMap (·.1) = ks := by rfl)
    (hdb : (x == ("__debug__" : Str)) = false := by decide) (he : starEach (e :: es) X.env = (false, eval e X.env) :: starEach es X.env := by rfl)
    (hpl : ((backTo pos (starEach (e :: es) X.env)).any (·.1) || (backToKw pos (keywordEach kws X.env)).any (·.1.isNone)) = false := by rfl) :
    PE X (.Call (.Name x p) (e :: es) kws pos) (tCallNS n ks.length sp gV E t tk) := by
  refine ⟨fun pins s σ H Q I h => ?_⟩
  refine wpAny_Call_Name_kw (ld_glob I hg hm ?_ hdb)
  refine PySem.W.callWith_KW (h₀ := X.base) I.ok.mod.kin hk hall (thn (ha.run pos pins s σ H _ I h) fun us s1 ⟨vs, H1, I1, r, q⟩ => ?_) hpl he
  refine thn (hkw.run pos pins s1 σ H1 _ I1 q) fun ws s2 ⟨zs, H2, I2, rz, l1, l2, q2⟩ => ⟨I2.kIn, ?_⟩
  rw [hks]
  exact Cw.run_fnNS F hr hb (hx σ) I2 r rz l1 l2 q2
end
section
variable {H : Hp} {Q : VK} {σ : L2.St} {n m : Nat} {sp : Sp} {gV : List V → List V → List V} {t tk : TA}
theorem z_callN {E : XK} (h : t σ H fun vs H1 => tk σ H1 fun zs H2 => vs.length = n ∧ zs.length = m ∧ sp (gV vs zs) H2 Q E) : tCallN n m sp gV E t tk σ H Q := h
theorem z_callNS {E : L2.St → XK} (h : t σ H fun vs H1 => tk σ H1 fun zs H2 => vs.length = n ∧ zs.length = m ∧ sp (gV vs zs) H2 Q (E σ)) : tCallNS n m sp gV E t tk σ H Q := h
end
end Tg

/-! l[:h:-1] of a list; sets of ints out of any walk; two fors in a comprehension; dicts -/
namespace Li
open PySem PySem.Spec PyProof.Rows L2 Z Tg
theorem pick_h (items : Array Value) (hi : Option Int) (h0 : ∀ h, hi = some h → 0 ≤ h) : slicePick items none hi (some (-1)) = (items.toList.reverse.take (cntR items.size hi)).toArray := by
  rw [← pick_rev _ _ (cntR_le _ _)]
  unfold slicePick
  congr 1
  have hb : ∃ b : Int, sliceBounds none hi (some (-1)) items.size = ((items.size : Int) - 1, b, -1) ∧ b = max (-1) (match hi with | none => -1 | some h => min h ((items.size : Int) - 1)) := by
    cases hi with
    | none => exact ⟨-1, rfl, rfl⟩
    | some h =>
      have := h0 h rfl
      refine ⟨_, ?_, rfl⟩
      show ((items.size : Int) - 1, max (-1) (min (if h < 0 then h + (items.size : Int) else h) ((items.size : Int) - 1)), (-1 : Int)) = _
      rw [if_neg (by omega)]
  obtain ⟨b, e, eb⟩ := hb
  rw [e]
  show (sliceRange ((items.size : Int) - 1) b (-1)).filterMap (items[·]?) = _
  unfold sliceRange
  have h1 : ¬ ((-1 : Int) > 0) := by decide
  rw [if_neg h1, List.filterMap_map]
  have ec : (if (items.size : Int) - 1 > b then ((items.size : Int) - 1 - b - -1 - 1) / (- -1) else 0).toNat = cntR items.size hi := by
    rw [show (- -1 : Int) = 1 by decide, Int.ediv_one]
    unfold cntR
    cases hi with
    | none =>
      dsimp only at eb ⊢
      split <;> omega
    | some h =>
      have := h0 h rfl
      dsimp only at eb ⊢
      split <;> omega
  rw [ec]
  refine fm_congr fun k _ => ?_
  show items[((items.size : Int) - 1 + -1 * (k : Int)).toNat]? = _
  rw [Int.mul_comm]
def tRevH (K : PySem.W.Frag) (te : TE) (tu : TO) : TE := fun σ H Q => te σ H fun x H1 => tu σ H1 fun hi H2 => ∃ a xs, x = .ref a ∧ SqL K H2 a xs ∧ (∀ h, hi = some h → 0 ≤ h) ∧ ∀ p, H2 p = none → Q (.ref p) (upd H2 p (.lst (xs.reverse.take (cntR xs.length hi))))
theorem pe_revH {X : Cx} {e : Expr} {te : TE} {hi : Option Expr} {tu : TO} {k : Nat} {p1 p2 p3 pos : Pos} (he : PE X e te) (hu : PO X hi tu) : PE X (.Subscript e (.Slice none hi (some (.UnaryOp .USub (.Constant (.int 1) k p1) p2)) p3) pos) (tRevH X.K te tu) := by
  constructor
  intro pins s σ H Q I h
  refine Subscript_ (thn (he.run pins s σ H _ I h) fun v s1 ⟨x, H1, I1, r1, q1⟩ => ?_)
  have minus : PO X (some (.UnaryOp .USub (.Constant (.int 1) k p1) p2)) (tPart (tUn (rU fun i => .int (-i)) (tC (.int 1)))) := po_some (pe_un un_neg pe_int)
  refine wpAny_Slice (thn (po_none.run pins s1 σ H1 (fun o H2 => o = none ∧ H2 = H1) I1 ⟨rfl, rfl⟩) fun vl s2 ⟨l, H2, I2, pl, el, e2⟩ => ?_)
  subst el e2
  refine thn (hu.run pins s2 σ H2 _ I2 q1) fun vu s3 ⟨u, H3, I3, pu, a, xs, ex, hx, h0, q⟩ => ?_
  subst ex
  obtain rfl : v = Value.ref a := r1
  refine thn (minus.run pins s3 σ H3 (fun o H4 => o = some (-1) ∧ H4 = H3) I3 ⟨1, rfl, -1, rfl, rfl, rfl⟩) fun vs s4 ⟨o, H4, I4, ps, eo, e4⟩ => ?_
  subst eo e4
  have I5 : Inv X pins σ H4 { s4 with heap := s4.heap.push { cls := .type "slice", data := .fields #[vl, vu, vs] } } := I4.kept (t' := s4.toks) fun b ob q => Heap.get?_push_of_some _ q
  obtain ⟨its, r, ht, hz⟩ := I5.list hx
  have hlen := r.length
  refine tail_any (ops := [.ref a, .ref s4.heap.objs.size]) ht.isList.typeIs (PySem.slot_list_getitem.lookup) ?_ (by with_unfolding_all rfl)
  refine wpAny_getItem_list_slice ht.isList (Heap.IsSliceOf.new _ vl vu vs) pl pu ps (by decide) ?_ (by rw [List.size_toArray]; omega)
  rw [pick_h _ _ h0]
  have e9 : its.toArray.size = xs.length := by rw [List.size_toArray]; exact hlen.symm
  rw [e9]
  refine ⟨.ref _, _, I5.laid (t' := s4.toks) (o := .lst (xs.reverse.take (cntR xs.length u))) (fun b ob q => Heap.get?_push_of_some _ q) (Nat.le_refl _) ?_, rfl, q _ (I5.hok.fresh (Nat.le_refl _))⟩
  exact ⟨by rw [List.length_take, List.length_reverse]; omega, _, 0, r.reverse.take _, Heap.get?_push_size _ rfl⟩
section
variable {K : PySem.W.Frag} {H : Hp} {Q : VK} {σ : L2.St} {te : TE} {tu : TO} {a : Addr} {xs : List V}
theorem z_revH {hi : Option Int} (ht : ∀ R : VK, R (.ref a) H → te σ H R) (hx : SqL K H a xs) (hu : ∀ R : Option Int → Hp → Prop, R hi H → tu σ H R) (h0 : ∀ h, hi = some h → 0 ≤ h) (q : ∀ p H', H p = none → Same H H' → H' p = some (.lst (xs.reverse.take (cntR xs.length hi))) → Q (.ref p) H') : tRevH K te tu σ H Q :=
  ht _ (hu _ ⟨a, xs, rfl, hx, h0, fun p hp => q p _ hp (same_upd hp) upd_same⟩)
end
/-! ### {e for x in ..}: ints, every turn adds one -/
open Sc
section
variable {H : Hp} {Q : VK} {σ : L2.St} {w : World} {wi : TI} {J : It} {m : Nat} {G : Hp → Prop} {Y : Nat → Hp → V → Hp → Prop} {g : TG} {te : TE} {vs : List Nat}
theorem z_setW {ns : List Int} (W : Walk J m G Y) (hm : m ≤ 1000) (hn : ns.length = m) (hi : ∀ R : It → Hp → Prop, R J H → wi σ H R) (hG : ∀ H', Same H H' → G H')
    (hs : ∀ i x n H' H2 (R : VK), ns[i]? = some n → i < m → Same H H' → Y i H' x H2 → (∀ H3, Same H' H3 → R (.int n) H3) → g x (wipe σ vs) H2 fun σ2 H3 => wipe σ2 vs = wipe σ vs ∧ te σ2 H3 R)
    (hd : ∀ D H' S n, H D = none → Same H H' → H' D = some (SetO w D S n) → (∀ k, S k = true ↔ k ∈ ns) → n ≤ m → Q (.ref D) H') : tSet (rSAdd w) (frI w) wi g tYes te vs σ H Q := by
  refine hi _ fun D hD => ?_
  let Pv : Nat → Hp → Prop := fun i H' => Same H H' ∧ ∃ S n, H' D = some (SetO w D S n) ∧ (∀ k, S k = true ↔ k ∈ ns.take i) ∧ n ≤ i
  refine ⟨fun i j H' => j = m - i ∧ i ≤ m ∧ Pv i H', ⟨m, by simp, Nat.zero_le _, same_upd hD, _, 0, upd_same, fun k => by simp, Nat.le_refl _⟩, ?_⟩
  rintro i j H' ⟨rfl, hi, sm, S, n, hS, hin, hle⟩
  by_cases hlt : i < m
  · refine .inr ⟨W.goes i H' hlt (hG H' sm), Pv (i + 1), fun H2 p2 => ⟨m - (i + 1), by omega, rfl, hlt, p2⟩, fun x H2 y => ?_⟩
    have hw : ns[i]? = some ns[i] := List.getElem?_eq_getElem (by omega)
    have h := hs i x ns[i] H' H2 (fun y H4 => rSAdd w (.ref D) [y] H4 fun _ H5 => Pv (i + 1) H5) hw hlt sm (W.yields i H' x H2 hlt (hG H' sm) y) fun H3 s3 => ?_
    · have e : (fun (σ2 : L2.St) (H3 : Hp) => wipe σ2 vs = wipe σ vs ∧ te σ2 H3 fun y H4 => rSAdd w (.ref D) [y] H4 fun _ H5 => Pv (i + 1) H5) = fun σ2 H3 => wipe σ2 vs = wipe σ vs ∧ tYes σ2 H3 (Keep (rSAdd w) D te (Pv (i + 1)) σ2) := by
        funext σ2 H3
        show _ = (wipe σ2 vs = wipe σ vs ∧ if true = true then te σ2 H3 (fun y H4 => rSAdd w (.ref D) [y] H4 fun _ H5 => Pv (i + 1) H5) else Pv (i + 1) H3)
        rw [if_pos rfl]
      rw [e] at h
      exact h
    · have tk : ns.take (i + 1) = ns.take i ++ [ns[i]] := by rw [List.take_add_one, hw] <;> rfl
      refine ⟨D, ns[i], S, n, rfl, rfl, s3 _ _ hS, Nat.lt_of_le_of_lt (show n + 1 ≤ 1001 by omega) (by decide), ?_, _, _, upd_same, fun k => ?_, ?_⟩
      · intro b o e
        rw [upd_ne (ne_of_none e hD)]
        exact s3 _ _ (sm _ _ e)
      · rw [tk, List.mem_append, List.mem_singleton, Bool.or_eq_true, hin k, decide_eq_true_eq]
      · split <;> omega
  · obtain rfl : i = m := by omega
    exact .inl ⟨W.stops H' (hG H' sm), hd D H' S n hD sm hS (fun k => by rw [hin k, ← hn, List.take_length]) hle⟩
end
/-! ### [e for x in .. for y in ..]: without tests -/
section
variable {H : Hp} {Q : VK} {σ σ2 : L2.St} {wi wi1 : TI} {J : It} {m : Nat} {G : Hp → Prop} {Y : Nat → Hp → V → Hp → Prop} {g g1 : TG} {te : TE} {vs vs1 : List Nat} {D : Addr} {y : V}
def InN (D : Addr) (Nx : Hp → Prop) : VK := fun y H8 => ∃ acc, H8 D = some (.lst acc) ∧ acc.length < sizeLine ∧ Nx (upd H8 D (.lst (acc ++ [y])))
/-- what the inner for asks -/
def Inner (D : Addr) (g1 : TG) (te : TE) (vs1 : List Nat) (σ2 : L2.St) (Nx : Hp → Prop) : It → Hp → Prop := fun J1 H4 => ∃ W1 : Nat → Nat → Hp → Prop, (∃ m, W1 0 m H4) ∧ ∀ j k H, W1 j k H →
  (J1.stop j H ∧ Nx H) ∨ (J1.go j H ∧ ∃ Nx1 : Hp → Prop, (∀ H', Nx1 H' → ∃ k', k' < k ∧ W1 (j + 1) k' H') ∧ ∀ x H', J1.yld j H x H' → g1 x (wipe σ2 vs1) H' fun σ3 H5 => wipe σ3 vs1 = wipe σ2 vs1 ∧ te σ3 H5 (InN D Nx1))
def At (D : Addr) (Pv : List V → Hp → Prop) : Hp → Prop := fun H => ∃ acc, H D = some (.lst acc) ∧ Pv acc H
theorem z_lc2 (W : Walk J m G Y) (hi : ∀ R : It → Hp → Prop, R J H → wi σ H R) (Pv : Nat → Addr → List V → Hp → Prop)
    (h0 : ∀ D H', H D = none → Same H H' → H' D = some (.lst []) → Pv 0 D [] H') (hG : ∀ i D acc H', Pv i D acc H' → G H')
    (hs : ∀ i x D acc H' H2, H D = none → i < m → H' D = some (.lst acc) → Pv i D acc H' → Y i H' x H2 → g x (wipe σ vs) H2 fun σ2 H3 => wipe σ2 vs = wipe σ vs ∧ wi1 σ2 H3 (Inner D g1 te vs1 σ2 (At D (Pv (i + 1) D))))
    (hd : ∀ D acc H', H D = none → H' D = some (.lst acc) → Pv m D acc H' → Q (.ref D) H') : tLc2 wi g tYes wi1 g1 tYes te vs vs1 σ H Q := by
  refine hi _ fun D hD => ?_
  refine ⟨fun i j H' => j = m - i ∧ i ≤ m ∧ At D (Pv i D) H', ⟨m, by simp, Nat.zero_le _, [], upd_same, h0 D _ hD (same_upd hD) upd_same⟩, ?_⟩
  rintro i j H' ⟨rfl, hi, acc, hA, pv⟩
  by_cases hlt : i < m
  · refine .inr ⟨W.goes i H' hlt (hG _ _ _ _ pv), At D (Pv (i + 1) D), fun H2 p2 => ⟨m - (i + 1), by omega, rfl, hlt, p2⟩, fun x H2 y => ?_⟩
    have h := hs i x D acc H' H2 hD hlt hA pv (W.yields i H' x H2 hlt (hG _ _ _ _ pv) y)
    have eI : (fun (σ2 : L2.St) (H3 : Hp) => wipe σ2 vs = wipe σ vs ∧ wi1 σ2 H3 (Inner D g1 te vs1 σ2 (At D (Pv (i + 1) D)))) = fun σ2 H2 => wipe σ2 vs = wipe σ vs ∧ tYes σ2 H2 fun b H3 =>
        if b = true then wi1 σ2 H3 fun J1 H4 => ∃ W1 : Nat → Nat → Hp → Prop, (∃ m, W1 0 m H4) ∧ ∀ j k H, W1 j k H →
          (J1.stop j H ∧ At D (Pv (i + 1) D) H) ∨ (J1.go j H ∧ ∃ Nx1 : Hp → Prop, (∀ H', Nx1 H' → ∃ k', k' < k ∧ W1 (j + 1) k' H') ∧ ∀ x H', J1.yld j H x H' → g1 x (wipe σ2 vs1) H' fun σ3 H5 => wipe σ3 vs1 = wipe σ2 vs1 ∧ tYes σ3 H5 fun b H6 =>
            if b = true then te σ3 H6 fun y H7 => ∃ acc, H7 D = some (.lst acc) ∧ acc.length < sizeLine ∧ Nx1 (upd H7 D (.lst (acc ++ [y]))) else Nx1 H6)
        else At D (Pv (i + 1) D) H3 := by
      funext σ2 H3
      show _ = (wipe σ2 vs = wipe σ vs ∧ if true = true then wi1 σ2 H3 (fun J1 H4 => ∃ W1 : Nat → Nat → Hp → Prop, (∃ m, W1 0 m H4) ∧ ∀ j k H, W1 j k H →
          (J1.stop j H ∧ At D (Pv (i + 1) D) H) ∨ (J1.go j H ∧ ∃ Nx1 : Hp → Prop, (∀ H', Nx1 H' → ∃ k', k' < k ∧ W1 (j + 1) k' H') ∧ ∀ x H', J1.yld j H x H' → g1 x (wipe σ2 vs1) H' fun σ3 H5 => wipe σ3 vs1 = wipe σ2 vs1 ∧ tYes σ3 H5 fun b H6 =>
            if b = true then te σ3 H6 fun y H7 => ∃ acc, H7 D = some (.lst acc) ∧ acc.length < sizeLine ∧ Nx1 (upd H7 D (.lst (acc ++ [y]))) else Nx1 H6)) else At D (Pv (i + 1) D) H3)
      rw [if_pos rfl]
      rfl
    rw [eI] at h
    exact h
  · obtain rfl : i = m := by omega
    exact .inl ⟨W.stops H' (hG _ _ _ _ pv), hd D acc H' hD hA pv⟩
def Lc2E (K : PySem.W.Frag) (g : TG) (wi1 : TI) (g1 : TG) (te : TE) (vs vs1 : List Nat) (σ : L2.St) (Q : VK) : VK := fun x H1 => tLc2 (iList K (tC x)) g tYes wi1 g1 tYes te vs vs1 σ H1 Q
theorem z_lc2E {K : PySem.W.Frag} {tl : TE} (h : tl σ H (Lc2E K g wi1 g1 te vs vs1 σ Q)) : tLc2 (iList K tl) g tYes wi1 g1 tYes te vs vs1 σ H Q := h
def Lc2T (K : PySem.W.Frag) (g : TG) (wi1 : TI) (g1 : TG) (te : TE) (vs vs1 : List Nat) (σ : L2.St) (Q : VK) : VK := fun x H1 => tLc2 (iTup K (tC x)) g tYes wi1 g1 tYes te vs vs1 σ H1 Q
theorem z_lc2TE {K : PySem.W.Frag} {tl : TE} (h : tl σ H (Lc2T K g wi1 g1 te vs vs1 σ Q)) : tLc2 (iTup K tl) g tYes wi1 g1 tYes te vs vs1 σ H Q := h
theorem z_inner {Nx : Hp → Prop} {acc : List V} (W : Walk J m G Y) (Pv : Nat → List V → Hp → Prop) (hA : H D = some (.lst acc)) (h0 : Pv 0 acc H) (hG : ∀ j acc H', Pv j acc H' → G H')
    (hs : ∀ j x acc H' H2, j < m → H' D = some (.lst acc) → Pv j acc H' → Y j H' x H2 → g1 x (wipe σ2 vs1) H2 fun σ3 H3 => wipe σ3 vs1 = wipe σ2 vs1 ∧ te σ3 H3 (InN D (At D (Pv (j + 1)))))
    (hd : ∀ acc H', H' D = some (.lst acc) → Pv m acc H' → Nx H') : Inner D g1 te vs1 σ2 Nx J H := by
  refine ⟨fun j k H' => k = m - j ∧ j ≤ m ∧ At D (Pv j) H', ⟨m, by simp, Nat.zero_le _, acc, hA, h0⟩, ?_⟩
  rintro j k H' ⟨rfl, hj, acc, hA, pv⟩
  by_cases hlt : j < m
  · exact .inr ⟨W.goes j H' hlt (hG _ _ _ pv), At D (Pv (j + 1)), fun H2 p2 => ⟨m - (j + 1), by omega, rfl, hlt, p2⟩, fun x H2 y => hs j x acc H' H2 hlt hA pv (W.yields j H' x H2 hlt (hG _ _ _ pv) y)⟩
  · obtain rfl : j = m := by omega
    exact .inl ⟨W.stops H' (hG _ _ _ pv), hd acc H' hA pv⟩
theorem z_inB {Pv : List V → Hp → Prop} {acc : List V} (h : H D = some (.lst acc)) (hl : acc.length < 1000000) (q : ∀ H', H' D = some (.lst (acc ++ [y])) → (∀ b, b ≠ D → H' b = H b) → Pv (acc ++ [y]) H') : InN D (At D Pv) y H :=
  ⟨acc, h, Nat.lt_of_lt_of_le hl (by decide), acc ++ [y], upd_same, q _ upd_same fun b hb => upd_ne hb⟩
end
/-! ### [e for x in .. if t], over any walk -/
section
variable {H : Hp} {Q : VK} {σ : L2.St} {wi : TI} {J : It} {m : Nat} {G : Hp → Prop} {Y : Nat → Hp → V → Hp → Prop} {g : TG} {tt : TT} {te : TE} {vs : List Nat}
def TB (te : TE) (σ2 : L2.St) (D : Addr) (P : List V → Hp → Prop) : Bool → Hp → Prop := fun b H3 => if b = true then te σ2 H3 (InN D (At D P)) else At D P H3
theorem z_tbT {σ2 : L2.St} {D : Addr} {P : List V → Hp → Prop} (h : te σ2 H (InN D (At D P))) : TB te σ2 D P true H := by
  unfold TB
  rw [if_pos rfl]
  exact h
theorem z_tbF {σ2 : L2.St} {D : Addr} {P : List V → Hp → Prop} (h : At D P H) : TB te σ2 D P false H := by
  unfold TB
  rw [if_neg (by decide)]
  exact h
theorem z_lcWT (W : Walk J m G Y) (hi : ∀ R : It → Hp → Prop, R J H → wi σ H R) (Pv : Nat → Addr → List V → Hp → Prop)
    (h0 : ∀ D H', H D = none → Same H H' → H' D = some (.lst []) → Pv 0 D [] H') (hG : ∀ i D acc H', Pv i D acc H' → G H')
    (hs : ∀ i x D acc H' H2, H D = none → i < m → H' D = some (.lst acc) → Pv i D acc H' → Y i H' x H2 → g x (wipe σ vs) H2 fun σ2 H3 => wipe σ2 vs = wipe σ vs ∧ tt σ2 H3 (TB te σ2 D (Pv (i + 1) D)))
    (hd : ∀ D acc H', H D = none → H' D = some (.lst acc) → Pv m D acc H' → Q (.ref D) H') : tLc wi g tt te vs σ H Q := by
  refine hi _ fun D hD => ?_
  refine ⟨fun i j H' => j = m - i ∧ i ≤ m ∧ At D (Pv i D) H', ⟨m, by simp, Nat.zero_le _, [], upd_same, h0 D _ hD (same_upd hD) upd_same⟩, ?_⟩
  rintro i j H' ⟨rfl, hi, acc, hA, pv⟩
  by_cases hlt : i < m
  · exact .inr ⟨W.goes i H' hlt (hG _ _ _ _ pv), At D (Pv (i + 1) D), fun H2 p2 => ⟨m - (i + 1), by omega, rfl, hlt, p2⟩, fun x H2 y => hs i x D acc H' H2 hD hlt hA pv (W.yields i H' x H2 hlt (hG _ _ _ _ pv) y)⟩
  · obtain rfl : i = m := by omega
    exact .inl ⟨W.stops H' (hG _ _ _ _ pv), hd D acc H' hD hA pv⟩
end
/-! ### while, the turns left known -/
section
variable {H : Hp} {σ : L2.St} {W : Nat → L2.St → Hp → Prop} {m : Nat} {tb : TS} {n : L2.St → Hp → Prop} {r : VK} {b c : L2.St → Hp → Prop}
def WW (W : Nat → L2.St → Hp → Prop) (m : Nat) (tb : TS) (n : L2.St → Hp → Prop) (r : VK) (σ : L2.St) : Bool → Hp → Prop := fun b H1 =>
  if b = true then ∃ N : L2.St → Hp → Prop, (∀ σ' H', N σ' H' → ∃ m', m' < m ∧ W m' σ' H') ∧ tb ⟨N, r, n, N⟩ σ H1 else n σ H1
theorem z_wwT (h : tb ⟨fun σ' H' => ∃ m', m' < m ∧ W m' σ' H', r, n, fun σ' H' => ∃ m', m' < m ∧ W m' σ' H'⟩ σ H) : WW W m tb n r σ true H := by
  unfold WW
  rw [if_pos rfl]
  exact ⟨_, fun _ _ z => z, h⟩
theorem z_wwF (h : n σ H) : WW W m tb n r σ false H := by
  unfold WW
  rw [if_neg (by decide)]
  exact h
theorem z_whileW {tt : TT} (W : Nat → L2.St → Hp → Prop) (m0 : Nat) (h0 : W m0 σ H) (hs : ∀ m σ H, W m σ H → tt σ H (WW W m tb n r σ)) : tWhile tt tb ⟨n, r, b, c⟩ σ H := ⟨W, ⟨m0, h0⟩, hs⟩
end
/-! ### dicts -/
section
variable {H : Hp} {Q : VK} {σ : L2.St} {td ty tv te : TE} {a : Addr} {y v : V} {o : Option V} {n : L2.St → Hp → Prop} {r : VK} {b c : L2.St → Hp → Prop}
def QIn (y : V) (Q : VK) : VK := fun x H2 => ∃ a o, x = .ref a ∧ DGet H2 a y o ∧ Q (.bl o.isSome) H2
def QNotIn (y : V) (Q : VK) : VK := fun x H2 => ∃ a o, x = .ref a ∧ DGet H2 a y o ∧ Q (.bl (!o.isSome)) H2
def QGet (x : V) (Q : VK) : VK := fun y H2 => ∃ a v, x = .ref a ∧ DGet H2 a y (some v) ∧ Q v H2
def QPut (v x : V) (n : Hp → Prop) : VK := fun y H3 => ∃ a H4, x = .ref a ∧ DPut H3 a y v H4 ∧ n H4
theorem z_inE (h : ty σ H fun y H1 => td σ H1 (QIn y Q)) : tDIn ty td σ H Q := h
theorem z_notInE (h : ty σ H fun y H1 => td σ H1 (QNotIn y Q)) : tDNotIn ty td σ H Q := h
theorem z_getE (h : td σ H fun x H1 => ty σ H1 (QGet x Q)) : tDGet td ty σ H Q := h
theorem z_putE (h : tv σ H fun v H1 => td σ H1 fun x H2 => ty σ H2 (QPut v x (n σ))) : sDPut td ty tv ⟨n, r, b, c⟩ σ H := h
theorem z_in (g : DGet H a y o) (q : Q (.bl o.isSome) H) : QIn y Q (.ref a) H := ⟨a, o, rfl, g, q⟩
theorem z_notIn (g : DGet H a y o) (q : Q (.bl (!o.isSome)) H) : QNotIn y Q (.ref a) H := ⟨a, o, rfl, g, q⟩
theorem z_get (g : DGet H a y (some v)) (q : Q v H) : QGet (.ref a) Q y H := ⟨a, v, rfl, g, q⟩
theorem z_put {H4 : Hp} {n : Hp → Prop} (g : DPut H a y v H4) (q : n H4) : QPut v (.ref a) n y H := ⟨a, H4, rfl, g, q⟩
def QGet1 (σ : L2.St) (ty : TE) (Q : VK) : VK := fun x H1 => ∃ a, x = .ref a ∧ IsD H1 a ∧ ty σ H1 fun y H2 => ∃ o, DGet H2 a y o ∧ Q (o.getD .non) H2
theorem z_get1E (h : td σ H (QGet1 σ ty Q)) : tDGet1 td ty σ H Q := h
def QGet2 (a : Addr) (Q : VK) : VK := fun y H2 => ∃ o, DGet H2 a y o ∧ Q (o.getD .non) H2
theorem z_get1 (d : IsD H a) (q : ty σ H (QGet2 a Q)) : QGet1 σ ty Q (.ref a) H := ⟨a, rfl, d, q⟩
theorem z_get2 (g : DGet H a y o) (q : Q (o.getD .non) H) : QGet2 a Q y H := ⟨o, g, q⟩
/-- the keys of a dict are walked; it is shut meanwhile -/
theorem z_lock {t : TE} {u : HO} (h : H a = some u) (m : Mut (some u)) (q : ∀ od, t σ (upd H a (.frz od u)) fun v H' => H' a = some (.frz od u) ∧ Q v (upd H' a u)) : tLockE t σ H Q := ⟨a, u, h, m, q⟩
end
end Li

/-! a walk over a tuple or a list; code that is never reached; long lists -/
namespace Pk
open PySem PySem.Spec PyProof.Rows L2 Z Tg
def iOr2 (w1 w2 : TI) : TI := fun σ H R => w1 σ H R ∨ w2 σ H R
theorem pi_or2 {X : Cx} {tg l : Expr} {w1 w2 : TI} (h1 : PI X tg l w1) (h2 : PI X tg l w2) : PI X tg l (iOr2 w1 w2) := ⟨fun pins s σ H R I q => q.elim (h1.run pins s σ H R I) (h2.run pins s σ H R I)⟩
def sNever : TS := fun _ _ _ => False
theorem ps_never {X : Cx} {st : Stmt} : PS X st sNever := ⟨fun _ _ _ _ _ _ h => h.elim⟩
def eNever : TE := fun _ _ _ => False
theorem pe_never {X : Cx} {e : Expr} : PE X e eNever := ⟨fun _ _ _ _ _ _ h => h.elim⟩
section
variable {K : PySem.W.Frag} {H : Hp} {Q : VK} {p q : Addr} {xs ys : List V}
theorem z_catW (h1 : H p = some (.lst xs)) (h2 : H q = some (.lst ys)) (hl : xs.length + ys.length ≤ 1000000) (k : ∀ a H', H a = none → Same H H' → H' a = some (.lst (xs ++ ys)) → Q (.ref a) H') : rCat (.ref p) (.ref q) H Q :=
  ⟨p, q, xs, ys, rfl, rfl, h1, h2, Nat.le_trans hl (by decide), fun a ha => k a _ ha (same_upd ha) upd_same⟩
theorem inT {i : Int} {ns : List Int} (h : SqT K H p (ns.map V.int)) (k : Q (.bl (decide (i ∈ ns))) H) : rIn K false (.int i) (.ref p) H Q :=
  ⟨p, _, rfl, .inr h, rfl, flat_ints ns, by rw [inV_int]; exact k⟩
end
end Pk

/-! attributes as targets: a, self.f = ..; self.f += .. -/
namespace Um
open PySem PySem.Spec PyProof.Rows L2 Z Tg
def gFld (K : PySem.W.Frag) (ta : TE) (f : Str) : TG := fun v σ H Q => ta σ H fun x H2 => ∃ a C dx fs, x = .ref a ∧ H2 a = some (.ins C dx fs) ∧ Cls K C ∧ NoAttr K C f ∧ fs.length < 1000 ∧ Q σ (upd H2 a (.ins C dx (putF f v fs)))
theorem pg_fld {X : Cx} {o : Expr} {f : Str} {pos : Pos} {ta : TE} (ha : PE X o ta) : PG X (.Attribute o f pos) (gFld X.K ta f) := by
  refine ⟨fun pins s σ H v u Q I r h => ?_⟩
  refine PySem.W.kas_attr (thn (ha.run pins s σ H _ I h) fun ov s2 ⟨x, H2, I2, rx, a, C, dx, fs, ex, ea, c, n, l, q2⟩ => ?_)
  subst ex
  obtain rfl : ov = Value.ref a := rx
  exact setattr_ok I2 ea c n l r fun s3 I3 => ⟨σ, _, I3, q2⟩
section
variable {K : PySem.W.Frag} {σ : L2.St} {H : Hp} {a C dx : Addr} {fs : List (Str × V)} {f : Str} {ta tv : TE} {n : L2.St → Hp → Prop} {r : VK} {b c : L2.St → Hp → Prop} {v : V} {rd : V → V → Hp → VK → Prop}
def QG (K : PySem.W.Frag) (f : Str) (v : V) (R : Hp → Prop) : VK := fun x H2 => ∃ a C dx fs, x = .ref a ∧ H2 a = some (.ins C dx fs) ∧ Cls K C ∧ NoAttr K C f ∧ fs.length < 1000 ∧ R (upd H2 a (.ins C dx (putF f v fs)))
theorem z_gfE {Q : L2.St → Hp → Prop} (h : ta σ H (QG K f v (Q σ))) : gFld K ta f v σ H Q := h
theorem z_gf {R : Hp → Prop} (e : H a = some (.ins C dx fs)) (c : Cls K C) (no : NoAttr K C f) (l : fs.length < 1000) (q : R (upd H a (.ins C dx (putF f v fs)))) : QG K f v R (.ref a) H := ⟨a, C, dx, fs, rfl, e, c, no, l, q⟩
def QA (K : PySem.W.Frag) (f : Str) (tv : TE) (rd : V → V → Hp → VK → Prop) (n : L2.St → Hp → Prop) (σ : L2.St) : VK := fun x H1 => ∃ a C dx fs v, x = .ref a ∧ H1 a = some (.ins C dx fs) ∧ Cls K C ∧ NoAttr K C f ∧ fs.lookup f = some v ∧
  tv σ H1 fun y H2 => rd v y H2 fun z H3 => ∃ dx' fs', H3 a = some (.ins C dx' fs') ∧ fs'.length < 1000 ∧ n σ (upd H3 a (.ins C dx' (putF f z fs')))
theorem z_faE (h : ta σ H (QA K f tv rd n σ)) : sFldAug K ta tv rd f ⟨n, r, b, c⟩ σ H := h
theorem z_fa (e : H a = some (.ins C dx fs)) (c : Cls K C) (no : NoAttr K C f) (lk : fs.lookup f = some v) (q : tv σ H fun y H2 => rd v y H2 fun z H3 => ∃ dx' fs', H3 a = some (.ins C dx' fs') ∧ fs'.length < 1000 ∧ n σ (upd H3 a (.ins C dx' (putF f z fs')))) : QA K f tv rd n σ (.ref a) H :=
  ⟨a, C, dx, fs, v, rfl, e, c, no, lk, q⟩
theorem z_rAdd {Q : VK} {i j : Int} (q : Q (.int (i + j)) H) : L2.rAdd (.int i) (.int j) H Q := ⟨i, j, rfl, rfl, q⟩
theorem z_fe {R : Hp → Prop} {z : V} (e : H a = some (.ins C dx fs)) (l : fs.length < 1000) (q : R (upd H a (.ins C dx (putF f z fs)))) : ∃ dx' fs', H a = some (.ins C dx' fs') ∧ fs'.length < 1000 ∧ R (upd H a (.ins C dx' (putF f z fs'))) := ⟨dx, fs, e, l, q⟩
end
end Um

namespace G
open PySem PySem.Spec PyProof.Rows L2 Z
def topS (i : Nat) : Stmt := PySem.Challenge.pw_fontwinding_k68_whole_each_way_there_and.main.body.getD i (.Pass ⟨0, 0, 0, 0⟩)
abbrev s_two_nybble_lengths : Stmt := topS 4
abbrev s_write_length : Stmt := topS 5
abbrev s_written_digits : Stmt := topS 6
abbrev s_read_length : Stmt := topS 7
abbrev s_zeros_at : Stmt := topS 8
abbrev s_length_size : Stmt := topS 9
abbrev s_unpacked : Stmt := topS 19
abbrev s_unpacked_bits : Stmt := topS 20
abbrev s_Unpacker___init__ : Stmt := inClass (topS 21) 0
abbrev s_Unpacker_is_done : Stmt := inClass (topS 21) 1
abbrev s_Unpacker_result : Stmt := inClass (topS 21) 2
abbrev s_Unpacker_read_run : Stmt := inClass (topS 21) 3
abbrev s_Unpacker__is_at_repeats : Stmt := inClass (topS 21) 4
abbrev s_Unpacker__read_repeats : Stmt := inClass (topS 21) 5
abbrev s_Unpacker__read_length : Stmt := inClass (topS 21) 6
abbrev s_Unpacker__repeats_ahead : Stmt := inClass (topS 21) 7
abbrev s_Unpacker__pixels_ahead : Stmt := inClass (topS 21) 8
abbrev s_Unpacker__add_pixel : Stmt := inClass (topS 21) 9
abbrev s_pack : Stmt := topS 23
abbrev s_best_way : Stmt := topS 24
abbrev s_unpack : Stmt := topS 25
abbrev s_packed_bits : Stmt := topS 26
abbrev s_packed_runs : Stmt := topS 27
abbrev s_without_repetitions : Stmt := topS 28
abbrev s_runs_of : Stmt := topS 29
abbrev s_repeat_count : Stmt := topS 30
abbrev s__law_cell : Stmt := topS 32
abbrev s__law_stream : Stmt := topS 33
abbrev s__law_next : Stmt := topS 34
abbrev s__law_is_integer : Stmt := topS 35
abbrev s__law_rows : Stmt := topS 36
abbrev s_law : Stmt := topS 37
theorem sc_two_nybble_lengths : FnScope ["way"] ["way"] (defScope s_two_nybble_lengths) := ⟨rfl, rfl, rfl, by decide +kernel, rfl, by decide +kernel, by decide +kernel⟩
theorem sc_write_length : FnScope ["n", "way", "rest"] ["n", "way"] (defScope s_write_length) := ⟨rfl, rfl, rfl, by decide +kernel, rfl, by decide +kernel, by decide +kernel⟩
theorem sc_written_digits : FnScope ["number", "digits", "digit"] ["number"] (defScope s_written_digits) := ⟨rfl, rfl, rfl, by decide +kernel, rfl, by decide +kernel, by decide +kernel⟩
theorem sc_read_length : FnScope ["nybbles", "index", "way", "zeros", "end", "number", "digit", "first"] ["nybbles", "index", "way"] (defScope s_read_length) := ⟨rfl, rfl, rfl, by decide +kernel, rfl, by decide +kernel, by decide +kernel⟩
theorem sc_zeros_at : FnScope ["nybbles", "index", "end"] ["nybbles", "index"] (defScope s_zeros_at) := ⟨rfl, rfl, rfl, by decide +kernel, rfl, by decide +kernel, by decide +kernel⟩
theorem sc_length_size : FnScope ["nybbles", "index", "way", "zeros"] ["nybbles", "index", "way"] (defScope s_length_size) := ⟨rfl, rfl, rfl, by decide +kernel, rfl, by decide +kernel, by decide +kernel⟩
theorem sc_unpacked : FnScope ["nybbles", "way", "columns", "count", "first_pixel", "unpacker", "pixel"] ["nybbles", "way", "columns", "count", "first_pixel"] (defScope s_unpacked) := ⟨rfl, rfl, rfl, by decide +kernel, rfl, by decide +kernel, by decide +kernel⟩
theorem sc_unpacked_bits : FnScope ["nybbles", "columns", "count", "total", "size", "pixels", "nybble", "rows", "at"] ["nybbles", "columns", "count"] (defScope s_unpacked_bits) := ⟨rfl, rfl, rfl, by decide +kernel, rfl, by decide +kernel, by decide +kernel⟩
theorem sc_Unpacker___init__ : FnScope ["self", "nybbles", "way", "columns", "count"] ["self", "nybbles", "way", "columns", "count"] (defScope s_Unpacker___init__) := ⟨rfl, rfl, rfl, by decide +kernel, rfl, by decide +kernel, by decide +kernel⟩
theorem sc_Unpacker_is_done : FnScope ["self"] ["self"] (defScope s_Unpacker_is_done) := ⟨rfl, rfl, rfl, by decide +kernel, rfl, by decide +kernel, by decide +kernel⟩
theorem sc_Unpacker_result : FnScope ["self"] ["self"] (defScope s_Unpacker_result) := ⟨rfl, rfl, rfl, by decide +kernel, rfl, by decide +kernel, by decide +kernel⟩
theorem sc_Unpacker_read_run : FnScope ["self", "pixel", "length", "_"] ["self", "pixel"] (defScope s_Unpacker_read_run) := ⟨rfl, rfl, rfl, by decide +kernel, rfl, by decide +kernel, by decide +kernel⟩
theorem sc_Unpacker__is_at_repeats : FnScope ["self"] ["self"] (defScope s_Unpacker__is_at_repeats) := ⟨rfl, rfl, rfl, by decide +kernel, rfl, by decide +kernel, by decide +kernel⟩
theorem sc_Unpacker__read_repeats : FnScope ["self", "first", "repeats"] ["self"] (defScope s_Unpacker__read_repeats) := ⟨rfl, rfl, rfl, by decide +kernel, rfl, by decide +kernel, by decide +kernel⟩
theorem sc_Unpacker__read_length : FnScope ["self", "length"] ["self"] (defScope s_Unpacker__read_length) := ⟨rfl, rfl, rfl, by decide +kernel, rfl, by decide +kernel, by decide +kernel⟩
theorem sc_Unpacker__repeats_ahead : FnScope ["self"] ["self"] (defScope s_Unpacker__repeats_ahead) := ⟨rfl, rfl, rfl, by decide +kernel, rfl, by decide +kernel, by decide +kernel⟩
theorem sc_Unpacker__pixels_ahead : FnScope ["self", "rows"] ["self"] (defScope s_Unpacker__pixels_ahead) := ⟨rfl, rfl, rfl, by decide +kernel, rfl, by decide +kernel, by decide +kernel⟩
theorem sc_Unpacker__add_pixel : FnScope ["self", "pixel"] ["self", "pixel"] (defScope s_Unpacker__add_pixel) := ⟨rfl, rfl, rfl, by decide +kernel, rfl, by decide +kernel, by decide +kernel⟩
theorem sc_pack : FnScope ["rows", "way", "lines", "row"] ["rows", "way"] (defScope s_pack) := ⟨rfl, rfl, rfl, by decide +kernel, rfl, by decide +kernel, by decide +kernel⟩
theorem sc_best_way : FnScope ["rows", "best", "fewest", "way", "count"] ["rows"] (defScope s_best_way) := ⟨rfl, rfl, rfl, by decide +kernel, rfl, by decide +kernel, by decide +kernel⟩
theorem sc_unpack : FnScope ["nybbles", "way", "columns", "count", "first_pixel"] ["nybbles", "way", "columns", "count", "first_pixel"] (defScope s_unpack) := ⟨rfl, rfl, rfl, by decide +kernel, rfl, by decide +kernel, by decide +kernel⟩
theorem sc_packed_bits : FnScope ["lines", "pixels", "line", "pixel", "nybbles", "at", "four"] ["lines"] (defScope s_packed_bits) := ⟨rfl, rfl, rfl, by decide +kernel, rfl, by decide +kernel, by decide +kernel⟩
theorem sc_packed_runs : FnScope ["lines", "way", "kept", "repeats", "nybbles", "row", "length"] ["lines", "way"] (defScope s_packed_runs) := ⟨rfl, rfl, rfl, by decide +kernel, rfl, by decide +kernel, by decide +kernel⟩
theorem sc_without_repetitions : FnScope ["lines", "kept", "repeats", "line"] ["lines"] (defScope s_without_repetitions) := ⟨rfl, rfl, rfl, by decide +kernel, rfl, by decide +kernel, by decide +kernel⟩
theorem sc_runs_of : FnScope ["lines", "runs", "last", "row", "line", "pixel"] ["lines"] (defScope s_runs_of) := ⟨rfl, rfl, rfl, by decide +kernel, rfl, by decide +kernel, by decide +kernel⟩
theorem sc_repeat_count : FnScope ["count", "way"] ["count", "way"] (defScope s_repeat_count) := ⟨rfl, rfl, rfl, by decide +kernel, rfl, by decide +kernel, by decide +kernel⟩
theorem sc__law_cell : FnScope ["script", "k"] ["script", "k"] (defScope s__law_cell) := ⟨rfl, rfl, rfl, by decide +kernel, rfl, by decide +kernel, by decide +kernel⟩
theorem sc__law_stream : FnScope ["cell"] ["cell"] (defScope s__law_stream) := ⟨rfl, rfl, rfl, by decide +kernel, rfl, by decide +kernel, by decide +kernel⟩
theorem sc__law_next : FnScope ["stream", "size", "drawn", "mixed"] ["stream", "size"] (defScope s__law_next) := ⟨rfl, rfl, rfl, by decide +kernel, rfl, by decide +kernel, by decide +kernel⟩
theorem sc__law_is_integer : FnScope ["actual"] ["actual"] (defScope s__law_is_integer) := ⟨rfl, rfl, rfl, by decide +kernel, rfl, by decide +kernel, by decide +kernel⟩
theorem sc__law_rows : FnScope ["stream", "columns", "count", "rows", "chance", "j", "kind", "row", "i", "pixel", "cut"] ["stream"] (defScope s__law_rows) := ⟨rfl, rfl, rfl, by decide +kernel, rfl, by decide +kernel, by decide +kernel⟩
theorem sc_law : FnScope ["script", "rows", "sizes", "way", "nybbles", "handed", "actual", "row", "pixel", "best", "listed"] ["script"] (defScope s_law) := ⟨rfl, rfl, rfl, by decide +kernel, rfl, by decide +kernel, by decide +kernel⟩
structure Txt (K : PySem.W.Frag) (mg : Str → Option Value) (A : Nat → Addr) (D : Nat → FuncData) (base : Heap) : Prop where
  F_two_nybble_lengths : Fun K "two_nybble_lengths" "two_nybble_lengths" s_two_nybble_lengths (A 1) (D 1)
  m_two_nybble_lengths : mg "two_nybble_lengths" = some (.ref (A 1))
  b_two_nybble_lengths : Binds K (D 1) ["way"] []
  F_write_length : Fun K "write_length" "write_length" s_write_length (A 2) (D 2)
  m_write_length : mg "write_length" = some (.ref (A 2))
  b_write_length : Binds K (D 2) ["n", "way"] []
  F_written_digits : Fun K "written_digits" "written_digits" s_written_digits (A 3) (D 3)
  m_written_digits : mg "written_digits" = some (.ref (A 3))
  b_written_digits : Binds K (D 3) ["number"] []
  F_read_length : Fun K "read_length" "read_length" s_read_length (A 4) (D 4)
  m_read_length : mg "read_length" = some (.ref (A 4))
  b_read_length : Binds K (D 4) ["nybbles", "index", "way"] []
  F_zeros_at : Fun K "zeros_at" "zeros_at" s_zeros_at (A 5) (D 5)
  m_zeros_at : mg "zeros_at" = some (.ref (A 5))
  b_zeros_at : Binds K (D 5) ["nybbles", "index"] []
  F_length_size : Fun K "length_size" "length_size" s_length_size (A 6) (D 6)
  m_length_size : mg "length_size" = some (.ref (A 6))
  b_length_size : Binds K (D 6) ["nybbles", "index", "way"] []
  F_unpacked : Fun K "unpacked" "unpacked" s_unpacked (A 7) (D 7)
  m_unpacked : mg "unpacked" = some (.ref (A 7))
  b_unpacked : Binds K (D 7) ["nybbles", "way", "columns", "count", "first_pixel"] []
  F_unpacked_bits : Fun K "unpacked_bits" "unpacked_bits" s_unpacked_bits (A 8) (D 8)
  m_unpacked_bits : mg "unpacked_bits" = some (.ref (A 8))
  b_unpacked_bits : Binds K (D 8) ["nybbles", "columns", "count"] []
  k_unpacked_bits : (D 8).code = .ref (A 33)
  t_unpacked_bits : GxR.TabB base mg (A 33) (A 34)
  F_Unpacker___init__ : Fun K "__init__" "Unpacker.__init__" s_Unpacker___init__ (A 9) (D 9)
  b_Unpacker___init__ : Binds K (D 9) ["self", "nybbles", "way", "columns", "count"] []
  F_Unpacker_is_done : Fun K "is_done" "Unpacker.is_done" s_Unpacker_is_done (A 10) (D 10)
  m_Unpacker_is_done : Meth K (A 0) "is_done" (A 10)
  b_Unpacker_is_done : Binds K (D 10) ["self"] []
  F_Unpacker_result : Fun K "result" "Unpacker.result" s_Unpacker_result (A 11) (D 11)
  m_Unpacker_result : Meth K (A 0) "result" (A 11)
  b_Unpacker_result : Binds K (D 11) ["self"] []
  F_Unpacker_read_run : Fun K "read_run" "Unpacker.read_run" s_Unpacker_read_run (A 12) (D 12)
  m_Unpacker_read_run : Meth K (A 0) "read_run" (A 12)
  b_Unpacker_read_run : Binds K (D 12) ["self", "pixel"] []
  F_Unpacker__is_at_repeats : Fun K "_is_at_repeats" "Unpacker._is_at_repeats" s_Unpacker__is_at_repeats (A 13) (D 13)
  m_Unpacker__is_at_repeats : Meth K (A 0) "_is_at_repeats" (A 13)
  b_Unpacker__is_at_repeats : Binds K (D 13) ["self"] []
  F_Unpacker__read_repeats : Fun K "_read_repeats" "Unpacker._read_repeats" s_Unpacker__read_repeats (A 14) (D 14)
  m_Unpacker__read_repeats : Meth K (A 0) "_read_repeats" (A 14)
  b_Unpacker__read_repeats : Binds K (D 14) ["self"] []
  F_Unpacker__read_length : Fun K "_read_length" "Unpacker._read_length" s_Unpacker__read_length (A 15) (D 15)
  m_Unpacker__read_length : Meth K (A 0) "_read_length" (A 15)
  b_Unpacker__read_length : Binds K (D 15) ["self"] []
  F_Unpacker__repeats_ahead : Fun K "_repeats_ahead" "Unpacker._repeats_ahead" s_Unpacker__repeats_ahead (A 16) (D 16)
  m_Unpacker__repeats_ahead : Meth K (A 0) "_repeats_ahead" (A 16)
  b_Unpacker__repeats_ahead : Binds K (D 16) ["self"] []
  F_Unpacker__pixels_ahead : Fun K "_pixels_ahead" "Unpacker._pixels_ahead" s_Unpacker__pixels_ahead (A 17) (D 17)
  m_Unpacker__pixels_ahead : Meth K (A 0) "_pixels_ahead" (A 17)
  b_Unpacker__pixels_ahead : Binds K (D 17) ["self"] []
  F_Unpacker__add_pixel : Fun K "_add_pixel" "Unpacker._add_pixel" s_Unpacker__add_pixel (A 18) (D 18)
  m_Unpacker__add_pixel : Meth K (A 0) "_add_pixel" (A 18)
  b_Unpacker__add_pixel : Binds K (D 18) ["self", "pixel"] []
  F_pack : Fun K "pack" "pack" s_pack (A 19) (D 19)
  m_pack : mg "pack" = some (.ref (A 19))
  b_pack : Binds K (D 19) ["rows", "way"] []
  F_best_way : Fun K "best_way" "best_way" s_best_way (A 20) (D 20)
  m_best_way : mg "best_way" = some (.ref (A 20))
  b_best_way : Binds K (D 20) ["rows"] []
  F_unpack : Fun K "unpack" "unpack" s_unpack (A 21) (D 21)
  m_unpack : mg "unpack" = some (.ref (A 21))
  b_unpack : Binds K (D 21) ["nybbles", "way", "columns", "count", "first_pixel"] []
  F_packed_bits : Fun K "packed_bits" "packed_bits" s_packed_bits (A 22) (D 22)
  m_packed_bits : mg "packed_bits" = some (.ref (A 22))
  b_packed_bits : Binds K (D 22) ["lines"] []
  F_packed_runs : Fun K "packed_runs" "packed_runs" s_packed_runs (A 23) (D 23)
  m_packed_runs : mg "packed_runs" = some (.ref (A 23))
  b_packed_runs : Binds K (D 23) ["lines", "way"] []
  F_without_repetitions : Fun K "without_repetitions" "without_repetitions" s_without_repetitions (A 24) (D 24)
  m_without_repetitions : mg "without_repetitions" = some (.ref (A 24))
  b_without_repetitions : Binds K (D 24) ["lines"] []
  F_runs_of : Fun K "runs_of" "runs_of" s_runs_of (A 25) (D 25)
  m_runs_of : mg "runs_of" = some (.ref (A 25))
  b_runs_of : Binds K (D 25) ["lines"] []
  F_repeat_count : Fun K "repeat_count" "repeat_count" s_repeat_count (A 26) (D 26)
  m_repeat_count : mg "repeat_count" = some (.ref (A 26))
  b_repeat_count : Binds K (D 26) ["count", "way"] []
  F__law_cell : Fun K "_law_cell" "_law_cell" s__law_cell (A 27) (D 27)
  m__law_cell : mg "_law_cell" = some (.ref (A 27))
  b__law_cell : Binds K (D 27) ["script", "k"] []
  F__law_stream : Fun K "_law_stream" "_law_stream" s__law_stream (A 28) (D 28)
  m__law_stream : mg "_law_stream" = some (.ref (A 28))
  b__law_stream : Binds K (D 28) ["cell"] []
  F__law_next : Fun K "_law_next" "_law_next" s__law_next (A 29) (D 29)
  m__law_next : mg "_law_next" = some (.ref (A 29))
  b__law_next : Binds K (D 29) ["stream", "size"] []
  F__law_is_integer : Fun K "_law_is_integer" "_law_is_integer" s__law_is_integer (A 30) (D 30)
  m__law_is_integer : mg "_law_is_integer" = some (.ref (A 30))
  b__law_is_integer : Binds K (D 30) ["actual"] []
  F__law_rows : Fun K "_law_rows" "_law_rows" s__law_rows (A 31) (D 31)
  m__law_rows : mg "_law_rows" = some (.ref (A 31))
  b__law_rows : Binds K (D 31) ["stream"] []
  F_law : Fun K "law" "law" s_law (A 32) (D 32)
  m_law : mg "law" = some (.ref (A 32))
  b_law : Binds K (D 32) ["script"] []
  q_Unpacker : Cls K (A 0)
  g_Unpacker : mg "Unpacker" = some (.ref (A 0))
  M_Unpacker : Mk K (A 0) (A 9)
  nf_Unpacker__nybbles : NoAttr K (A 0) "_nybbles"
  nf_Unpacker__way : NoAttr K (A 0) "_way"
  nf_Unpacker__columns : NoAttr K (A 0) "_columns"
  nf_Unpacker__count : NoAttr K (A 0) "_count"
  nf_Unpacker__at : NoAttr K (A 0) "_at"
  nf_Unpacker__done : NoAttr K (A 0) "_done"
  nf_Unpacker__line : NoAttr K (A 0) "_line"
  nf_Unpacker__repeats : NoAttr K (A 0) "_repeats"
  z_bool : mg "bool" = none
  z_divmod : mg "divmod" = none
  z_enumerate : mg "enumerate" = none
  z_int : mg "int" = none
  z_isinstance : mg "isinstance" = none
  z_len : mg "len" = none
  z_list : mg "list" = none
  z_min : mg "min" = none
  z_range : mg "range" = none
  z_tuple : mg "tuple" = none
  c_LAST_RUN_WAY : ∃ u, mg "LAST_RUN_WAY" = some u ∧ RelV (.int (13)) u
  c_BASE : ∃ u, mg "BASE" = some u ∧ RelV (.int (16)) u
  c_FIRST_IN_DIGITS : ∃ u, mg "FIRST_IN_DIGITS" = some u ∧ RelV (.int (16)) u
  c_BITS_WAY : ∃ u, mg "BITS_WAY" = some u ∧ RelV (.int (14)) u
  c_NYBBLE_BITS : ∃ u, mg "NYBBLE_BITS" = some u ∧ RelV (.int (4)) u
  c_MANY_REPEATS : ∃ u, mg "MANY_REPEATS" = some u ∧ RelV (.int (14)) u
  c_ONE_REPEAT : ∃ u, mg "ONE_REPEAT" = some u ∧ RelV (.int (15)) u
  c_MOST_ZEROS : ∃ u, mg "MOST_ZEROS" = some u ∧ RelV (.int (2)) u
local macro_rules | `(tactic| walk_at "z1") => `(tactic| first
  | with_reducible refine z_seq ?_
  | with_reducible refine z_asg ?_
  | with_reducible refine z_asgS ?_
  | with_reducible refine z_ifs ?_
  | ((with_reducible refine' z_var ?h ?_); case h => with_unfolding_all exact rfl)
  | with_reducible refine z_c ?_
  | with_reducible refine z_op ?_
  | with_reducible refine z_un ?_
  | with_reducible refine z_I0 ?_
  | ((with_reducible refine z_I ?h ?_); case h => first | (exact Or.inr ⟨by decide, by decide⟩) | (exact Or.inl ⟨by decide, by decide⟩) | (show (0 : Int) < _; first | assumption | omega))
  | with_reducible refine z_U ?_
  | with_reducible refine z_eqI ?_
  | with_reducible refine z_neI ?_
  | with_reducible refine z_test ?_
  | with_reducible refine z_tB ?_
  | with_reducible refine z_bl ?_
  | with_reducible refine z_notT ?_
  | with_reducible refine z_andT ?_
  | with_reducible refine z_orT ?_
  | with_reducible refine z_andV ?_
  | with_reducible refine z_orV ?_
  | with_reducible refine z_notV ?_
  | with_reducible refine z_ifE ?_
  | with_reducible refine z_ifT ?_
  | with_reducible refine z_ifF ?_
  | with_reducible refine z_ifNT ?_
  | with_reducible refine z_ifNF ?_
  | with_reducible refine z_chain ?_
  | with_reducible refine z_nil ?_
  | with_reducible refine z_cons ?_
  | with_reducible refine z_tup ?_
  | with_reducible refine z_lst ?_
  | with_reducible refine z_cb ?_
  | with_reducible refine z_call ?_
  | with_reducible refine z_callS ?_
  | with_reducible refine z_int1 ?_
  | with_reducible refine z_int1b ?_
  | with_reducible refine z_abs ?_
  | with_reducible refine z_gcd ?_
  | with_reducible refine z_ret ?_
  | with_reducible refine z_retN ?_
  | with_reducible refine z_drop ?_
  | with_reducible refine z_next ?_
  | with_reducible refine z_brk ?_
  | with_reducible refine z_cont ?_
  | with_reducible refine z_par ?_
  | with_reducible refine z_two ?_
  | with_reducible refine z_asgT ?_
  | with_reducible refine z_sl ?_
  | with_reducible refine z_noPart ?_
  | with_reducible refine z_part ?_
  | with_reducible refine z_partI ?_
  | with_reducible refine z_gName ?_
  | with_reducible refine z_gcons ?_
  | with_reducible refine z_gnil ?_
  | ((with_reducible refine' z_up ?h ?hm ?_); (case h => walk_at "sq"); (case hm => exact rfl))
  | ((with_reducible refine' z_gT ?h ?hm ?_); (case h => walk_at "sq"); (case hm => exact rfl))
  | with_reducible refine z_isII ?_
  | with_reducible refine z_isNN ?_
  | with_reducible refine z_isNR ?_
  | with_reducible refine z_notNN ?_
  | with_reducible refine z_notNR ?_
  | with_reducible refine z_isIB ?_
  | with_reducible refine z_isBB ?_
  | ((with_reducible refine' z_isT ?h ?_); (case h => walk_at "sq"))
  | ((with_reducible refine' z_isLL ?h ?_); case h => assumption)
  | ((with_reducible refine z_newT ?h ?_); case h => exact Nat.le_of_ble_eq_true rfl)
  | ((with_reducible refine z_newL ?h ?_); case h => exact Nat.le_of_ble_eq_true rfl)
  | ((with_reducible refine' z_ixL ?h ?h2 ?_); (case h => walk_at "sq"); (case h2 => exact rfl))
  | ((with_reducible refine' z_ixT ?h ?h2 ?_); (case h => walk_at "sq"); (case h2 => exact rfl))
  | ((with_reducible refine' z_lenL ?h ?_); case h => walk_at "sq")
  | ((with_reducible refine' z_lenT ?h ?_); case h => walk_at "sq")
  | ((with_reducible refine z_ifYes ?h ?_); (case h => exact rfl))
  | ((with_reducible refine z_ifNo ?h ?_); (case h => exact rfl)))
local macro_rules | `(tactic| walk_at "sq") => `(tactic| first | assumption | exact Or.inl (Or.inl (by assumption)) | exact Or.inl (Or.inl upd_same))
local macro_rules | `(tactic| walk_at "z") => `(tactic| repeat (walk_at "z1"))
/-! ### promises -/
def sp__law_cell (K : PySem.W.Frag) : Sp := fun vs H Q _ => ∃ (l : Addr) (ns : List Int) (j : Nat), vs = [.ref l, .int (j : Int)] ∧ SqL K H l (ns.map V.int) ∧ ∀ v, Q (.int v) H
/-- a stream: three ints, whatever they are -/
def IsStm (H : Hp) (p : Addr) : Prop := ∃ a b m : Int, H p = some (.lst [.int a, .int b, .int m])
def sp__law_stream : Sp := fun vs H Q _ => ∃ c : Int, vs = [.int c] ∧ ∀ p H' a b m, H p = none → Same H H' → H' p = some (.lst [.int a, .int b, .int m]) → Q (.ref p) H'
def sp__law_next : Sp := fun vs H Q _ => ∃ (p : Addr) (z : Int), vs = [.ref p, .int z] ∧ IsStm H p ∧ 0 < z ∧ z.natAbs < 2 ^ 1000 ∧ ∀ v a b m, 0 ≤ v → v < z → Q (.int v) (upd H p (.lst [.int a, .int b, .int m]))
section
theorem ok__law_cell {P : Program} {w : World} {K : PySem.W.Frag} {mg : Str → Option Value} {base : Heap} {A : Nat → Addr} {D : Nat → FuncData} (T : Txt K mg A D base) : FnOk P w K mg base (L2.CX P w) 1 (A 27) (D 27) ["script", "k"] (sp__law_cell K) := by
  refine T.F__law_cell.okX sc__law_cell (fun vs H Q E h => ?_) (fun cdv A' outer s H vs Q E hr h => ?_)
  · obtain ⟨l, ns, j, rfl, _⟩ := h
    rfl
  obtain ⟨l, ns, j, rfl, hS, q⟩ := h
  refine ⟨_, (pss_cons (ps_if (pt_cmpR op_lt (pv 1) (pe_callB Z.c_len (by rfl) T.z_len (by decide +kernel) (pa_cons (pv 0) pa_nil)) (nomark _))
  (pss_one (ps_ret (pe_ix ix_list (pv 0) (pv 1) (fun _ _ => rfl))))
  pss_nil)
  (pss_one (ps_ret pe_int))), ?_⟩
  walk_at "z"
  refine z_if (fun hj => ?_) (fun _ => ?_)
  · walk_at "z"
    rw [List.length_map] at hj
    have hj' : j < ns.length := by omega
    refine z_ixL hS (v := .int ns[j]) (atI_nat (by rw [List.getElem?_map, List.getElem?_eq_getElem hj']; rfl)) (q _)
  · walk_at "z"
    exact q 0
theorem ok__law_stream {P : Program} {w : World} {K : PySem.W.Frag} {mg : Str → Option Value} {base : Heap} {A : Nat → Addr} {D : Nat → FuncData} (T : Txt K mg A D base) : FnOk P w K mg base (L2.CX P w) 1 (A 28) (D 28) ["cell"] sp__law_stream := by
  refine T.F__law_stream.okX sc__law_stream (fun vs H Q E h => ?_) (fun cdv A' outer s H vs Q E hr h => ?_)
  · obtain ⟨c, rfl, _⟩ := h
    rfl
  obtain ⟨c, rfl, q⟩ := h
  refine ⟨_, (pss_cons (ps_if (pt_cmpR op_ge (pv 0) (Z.pe_powc (v := 1000000000000000000) ⟨by decide, by decide, by decide⟩ (by decide)) (nomark _))
  (pss_one (ps_ret (pe_lst (pa_cons (pv 0) (pa_cons pe_int (pa_cons (pe_op op_mod (pe_callTy Z.c_int (by rfl) T.z_int (by decide +kernel) (pa_cons (pv 0) pa_nil)) pe_int) pa_nil))))))
  pss_nil)
  (pss_one (ps_ret (pe_lst (pa_cons pe_int (pa_cons pe_int (pa_cons (pe_op op_mod (pe_callTy Z.c_int (by rfl) T.z_int (by decide +kernel) (pa_cons (pv 0) pa_nil)) pe_int) pa_nil))))))), ?_⟩
  walk_at "z"
  refine z_if (fun hj => ?_) (fun _ => ?_)
  · walk_at "z"
    exact fun p H' hp s h => q p H' _ _ _ hp s h
  · walk_at "z"
    exact fun p H' hp s h => q p H' _ _ _ hp s h
theorem ok__law_next {P : Program} {w : World} {K : PySem.W.Frag} {mg : Str → Option Value} {base : Heap} {A : Nat → Addr} {D : Nat → FuncData} (T : Txt K mg A D base) : FnOk P w K mg base (L2.CX P w) 1 (A 29) (D 29) ["stream", "size"] sp__law_next := by
  refine T.F__law_next.okX sc__law_next (fun vs H Q E h => ?_) (fun cdv A' outer s H vs Q E hr h => ?_)
  · obtain ⟨p, z, rfl, _⟩ := h
    rfl
  obtain ⟨p, z, rfl, ⟨a, b, m, hp⟩, hz, hz2, q⟩ := h
  refine ⟨_, (pss_cons (ps_if (pt_cmpR op_gt (pe_ix ix_list (pv 0) pe_int (fun _ _ => rfl)) pe_int (nomark _))
  (pss_cons (ps_set (i := 2) sc__law_next.nd rfl (.inl rfl) (pe_op op_mod (pe_callTy Z.c_int (by rfl) T.z_int (by decide +kernel) (pa_cons (pe_ix ix_list (pv 0) pe_int (fun _ _ => rfl)) pa_nil)) (pv 1)))
  (pss_cons (ps_asg (pe_op op_fdivW (pe_ix ix_list (pv 0) pe_int (fun _ _ => rfl)) (pv 1)) (pg_sub (pv 0) pe_int set_list))
  (pss_one (ps_ret (pv 2)))))
  pss_nil)
  (pss_cons (ps_asg (pe_op op_add (pe_ix ix_list (pv 0) pe_int (fun _ _ => rfl)) pe_int) (pg_sub (pv 0) pe_int set_list))
  (pss_cons (ps_set (i := 3) sc__law_next.nd rfl (.inl rfl) (pe_op op_mod (pe_callTy Z.c_int (by rfl) T.z_int (by decide +kernel) (pa_cons (pe_op op_add (pe_op op_mul (pe_ix ix_list (pv 0) pe_int (fun _ _ => rfl)) pe_int) (pe_op op_mul (pe_ix ix_list (pv 0) pe_int (fun _ _ => rfl)) pe_int)) pa_nil)) pe_int))
  (pss_cons (ps_set (i := 3) sc__law_next.nd rfl (.inl rfl) (pe_op op_mod (pe_callTy Z.c_int (by rfl) T.z_int (by decide +kernel) (pa_cons (pe_op op_add (pe_op op_mulW (pv 3) (pv 3)) (pe_op op_mul (pe_ix ix_list (pv 0) pe_int (fun _ _ => rfl)) pe_int)) pa_nil)) pe_int))
  (pss_cons (ps_set (i := 3) sc__law_next.nd rfl (.inl rfl) (pe_op op_mod (pe_callTy Z.c_int (by rfl) T.z_int (by decide +kernel) (pa_cons (pe_op op_add (pe_op op_mul (pv 3) pe_int) (pe_ix ix_list (pv 0) pe_int (fun _ _ => rfl))) pa_nil)) pe_int))
  (pss_one (ps_ret (pe_op op_mod (pe_callTy Z.c_int (by rfl) T.z_int (by decide +kernel) (pa_cons (pv 3) pa_nil)) (pv 1))))))))), ?_⟩
  walk_at "z"
  refine z_if (fun hj => ?_) (fun _ => ?_)
  · walk_at "z"
    refine z_I (wide_div hz hz2 (by decide) (by decide)) ?_
    walk_at "z"
    refine z_setL hp rfl ?_
    walk_at "z"
    exact q _ _ _ _ (Int.emod_nonneg _ (by omega)) (Int.emod_lt_of_pos _ hz)
  · walk_at "z"
    refine z_setL hp rfl ?_
    have hp1 : (upd H p (HO.lst ([V.int a, V.int b, V.int m].set (Int.toNat 1) (V.int (b + 1))))) p = some (.lst [V.int a, V.int (b + 1), V.int m]) := upd_same
    walk_at "z"
    refine z_I ?_ ?_
    · exact wide_mul (a := 32) (b := 32) (by omega) (by omega) (by decide) (by decide) (by decide)
    walk_at "z"
    exact q _ _ _ _ (Int.emod_nonneg _ (by omega)) (Int.emod_lt_of_pos _ hz)
end
def sp__law_is_integer : Sp := fun vs H Q _ => ∃ i, vs = [.int i] ∧ Q (.bl true) H
section
theorem ok__law_is_integer {P : Program} {w : World} {K : PySem.W.Frag} {mg : Str → Option Value} {base : Heap} {A : Nat → Addr} {D : Nat → FuncData} (T : Txt K mg A D base) : FnOk P w K mg base (L2.CX P w) 1 (A 30) (D 30) ["actual"] sp__law_is_integer := by
  refine T.F__law_is_integer.okX sc__law_is_integer (fun vs H Q E h => ?_) (fun cdv A' outer s H vs Q E hr h => ?_)
  · obtain ⟨i, rfl, _⟩ := h
    rfl
  obtain ⟨i, rfl, q⟩ := h
  refine ⟨_, (pss_one (ps_ret (pe_and (pe_callB call_isi (by rfl) T.z_isinstance (by decide +kernel) (pa_cons (pv 0) (pa_cons (pe_bltn (v := .ty "int") (by rfl) T.z_int (by decide +kernel) rfl) pa_nil))) (pe_one (pe_not (pe_callB call_isi (by rfl) T.z_isinstance (by decide +kernel) (pa_cons (pv 0) (pa_cons (pe_bltn (v := .ty "bool") (by rfl) T.z_bool (by decide +kernel) rfl) pa_nil)))))))), ?_⟩
  walk_at "z"
  exact q
end
theorem isI {i : Int} {H : Hp} {Q : VK} {E : XK} (q : Q (.bl true) H) : sp__law_is_integer [.int i] H Q E := ⟨i, rfl, q⟩
local macro_rules | `(tactic| walk_at "z1") => `(tactic| with_reducible refine isI ?_)

/-! ### numbers in lowest terms -/
theorem gd_pos {n d : Int} (h : d ≠ 0) : 0 < gd n d := by
  unfold gd
  have : 0 < Nat.gcd n.natAbs d.natAbs := Nat.gcd_pos_of_pos_right _ (by omega)
  omega
theorem gd_dvd_l (n d : Int) : gd n d ∣ n := by
  unfold gd
  exact Int.dvd_trans (Int.natCast_dvd_natCast.mpr (Nat.gcd_dvd_left _ _)) (Int.natAbs_dvd_self)
theorem gd_dvd_r (n d : Int) : gd n d ∣ d := by
  unfold gd
  exact Int.dvd_trans (Int.natCast_dvd_natCast.mpr (Nat.gcd_dvd_right _ _)) (Int.natAbs_dvd_self)
theorem rd_pos {n d : Int} (h : d ≠ 0) : 0 < rd n d := by
  have g := gd_pos (n := n) h
  obtain ⟨k, hk⟩ := gd_dvd_r n d
  unfold rd
  split
  · rename_i hd
    have e : -d = gd n d * (-k) := by rw [Int.mul_neg, ← hk]
    rw [e, Int.mul_ediv_cancel_left _ (by omega)]
    have : ¬ 0 ≤ k := fun z => by have := Int.mul_nonneg (Int.le_of_lt g) z; omega
    omega
  · rename_i hd
    have e : d / gd n d = k := Int.ediv_eq_of_eq_mul_right (by omega) hk
    rw [e]
    have : ¬ k ≤ 0 := fun z => by have := Int.mul_nonpos_of_nonneg_of_nonpos (Int.le_of_lt g) z; omega
    omega
/-- what the program divides: by the negative of the common divisor where d is negative -/
theorem fdiv_neg {n g : Int} (hg : 0 < g) (h : g ∣ n) : Int.fdiv n (-g) = -n / g := by
  obtain ⟨k, rfl⟩ := h
  rw [show g * k = (-g) * (-k) by rw [Int.neg_mul_neg], Int.mul_fdiv_cancel_left _ (by omega), Int.neg_mul_neg, show -(g * k) = g * (-k) by rw [Int.mul_neg], Int.mul_ediv_cancel_left _ (by omega)]
theorem fdiv_pos {n g : Int} (hg : 0 < g) : Int.fdiv n g = n / g := Int.fdiv_eq_ediv_of_nonneg _ (by omega)
theorem gd_log {n d : Int} {k : Nat} (h : d ≠ 0) (hd : d.natAbs < 2 ^ k) : (gd n d).natAbs < 2 ^ k := by
  have : Nat.gcd n.natAbs d.natAbs ≤ d.natAbs := Nat.gcd_le_right _ (by omega)
  unfold gd
  omega
theorem cfd {j : Int} (h : j ≠ 0) (hj : j.natAbs < 2 ^ 1000) : CFd 0 j := ⟨h, Nat.lt_of_lt_of_le (PySem.Flt.log2_lt_of (by decide) hj) (by decide)⟩
theorem lt4 {a : Nat} (h : a < 2 ^ 400) : a < 2 ^ 1000 := Nat.lt_of_lt_of_le h (Nat.pow_le_pow_right (by decide) (by decide))
theorem lt1000 {a : Nat} (h : a < 2 ^ 100) : a < 2 ^ 1000 := Nat.lt_of_lt_of_le h (Nat.pow_le_pow_right (by decide) (by decide))



/-! ### the draws of a law: the heap H0 stands, a stream stands at p -/
structure Sd (H0 H : Hp) (p : Addr) : Prop where
  same : Same H0 H
  fresh : H0 p = none
  stm : IsStm H p
theorem Sd.mk0 {H H' : Hp} {p : Addr} {a b m : Int} (h : H p = none) (s : Same H H') (e : H' p = some (.lst [.int a, .int b, .int m])) : Sd H H' p := ⟨s, h, a, b, m, e⟩
theorem Sd.mono {H0 H H' : Hp} {p : Addr} (S : Sd H0 H p) (s : Same H H') : Sd H0 H' p := by
  obtain ⟨a, b, m, e⟩ := S.stm
  exact ⟨S.same.trans s, S.fresh, a, b, m, s _ _ e⟩
theorem nx {H0 H : Hp} {p : Addr} {z : Int} {Q : VK} {E : XK} (S : Sd H0 H p) (hz : 0 < z) (hz2 : z.natAbs < 2 ^ 1000) (q : ∀ v H', 0 ≤ v → v < z → Sd H0 H' p → (∀ b, b ≠ p → H' b = H b) → Q (.int v) H') : sp__law_next [.ref p, .int z] H Q E := by
  refine ⟨p, z, rfl, S.stm, hz, hz2, fun v a b m h0 h1 => q v _ h0 h1 ⟨fun c o e => ?_, S.fresh, a, b, m, upd_same⟩ fun b hb => upd_ne hb⟩
  rw [upd_ne (ne_of_none e S.fresh)]
  exact S.same c o e
theorem Sd.ext {H0 H : Hp} {p q : Addr} {o : HO} (S : Sd H0 H p) (h : H q = none) : Sd H0 (upd H q o) p := by
  obtain ⟨a, b, m, hp⟩ := S.stm
  exact ⟨S.same.trans (same_upd h), S.fresh, a, b, m, by rw [upd_ne (ne_of_none hp h)]; exact hp⟩
theorem kp_refl {p : Addr} {H : Hp} : Kp p H H := fun _ _ _ e => e
theorem _root_.Z.Kp.trans' {p : Addr} {H H1 H2 : Hp} (a : Kp p H H1) (b : Kp p H1 H2) : Kp p H H2 := fun c o h e => b c o h (a c o h e)
theorem kp_eq {p : Addr} {H H' : Hp} (k : ∀ b, b ≠ p → H' b = H b) : Kp p H H' := fun b o h e => by
  rw [k b h]
  exact e
theorem kp_of {p : Addr} {H H' : Hp} (s : Same H H') : Kp p H H' := fun b x _ e => s b x e
theorem Sd.ne {H0 H : Hp} {p q : Addr} {xs : List V} (S : Sd H0 H p) (h : H q = some (.tup xs)) : q ≠ p := by
  obtain ⟨_, _, _, e⟩ := S.stm
  exact ne_of h e (by intro z; cases z)
theorem Sd.ne0 {H0 H : Hp} {p q : Addr} (S : Sd H0 H p) (h : H q = none) : q ≠ p := by
  obtain ⟨_, _, _, e⟩ := S.stm
  exact Ne.symm (ne_of_none e h)
theorem lt400 {a : Nat} (h : a < 2 ^ 100) : a < 2 ^ 400 := Nat.lt_of_lt_of_le h (Nat.pow_le_pow_right (by decide) (by decide))
theorem kp_sd {H0 H H' : Hp} {p : Addr} {K : PySem.W.Frag} {v : V} {d : PyData} (S : Sd H0 H p) (k : Kp p H H') (t : tupOnly d = true) (h : Dp K H v d) : Dp K H' v d := by
  obtain ⟨a, b, m, e⟩ := S.stm
  exact dp_kp k e t h
/-! ### the four operations, and comparing -/






/-! ### walks over tuples, parts of tuples and lists -/
def ForT (K : PySem.W.Frag) (g : TG) (tb : TS) (n : L2.St → Hp → Prop) (r : VK) (b c : L2.St → Hp → Prop) (σ : L2.St) : VK := fun x H1 => tFor (iTup K (tC x)) g tb ⟨n, r, b, c⟩ σ H1
section
variable {K : PySem.W.Frag} {H H' : Hp} {Q : VK} {σ : L2.St}
theorem z_forTE {tl : TE} {g : TG} {tb : TS} {n : L2.St → Hp → Prop} {r : VK} {b c : L2.St → Hp → Prop} (h : tl σ H (ForT K g tb n r b c σ)) : tFor (iTup K tl) g tb ⟨n, r, b, c⟩ σ H := h
theorem z_forTT {g : TG} {tb : TS} {n : L2.St → Hp → Prop} {r : VK} {b c : L2.St → Hp → Prop} {a : Addr} {xs : List V} (hx : SqT K H a xs) (Pv : Nat → L2.St → Hp → Prop) (h0 : Pv 0 σ H) (hl : ∀ i σ H, i ≤ xs.length → Pv i σ H → SqT K H a xs)
    (hs : ∀ i x σ H, xs[i]? = some x → Pv i σ H → g x σ H fun σ2 H2 => tb ⟨Pv (i + 1), r, n, Pv (i + 1)⟩ σ2 H2) (hd : ∀ σ H, Pv xs.length σ H → n σ H) : ForT K g tb n r b c σ (.ref a) H := z_forT (fun R q => q) hx Pv h0 hl hs hd
theorem cut_to {xs : List V} {k : Nat} (h : k ≤ xs.length) : cutV xs none (some (k : Int)) = xs.take k := by
  unfold cutV
  rw [HT.sIx_nat, HT.sIx_none, Nat.min_eq_left h]
  rfl
theorem cut_from {xs : List V} {k : Nat} (h : k ≤ xs.length) : cutV xs (some (k : Int)) none = xs.drop k := by
  unfold cutV
  rw [HT.sIx_nat, HT.sIx_none, Nat.min_eq_left h, List.take_of_length_le (by rw [List.length_drop]; omega)]
theorem kp_at {p : Addr} {o : HO} : Kp p H (upd H p o) := fun _ _ h e => by rw [upd_ne h]; exact e
theorem dpa_take : ∀ {ds : List PyData} {vs : List V} (n : Nat), DpAll K H vs ds → DpAll K H (vs.take n) (ds.take n)
  | _, _, 0, _ => .nil
  | _, _, _ + 1, .nil => .nil
  | _, _, n + 1, .cons h a => .cons h (dpa_take n a)
theorem dpa_drop : ∀ {ds : List PyData} {vs : List V} (n : Nat), DpAll K H vs ds → DpAll K H (vs.drop n) (ds.drop n)
  | _, _, 0, h => h
  | _, _, _ + 1, .nil => .nil
  | _, _, n + 1, .cons _ a => dpa_drop n a
theorem dpa_atM {α : Type} {f : α → PyData} {xs : List α} {vs : List V} {i : Nat} {v : V} (h : DpAll K H vs (xs.map f)) (e : vs[i]? = some v) : ∃ x, xs[i]? = some x ∧ Dp K H v (f x) := by
  obtain ⟨d, hd, dv⟩ := dpa_getv h e
  rw [List.getElem?_map] at hd
  cases hx : xs[i]? with
  | none => rw [hx] at hd; cases hd
  | some x =>
    rw [hx] at hd
    cases hd
    exact ⟨x, rfl, dv⟩
theorem dpa_lenM {α : Type} {f : α → PyData} {xs : List α} {vs : List V} (h : DpAll K H vs (xs.map f)) : vs.length = xs.length := by
  rw [dpa_len h, List.length_map]
end
local macro_rules | `(tactic| walk_at "z1") => `(tactic| first | with_reducible refine z_forTE ?_ | with_reducible refine z_tru ?_ | with_reducible refine z_forE ?_ | with_reducible refine z_revL ?_)
local macro_rules | `(tactic| walk_at "z1") => `(tactic| first | with_reducible refine Li.z_inE ?_ | with_reducible refine Li.z_tbT ?_ | with_reducible refine Li.z_tbF ?_ | with_reducible refine Li.z_lc2E ?_ | with_reducible refine Li.z_lc2TE ?_ | with_reducible refine Li.z_notInE ?_ | with_reducible refine Li.z_getE ?_ | with_reducible refine Li.z_putE ?_ | with_reducible refine Li.z_get1E ?_)
/-! ### all tuples stay -/
def TupLike : HO → Prop
  | .tup _ => True
  | .frz _ (.tup _) => True
  | _ => False
def TK (H H' : Hp) : Prop := ∀ b o, TupLike o → H b = some o → H' b = some o
theorem TK.of {H H' : Hp} (s : Same H H') : TK H H' := fun b o _ e => s b o e
theorem TK.trans {H H1 H2 : Hp} (a : TK H H1) (b : TK H1 H2) : TK H H2 := fun x o t e => b x o t (a x o t e)
theorem TK.kp {H H' : Hp} {p : Addr} {o : HO} (k : Kp p H H') (hp : H p = some o) (n : ¬ TupLike o) : TK H H' := fun b x t e => k b x (fun z => by
  rw [z, hp] at e
  cases e
  exact n t) e
theorem seqT_tk {K : PySem.W.Frag} {H H' : Hp} {a : Addr} {xs : List V} (k : TK H H') (h : SqT K H a xs) : SqT K H' a xs := by
  rcases h with (h | ⟨o, h⟩) | h
  · exact .inl (.inl (k _ _ trivial h))
  · exact .inl (.inr ⟨o, k _ _ trivial h⟩)
  · exact .inr h
mutual
theorem dp_tk {K : PySem.W.Frag} {H H' : Hp} (k : TK H H') : ∀ {d : PyData} {v : V}, tupOnly d = true → Dp K H v d → Dp K H' v d
  | _, _, _, .non => .non
  | _, _, _, .bl b => .bl b
  | _, _, _, .int i => .int i
  | _, _, _, .str x => .str x
  | _, _, t, .lst h a => by simp [tupOnly] at t
  | _, _, t, .tup h a => .tup (seqT_tk k h) (dp_tkA k (by simpa [tupOnly] using t) a)
theorem dp_tkA {K : PySem.W.Frag} {H H' : Hp} (k : TK H H') : ∀ {ds : List PyData} {vs : List V}, tupOnlyA ds = true → DpAll K H vs ds → DpAll K H' vs ds
  | _, _, _, .nil => .nil
  | _, _, t, .cons h a => by
    have t' : (tupOnly _ && tupOnlyA _) = true := t
    rw [Bool.and_eq_true] at t'
    exact .cons (dp_tk k t'.1 h) (dp_tkA k t'.2 a)
end
theorem Sd.notup {H0 H : Hp} {p : Addr} (S : Sd H0 H p) {H' : Hp} (k : Kp p H H') : TK H H' := by
  obtain ⟨a, b, m, e⟩ := S.stm
  exact TK.kp k e (fun z => z)
local macro_rules | `(tactic| walk_at "z1") => `(tactic| first
  | with_reducible refine z_max2 ?_
  | with_reducible refine z_min2 ?_
  | with_reducible refine z_gName ?_
  | ((with_reducible refine' z_gT ?h ?hm ?_); (case h => walk_at "sq"); (case hm => exact rfl)))
/-- the digits of a length, behind their zeros -/
def dg (r : Int) : List Int := if r < 256 then [0, r / 16, r % 16] else [0, 0, r / 256, r / 16 % 16, r % 16]
def nyb (w n : Int) : List Int := if n ≤ w then [n] else if n ≤ w + 16 * (13 - w) then [w + 1 + (n - w - 1) / 16, (n - w - 1) % 16] else dg (n - w - 16 * (13 - w) + 15)
def Wy (w n : Int) : Prop := 0 ≤ w ∧ w ≤ 13 ∧ 1 ≤ n ∧ n ≤ 2304
theorem sm32 {i : Int} (h1 : -4000000 ≤ i) (h2 : i ≤ 4000000) : i.natAbs < 2 ^ 32 := by omega
theorem wm {a b : Int} (h1 : -4000000 ≤ a ∧ a ≤ 4000000) (h2 : -4000000 ≤ b ∧ b ≤ 4000000) : CMulW a b := wide_mul (a := 32) (b := 32) (sm32 h1.1 h1.2) (sm32 h2.1 h2.2) (by decide) (by decide) (by decide)
theorem wd16 {a : Int} : CDivW a 16 := wide_div (b := 5) (by decide) (by decide) (by decide) (by decide)
def sp_two_nybble_lengths : Sp := fun vs H Q _ => ∃ w : Int, vs = [.int w] ∧ 0 ≤ w ∧ w ≤ 13 ∧ Q (.int (16 * (13 - w))) H
section
theorem ok_two_nybble_lengths {P : Program} {w : World} {K : PySem.W.Frag} {mg : Str → Option Value} {base : Heap} {A : Nat → Addr} {D : Nat → FuncData} (T : Txt K mg A D base) : FnOk P w K mg base (L2.CX P w) 1 (A 1) (D 1) ["way"] sp_two_nybble_lengths := by
  refine T.F_two_nybble_lengths.okX sc_two_nybble_lengths (fun vs H Q E h => ?_) (fun cdv A' outer s H vs Q E hr h => ?_)
  · obtain ⟨w, rfl, _⟩ := h
    rfl
  obtain ⟨w, rfl, h1, h2, q⟩ := h
  refine ⟨_, (pss_one (ps_ret (pe_op op_mulW (Z.pe_globE T.c_BASE) (pe_op op_sub (Z.pe_globE T.c_LAST_RUN_WAY) (pv 0))))), ?_⟩
  walk_at "z"
  refine z_I (wm (by omega) (by omega)) ?_
  walk_at "z"
  exact q
end
def NewI (ns : List Int) (H : Hp) (Q : VK) : Prop := ∀ p H', H p = none → Same H H' → H' p = some (.lst (ns.map V.int)) → Q (.ref p) H'
def sp_written_digits : Sp := fun vs H Q _ => ∃ r : Int, vs = [.int r] ∧ 16 ≤ r ∧ r < 4096 ∧ NewI (dg r) H Q
section
theorem ok_written_digits {P : Program} {w : World} {K : PySem.W.Frag} {mg : Str → Option Value} {base : Heap} {A : Nat → Addr} {D : Nat → FuncData} (T : Txt K mg A D base) : FnOk P w K mg base (L2.CX P w) 1 (A 3) (D 3) ["number"] sp_written_digits := by
  refine T.F_written_digits.okX sc_written_digits (fun vs H Q E h => ?_) (fun cdv A' outer s H vs Q E hr h => ?_)
  · obtain ⟨w, rfl, _⟩ := h
    rfl
  obtain ⟨r, rfl, h1, h2, q⟩ := h
  refine ⟨_, (pss_cons (ps_set (i := 1) sc_written_digits.nd rfl (.inl rfl) (pe_lst pa_nil))
  (pss_cons (ps_while (passes_of rfl) (pt_cmpR op_gt (pv 0) pe_int (nomark _))
  (pss_cons (ps_asg (pe_callB Z.c_divmod (by rfl) T.z_divmod (by decide +kernel) (pa_cons (pv 0) (pa_cons (Z.pe_globE T.c_BASE) pa_nil))) (pg_tup (by rfl) (pgs_cons (pg_name (i := 0) sc_written_digits.nd rfl (.inl rfl)) (pgs_cons (pg_name (i := 2) sc_written_digits.nd rfl (.inl rfl)) pgs_nil))))
  (pss_one (ps_expr (pe_bm PySem.F.plainAttrs_list PySem.F.slot_list_append PySem.F.type_list_append mt_append (pv 1) (pa_cons (pv 2) pa_nil))))))
  (pss_one (ps_ret (pe_op op_cat (pe_op op_rep (pe_lst (pa_cons pe_int pa_nil)) (pe_op op_sub (pe_callB Z.c_len (by rfl) T.z_len (by decide +kernel) (pa_cons (pv 1) pa_nil)) pe_int)) (pe_revL (pv 1))))))), ?_⟩
  walk_at "z"
  intro p H1 f1 s1 e1
  walk_at "z"
  refine z_while (fun σ' H' => Same H H' ∧ ∃ (m : Int) (ds : List Int) (dd : Option V), σ' = [some (.int m), some (.ref p), dd] ∧ H' p = some (.lst (ds.map V.int)) ∧
    ((m = r ∧ ds = []) ∨ (m = r / 16 ∧ ds = [r % 16]) ∨ (m = r / 256 ∧ ds = [r % 16, r / 16 % 16]) ∨ (m = 0 ∧ 256 ≤ r ∧ ds = [r % 16, r / 16 % 16, r / 256]))) (muI 0) ⟨s1, r, [], _, rfl, e1, .inl ⟨rfl, rfl⟩⟩ ?_
  rintro σ' H' ⟨sm, m, ds, dd, rfl, hp, cs⟩
  have hm : 0 ≤ m ∧ m < 4096 := by omega
  walk_at "z"
  refine z_wb (fun c => ?_) (fun c => ?_)
  · walk_at "z"
    refine z_divmod ⟨by decide, by decide⟩ fun a H2 f2 s2 e2 => ?_
    have hp2 := s2 _ _ hp
    walk_at "z"
    refine z_bmL (fun R q => by walk_at "z"; exact q) hp2 ?_
    walk_at "z"
    have hl : (ds.map V.int).length < 1000 := by
      rcases cs with ⟨_, rfl⟩ | ⟨_, rfl⟩ | ⟨_, rfl⟩ | ⟨_, _, rfl⟩ <;> exact Nat.le_of_ble_eq_true rfl
    refine z_append hp2 hl ?_
    have f1' : H p = none := f1
    have sm3 : Same H (upd H2 p (.lst (ds.map V.int ++ [V.int (m % 16)]))) := fun b o e => by
      rw [upd_ne (ne_of_none e f1')]
      exact s2 _ _ (sm _ _ e)
    have hp3 : upd H2 p (HO.lst (ds.map V.int ++ [V.int (m % 16)])) p = some (.lst ((ds ++ [m % 16]).map V.int)) := by rw [upd_same, List.map_append]; rfl
    generalize upd H2 p (HO.lst (ds.map V.int ++ [V.int (m % 16)])) = H3 at *
    refine ⟨⟨sm3, m / 16, _, _, rfl, hp3, ?_⟩, ?_⟩
    · rcases cs with ⟨rfl, rfl⟩ | ⟨rfl, rfl⟩ | ⟨rfl, rfl⟩ | ⟨rfl, _, rfl⟩
      · exact .inr (.inl ⟨rfl, rfl⟩)
      · exact .inr (.inr (.inl ⟨by omega, rfl⟩))
      · exact .inr (.inr (.inr ⟨by omega, by omega, by rw [show r / 256 % 16 = r / 256 by omega]; rfl⟩))
      · omega
    · show (m / 16).toNat < m.toNat
      omega
  · have hm0 : m = 0 := by omega
    subst hm0
    walk_at "z"
    intro a H2 f2 s2 e2
    walk_at "z"
    refine z_lenL (.inl (.inl (s2 _ _ hp))) ?_
    walk_at "z"
    refine z_rep (ds.length - 1) e2 ?_ ?_ fun b H3 f3 s3 e3 => ?_
    · rcases cs with ⟨_, rfl⟩ | ⟨_, rfl⟩ | ⟨_, rfl⟩ | ⟨_, _, rfl⟩
      · omega
      · omega
      · rfl
      · rfl
    · rcases cs with ⟨_, rfl⟩ | ⟨_, rfl⟩ | ⟨_, rfl⟩ | ⟨_, _, rfl⟩ <;> exact Nat.le_of_ble_eq_true rfl
    walk_at "z"
    refine z_revE (.inl (.inl (s3 _ _ (s2 _ _ hp)))) fun c' H4 f4 s4 e4 => ?_
    refine z_cat (s4 _ _ e3) e4 ?_ fun d' H5 f5 s5 e5 => ?_
    · rcases cs with ⟨_, rfl⟩ | ⟨_, rfl⟩ | ⟨_, rfl⟩ | ⟨_, _, rfl⟩ <;> exact Nat.le_of_ble_eq_true rfl
    refine q d' H5 ?_ (((sm.trans s2).trans s3).trans (s4.trans s5)) ?_
    · cases z : H d' with
      | none => rfl
      | some o =>
        have := (((sm.trans s2).trans s3).trans s4) _ _ z
        rw [f5] at this
        cases this
    · rw [e5]
      unfold dg
      rcases cs with ⟨_, rfl⟩ | ⟨_, rfl⟩ | ⟨_, rfl⟩ | ⟨_, _, rfl⟩
      · omega
      · omega
      · rw [if_pos (by omega), show r / 16 % 16 = r / 16 by omega]
        rfl
      · rw [if_neg (by omega)]
        rfl
end

def sp_write_length : Sp := fun vs H Q _ => ∃ w n : Int, vs = [.int n, .int w] ∧ Wy w n ∧ NewI (nyb w n) H Q
section
theorem ok_write_length {P : Program} {w : World} {K : PySem.W.Frag} {mg : Str → Option Value} {base : Heap} {A : Nat → Addr} {D : Nat → FuncData} (T : Txt K mg A D base) : FnOk P w K mg base (L2.CX P w) 2 (A 2) (D 2) ["n", "way"] sp_write_length := by
  refine T.F_write_length.okX sc_write_length (fun vs H Q E h => ?_) (fun cdv A' outer s H vs Q E hr h => ?_)
  · obtain ⟨w, n, rfl, _⟩ := h
    rfl
  obtain ⟨w, n, rfl, ⟨w0, w13, n1, nm⟩, q⟩ := h
  refine ⟨_, (pss_cons (ps_if (pt_cmpR op_le (pv 0) (pv 1) (nomark _))
  (pss_one (ps_ret (pe_lst (pa_cons (pv 0) pa_nil))))
  pss_nil)
  (pss_cons (ps_set (i := 2) sc_write_length.nd rfl (.inl rfl) (pe_op op_sub (pe_op op_sub (pv 0) (pv 1)) pe_int))
  (pss_cons (ps_if (pt_cmpR op_lt (pv 2) (pe_call (ok_two_nybble_lengths T) (hr.mono (by decide)) (by rfl) T.m_two_nybble_lengths T.F_two_nybble_lengths.kp T.b_two_nybble_lengths .nil (passes_call (takes_of rfl rfl rfl rfl) (fun _ _ _ _ h => h)) (pa_cons (pv 1) pa_nil)) (nomark _))
  (pss_one (ps_ret (pe_lst (pa_cons (pe_op op_add (pe_op op_add (pv 1) pe_int) (pe_op op_fdivW (pv 2) (Z.pe_globE T.c_BASE))) (pa_cons (pe_op op_mod (pv 2) (Z.pe_globE T.c_BASE)) pa_nil)))))
  pss_nil)
  (pss_one (ps_ret (pe_call (ok_written_digits T) (hr.mono (by decide)) (by rfl) T.m_written_digits T.F_written_digits.kp T.b_written_digits .nil (passes_call (takes_of rfl rfl rfl rfl) (fun _ _ _ _ h => h)) (pa_cons (pe_op op_add (pe_op op_sub (pv 2) (pe_call (ok_two_nybble_lengths T) (hr.mono (by decide)) (by rfl) T.m_two_nybble_lengths T.F_two_nybble_lengths.kp T.b_two_nybble_lengths .nil (passes_call (takes_of rfl rfl rfl rfl) (fun _ _ _ _ h => h)) (pa_cons (pv 1) pa_nil))) (Z.pe_globE T.c_FIRST_IN_DIGITS)) pa_nil))))))), ?_⟩
  walk_at "z"
  refine z_if (fun c => ?_) (fun c => ?_)
  · walk_at "z"
    intro p H1 f1 s1 e1
    refine q p H1 f1 s1 ?_
    unfold nyb
    rw [if_pos c]
    exact e1
  walk_at "z"
  refine ⟨w, rfl, w0, w13, ?_⟩
  walk_at "z"
  refine z_if (fun c2 => ?_) (fun c2 => ?_)
  · walk_at "z"
    refine z_I wd16 ?_
    walk_at "z"
    intro p H1 f1 s1 e1
    refine q p H1 f1 s1 ?_
    unfold nyb
    rw [if_neg c, if_pos (by omega)]
    exact e1
  · walk_at "z"
    refine ⟨w, rfl, w0, w13, ?_⟩
    walk_at "z"
    refine ⟨_, rfl, by omega, by omega, fun p H1 f1 s1 e1 => q p H1 f1 s1 ?_⟩
    unfold nyb
    rw [if_neg c, if_neg (by omega), show n - w - 16 * (13 - w) + 15 = n - w - 1 - 16 * (13 - w) + 16 by omega]
    exact e1
end

theorem nyb_cases {w n : Int} (h : Wy w n) : (nyb w n = [n] ∧ 1 ≤ n ∧ n ≤ w) ∨ (∃ a b, nyb w n = [a, b] ∧ w < a ∧ a ≤ 13 ∧ 0 ≤ b ∧ b ≤ 15 ∧ n = w + 1 + 16 * (a - w - 1) + b) ∨
    (∃ a b, nyb w n = [0, a, b] ∧ 1 ≤ a ∧ a ≤ 15 ∧ 0 ≤ b ∧ b ≤ 15 ∧ n = a * 16 + b - 16 + 16 * (13 - w) + w + 1) ∨
    ∃ a b c, nyb w n = [0, 0, a, b, c] ∧ 1 ≤ a ∧ a ≤ 15 ∧ 0 ≤ b ∧ b ≤ 15 ∧ 0 ≤ c ∧ c ≤ 15 ∧ n = (a * 16 + b) * 16 + c - 16 + 16 * (13 - w) + w + 1 := by
  obtain ⟨h1, h2, h3, h4⟩ := h
  unfold nyb
  by_cases c1 : n ≤ w
  · rw [if_pos c1]
    exact .inl ⟨rfl, h3, c1⟩
  rw [if_neg c1]
  by_cases c2 : n ≤ w + 16 * (13 - w)
  · rw [if_pos c2]
    exact .inr (.inl ⟨_, _, rfl, by omega, by omega, by omega, by omega, by omega⟩)
  rw [if_neg c2]
  unfold dg
  by_cases c3 : n - w - 16 * (13 - w) + 15 < 256
  · rw [if_pos c3]
    exact .inr (.inr (.inl ⟨_, _, rfl, by omega, by omega, by omega, by omega, by omega⟩))
  · rw [if_neg c3]
    exact .inr (.inr (.inr ⟨_, _, _, rfl, by omega, by omega, by omega, by omega, by omega, by omega, by omega⟩))
theorem nyb_bd {w n : Int} (h : Wy w n) : ∀ x ∈ nyb w n, 0 ≤ x ∧ x ≤ 15 := by
  intro x hx
  have hw := h.1
  have hw2 := h.2.1
  rcases nyb_cases h with ⟨e, _, _⟩ | ⟨a, b, e, _⟩ | ⟨a, b, e, _⟩ | ⟨a, b, c, e, _⟩ <;> rw [e] at hx <;> simp at hx <;> omega
theorem nyb_len {w n : Int} (h : Wy w n) : (nyb w n).length ≤ 5 := by
  rcases nyb_cases h with ⟨e, _, _⟩ | ⟨a, b, e, _⟩ | ⟨a, b, e, _⟩ | ⟨a, b, c, e, _⟩ <;> rw [e] <;> simp
theorem nyb_mono {w n : Int} (h : Wy w n) (h' : Wy w (n + 1)) : (nyb w n).length ≤ (nyb w (n + 1)).length := by
  have hw := h.2.1
  rcases nyb_cases h with ⟨e, _, _⟩ | ⟨a, b, e, _⟩ | ⟨a, b, e, _⟩ | ⟨a, b, c, e, _⟩ <;> rcases nyb_cases h' with ⟨e', _, _⟩ | ⟨a', b', e', _⟩ | ⟨a', b', e', _⟩ | ⟨a', b', c', e', _⟩ <;> rw [e, e'] <;> simp <;> omega
theorem nyb_0 {w n : Int} (h : Wy w n) : ∃ x r, nyb w n = x :: r ∧ x ≤ 13 := by
  have hw := h.2.1
  rcases nyb_cases h with ⟨e, _, _⟩ | ⟨a, b, e, _⟩ | ⟨a, b, e, _⟩ | ⟨a, b, c, e, _⟩ <;> exact ⟨_, _, e, by omega⟩
/-- zeros at the beginning -/
def nz : List Int → Nat
  | [] => 0
  | x :: xs => if x = 0 then nz xs + 1 else 0
theorem nz0 {x : Int} {r : List Int} (h : x ≠ 0) : nz (x :: r) = 0 := if_neg h
theorem nz1 {r : List Int} : nz (0 :: r) = nz r + 1 := if_pos rfl
def sp_zeros_at : Sp := fun vs H Q _ => ∃ (l : Addr) (xs : List Int) (i : Nat), vs = [.ref l, .int (i : Int)] ∧ H l = some (.lst (xs.map V.int)) ∧ i ≤ xs.length ∧ Q (.int (nz (xs.drop i) : Nat)) H
section
theorem ok_zeros_at {P : Program} {w : World} {K : PySem.W.Frag} {mg : Str → Option Value} {base : Heap} {A : Nat → Addr} {D : Nat → FuncData} (T : Txt K mg A D base) : FnOk P w K mg base (L2.CX P w) 1 (A 5) (D 5) ["nybbles", "index"] sp_zeros_at := by
  refine T.F_zeros_at.okX sc_zeros_at (fun vs H Q E h => ?_) (fun cdv A' outer s H vs Q E hr h => ?_)
  · obtain ⟨l, xs, i, rfl, _⟩ := h
    rfl
  obtain ⟨l, xs, i, rfl, hl, hi, q⟩ := h
  refine ⟨_, (pss_cons (ps_set (i := 2) sc_zeros_at.nd rfl (.inl rfl) (pv 1))
  (pss_cons (ps_while (passes_of rfl) (PW.pt (pw_and (pt_cmpR op_lt (pv 2) (pe_callB Z.c_len (by rfl) T.z_len (by decide +kernel) (pa_cons (pv 0) pa_nil)) (nomark _)) (pw_and1 (pt_cmpR op_eq (pe_ix ix_list (pv 0) (pv 2) (fun _ _ => rfl)) pe_int (nomark _)))))
  (pss_one (ps_aug (i := 2) sc_zeros_at.nd rfl (.inl rfl) pe_int ip_add)))
  (pss_one (ps_ret (pe_op op_sub (pv 2) (pv 1)))))), ?_⟩
  walk_at "z"
  refine z_while (fun σ' H' => H' = H ∧ ∃ e : Nat, σ' = [some (.ref l), some (.int (i : Int)), some (.int (e : Int))] ∧ i ≤ e ∧ e ≤ xs.length ∧ nz (xs.drop i) = (e - i) + nz (xs.drop e)) (fun σ' _ => xs.length - muI 2 σ' H) ⟨rfl, i, rfl, Nat.le_refl _, hi, by omega⟩ ?_
  rintro σ' H' ⟨rfl, e, rfl, h1, h2, h3⟩
  have done : nz (xs.drop e) = 0 → Q (.int ((e : Int) - (i : Int))) H' := fun z => by
    rw [show (e : Int) - (i : Int) = ((nz (xs.drop i) : Nat) : Int) by omega]
    exact q
  walk_at "z"
  rw [List.length_map]
  refine z_if (fun c => ?_) (fun c => ?_)
  · have he : e < xs.length := by omega
    walk_at "z"
    have hx : xs[e]? = some xs[e] := List.getElem?_eq_getElem he
    have hd : xs.drop e = xs[e] :: xs.drop (e + 1) := List.drop_eq_getElem_cons he
    refine z_ixL (.inl (.inl hl)) (v := .int xs[e]) (atI_nat (by rw [List.getElem?_map, hx]; rfl)) ?_
    walk_at "z"
    refine z_wb (fun c2 => ?_) (fun c2 => ?_)
    · refine z_aug rfl ?_
      walk_at "z"
      refine z_ipI ?_
      refine ⟨⟨rfl, e + 1, rfl, by omega, by omega, ?_⟩, ?_⟩
      · rw [h3, hd, c2, nz1]
        omega
      · show xs.length - ((e : Int) + 1).toNat < xs.length - (e : Int).toNat
        omega
    · walk_at "z"
      exact done (by rw [hd, nz0 c2])
  · refine z_wbF ?_
    walk_at "z"
    exact done (by rw [List.drop_of_length_le (by omega)]; rfl)
end
theorem nz_nyb {w n : Int} (h : Wy w n) (r : List Int) : (nyb w n).length = (if 0 < nz (nyb w n ++ r) then 2 * nz (nyb w n ++ r) + 1 else if (nyb w n).headD 0 > w then 2 else 1) := by
  rcases nyb_cases h with ⟨e, h1, h2⟩ | ⟨a, b, e, h1, h2⟩ | ⟨a, b, e, h1, h2⟩ | ⟨a, b, c, e, h1, h2⟩ <;> rw [e]
  · show 1 = if 0 < nz (n :: r) then _ else _
    rw [nz0 (by omega), if_neg (by omega), if_neg (by show ¬ n > w; omega)]
  · show 2 = if 0 < nz (a :: b :: r) then _ else _
    have := h.1
    rw [nz0 (by omega), if_neg (by omega), if_pos (by show a > w; omega)]
  · show 3 = if 0 < nz (0 :: a :: b :: r) then 2 * nz (0 :: a :: b :: r) + 1 else _
    rw [nz1, nz0 (by omega)]
    rfl
  · show 5 = if 0 < nz (0 :: 0 :: a :: b :: c :: r) then 2 * nz (0 :: 0 :: a :: b :: c :: r) + 1 else _
    rw [nz1, nz1, nz0 (by omega)]
    rfl
/-- a length of the way w stands at i -/
structure At (H : Hp) (l : Addr) (xs : List Int) (i : Nat) (w n : Int) (r : List Int) : Prop where
  hl : H l = some (.lst (xs.map V.int))
  wy : Wy w n
  dr : xs.drop i = nyb w n ++ r
theorem At.lt {H : Hp} {l : Addr} {xs : List Int} {i : Nat} {w n : Int} {r : List Int} (h : At H l xs i w n r) : i < xs.length ∧ xs[i]? = some ((nyb w n).headD 0) := by
  obtain ⟨x, t, e, _⟩ := nyb_0 h.wy
  have d := h.dr
  rw [e] at d ⊢
  have hi : i < xs.length := by
    rcases Nat.lt_or_ge i xs.length with z | z
    · exact z
    · rw [List.drop_of_length_le z] at d
      cases d
  refine ⟨hi, ?_⟩
  have := congrArg (·[0]?) d
  simp only [List.getElem?_drop] at this
  exact this
def sp_length_size : Sp := fun vs H Q _ => ∃ (l : Addr) (xs : List Int) (i : Nat) (w n : Int) (r : List Int), vs = [.ref l, .int (i : Int), .int w] ∧ At H l xs i w n r ∧ Q (.int ((nyb w n).length : Nat)) H
section
theorem ok_length_size {P : Program} {w : World} {K : PySem.W.Frag} {mg : Str → Option Value} {base : Heap} {A : Nat → Addr} {D : Nat → FuncData} (T : Txt K mg A D base) : FnOk P w K mg base (L2.CX P w) 2 (A 6) (D 6) ["nybbles", "index", "way"] sp_length_size := by
  refine T.F_length_size.okX sc_length_size (fun vs H Q E h => ?_) (fun cdv A' outer s H vs Q E hr h => ?_)
  · obtain ⟨l, xs, i, w, n, r, rfl, _⟩ := h
    rfl
  obtain ⟨l, xs, i, w, n, r, rfl, a, q⟩ := h
  refine ⟨_, (pss_cons (ps_set (i := 3) sc_length_size.nd rfl (.inl rfl) (pe_call (ok_zeros_at T) (hr.mono (by decide)) (by rfl) T.m_zeros_at T.F_zeros_at.kp T.b_zeros_at .nil (passes_call (takes_of rfl rfl rfl rfl) (fun _ _ _ _ h => h)) (pa_cons (pv 0) (pa_cons (pv 1) pa_nil))))
  (pss_cons (ps_if (pt_cmpR op_gt (pv 3) pe_int (nomark _))
  (pss_one (ps_ret (pe_op op_add (pe_op op_mul pe_int (pv 3)) pe_int)))
  pss_nil)
  (pss_cons (ps_if (PW.pt (pw_and (pt_cmpR op_lt (pv 1) (pe_callB Z.c_len (by rfl) T.z_len (by decide +kernel) (pa_cons (pv 0) pa_nil)) (nomark _)) (pw_and1 (pt_cmpR op_gt (pe_ix ix_list (pv 0) (pv 1) (fun _ _ => rfl)) (pv 2) (nomark _)))))
  (pss_one (ps_ret pe_int))
  pss_nil)
  (pss_one (ps_ret pe_int))))), ?_⟩
  walk_at "z"
  have a2 := a.lt
  have e := nz_nyb a.wy r
  have dr := a.dr
  refine ⟨l, xs, i, rfl, a.hl, by omega, ?_⟩
  rw [dr]
  walk_at "z"
  refine z_if (fun c => ?_) (fun c => ?_)
  · walk_at "z"
    rw [if_pos (by omega)] at e
    rw [show 2 * ((nz (nyb w n ++ r) : Nat) : Int) + 1 = (((nyb w n).length : Nat) : Int) by omega]
    exact q
  rw [if_neg (by omega)] at e
  walk_at "z"
  refine z_lenL (.inl (.inl a.hl)) ?_
  walk_at "z"
  rw [List.length_map]
  refine z_if (fun c1 => ?_) (fun c1 => absurd (by omega) c1)
  walk_at "z"
  refine z_ixL (.inl (.inl a.hl)) (v := .int _) (atI_nat (by rw [List.getElem?_map, a2.2]; rfl)) ?_
  walk_at "z"
  refine z_if (fun c2 => ?_) (fun c2 => ?_)
  · walk_at "z"
    rw [if_pos c2] at e
    rw [e] at q
    exact q
  · walk_at "z"
    rw [if_neg c2] at e
    rw [e] at q
    exact q
end
def hexv (ds : List Int) : Int := ds.foldl (fun a d => a * 16 + d) 0
theorem hexv_s {ds : List Int} {i : Nat} {d : Int} (h : ds[i]? = some d) : hexv (ds.take (i + 1)) = hexv (ds.take i) * 16 + d := by
  unfold hexv
  rw [List.take_add_one, h, List.foldl_append]
  rfl
theorem hexv_le : ∀ (ds : List Int) (a : Int), (∀ d ∈ ds, 0 ≤ d ∧ d ≤ 15) → 0 ≤ a → ds.length ≤ 4 → a ≤ 15 → 0 ≤ ds.foldl (fun a d => a * 16 + d) a ∧ ds.foldl (fun a d => a * 16 + d) a ≤ 4000000
  | [], a, _, _, _, _ => by
    show 0 ≤ a ∧ a ≤ 4000000
    omega
  | [b], a, h, _, _, _ => by
    have := h b (by simp)
    show 0 ≤ a * 16 + b ∧ a * 16 + b ≤ 4000000
    omega
  | [b, c], a, h, _, _, _ => by
    have := h b (by simp)
    have := h c (by simp)
    show 0 ≤ (a * 16 + b) * 16 + c ∧ (a * 16 + b) * 16 + c ≤ 4000000
    omega
  | [b, c, d], a, h, _, _, _ => by
    have := h b (by simp)
    have := h c (by simp)
    have := h d (by simp)
    show 0 ≤ ((a * 16 + b) * 16 + c) * 16 + d ∧ ((a * 16 + b) * 16 + c) * 16 + d ≤ 4000000
    omega
  | [b, c, d, e], a, h, _, _, _ => by
    have := h b (by simp)
    have := h c (by simp)
    have := h d (by simp)
    have := h e (by simp)
    show 0 ≤ (((a * 16 + b) * 16 + c) * 16 + d) * 16 + e ∧ (((a * 16 + b) * 16 + c) * 16 + d) * 16 + e ≤ 4000000
    omega
  | _ :: _ :: _ :: _ :: _ :: _, _, _, _, h, _ => by
    simp at h
def sp_read_length : Sp := fun vs H Q _ => ∃ (l : Addr) (xs : List Int) (i : Nat) (w n : Int) (r : List Int), vs = [.ref l, .int (i : Int), .int w] ∧ At H l xs i w n r ∧
  ∀ p H', H p = none → Same H H' → H' p = some (.tup [.int n, .int ((i : Int) + ((nyb w n).length : Nat))]) → Q (.ref p) H'
section
theorem ok_read_length {P : Program} {w : World} {K : PySem.W.Frag} {mg : Str → Option Value} {base : Heap} {A : Nat → Addr} {D : Nat → FuncData} (T : Txt K mg A D base) : FnOk P w K mg base (L2.CX P w) 3 (A 4) (D 4) ["nybbles", "index", "way"] sp_read_length := by
  refine T.F_read_length.okX sc_read_length (fun vs H Q E h => ?_) (fun cdv A' outer s H vs Q E hr h => ?_)
  · obtain ⟨l, xs, i, w, n, r, rfl, _⟩ := h
    rfl
  obtain ⟨l, xs, i, w, n, r, rfl, a, q⟩ := h
  refine ⟨_, (pss_cons (ps_set (i := 3) sc_read_length.nd rfl (.inl rfl) (pe_call (ok_zeros_at T) (hr.mono (by decide)) (by rfl) T.m_zeros_at T.F_zeros_at.kp T.b_zeros_at .nil (passes_call (takes_of rfl rfl rfl rfl) (fun _ _ _ _ h => h)) (pa_cons (pv 0) (pa_cons (pv 1) pa_nil))))
  (pss_cons (ps_set (i := 4) sc_read_length.nd rfl (.inl rfl) (pe_op op_add (pv 1) (pe_call (ok_length_size T) (hr.mono (by decide)) (by rfl) T.m_length_size T.F_length_size.kp T.b_length_size .nil (passes_call (takes_of rfl rfl rfl rfl) (fun _ _ _ _ h => h)) (pa_cons (pv 0) (pa_cons (pv 1) (pa_cons (pv 2) pa_nil))))))
  (pss_cons (ps_if (pt_cmpR op_gt (pv 3) pe_int (nomark _))
  (pss_cons (ps_set (i := 5) sc_read_length.nd rfl (.inl rfl) pe_int)
  (pss_cons (ps_for (passes_of rfl) rfl (pi_list (pe_slice sl_list (pv 0) (po_some (pe_op op_add (pv 1) (pv 3))) (po_some (pv 4)))) (pg_name (i := 6) sc_read_length.nd rfl (.inl rfl))
  (pss_one (ps_set (i := 5) sc_read_length.nd rfl (.inl rfl) (pe_op op_add (pe_op op_mulW (pv 5) (Z.pe_globE T.c_BASE)) (pv 6)))))
  (pss_one (ps_ret (pe_tup (pa_cons (pe_op op_add (pe_op op_add (pe_op op_add (pe_op op_sub (pv 5) (Z.pe_globE T.c_FIRST_IN_DIGITS)) (pe_call (ok_two_nybble_lengths T) (hr.mono (by decide)) (by rfl) T.m_two_nybble_lengths T.F_two_nybble_lengths.kp T.b_two_nybble_lengths .nil (passes_call (takes_of rfl rfl rfl rfl) (fun _ _ _ _ h => h)) (pa_cons (pv 2) pa_nil))) (pv 2)) pe_int) (pa_cons (pv 4) pa_nil)))))))
  pss_nil)
  (pss_cons (ps_set (i := 7) sc_read_length.nd rfl (.inl rfl) (pe_ix ix_list (pv 0) (pv 1) (fun _ _ => rfl)))
  (pss_cons (ps_if (pt_cmpR op_le (pv 7) (pv 2) (nomark _))
  (pss_one (ps_ret (pe_tup (pa_cons (pv 7) (pa_cons (pv 4) pa_nil)))))
  pss_nil)
  (pss_one (ps_ret (pe_tup (pa_cons (pe_op op_add (pe_op op_add (pe_op op_add (pv 2) pe_int) (pe_op op_mulW (Z.pe_globE T.c_BASE) (pe_op op_sub (pe_op op_sub (pv 7) (pv 2)) pe_int))) (pe_ix ix_list (pv 0) (pe_op op_add (pv 1) pe_int) (fun _ _ => rfl))) (pa_cons (pv 4) pa_nil)))))))))), ?_⟩
  walk_at "z"
  have a2 := a.lt
  have dr := a.dr
  have hw := a.wy
  refine ⟨l, xs, i, rfl, a.hl, by omega, ?_⟩
  rw [dr]
  walk_at "z"
  refine ⟨l, xs, i, w, n, r, rfl, a, ?_⟩
  walk_at "z"
  generalize hz : nz (nyb w n ++ r) = z
  have hb := nyb_bd hw
  have hc : (0 < z ∧ ∃ ds zs, nyb w n = zs ++ ds ∧ zs.length = z ∧ (∀ d ∈ ds, 0 ≤ d ∧ d ≤ 15) ∧ ds.length ≤ 4 ∧ n = hexv ds - 16 + 16 * (13 - w) + w + 1) ∨
      (z = 0 ∧ ((nyb w n = [n] ∧ n ≤ w) ∨ ∃ x y, nyb w n = [x, y] ∧ w < x ∧ x ≤ 13 ∧ n = w + 1 + 16 * (x - w - 1) + y)) := by
    rcases nyb_cases hw with ⟨e, h1, h2⟩ | ⟨x, y, e, h1, h2, h3, h4, h5⟩ | ⟨x, y, e, h1, h2, h3, h4, h5⟩ | ⟨x, y, y2, e, h1, h2, h3, h4, h5, h6, h7⟩
    · exact .inr ⟨by rw [← hz, e]; exact nz0 (by omega), .inl ⟨e, h2⟩⟩
    · have := hw.1
      exact .inr ⟨by rw [← hz, e]; exact nz0 (by omega), .inr ⟨x, y, e, h1, h2, h5⟩⟩
    · have z0 : z = 1 := by
        rw [← hz, e]
        show nz (0 :: x :: y :: r) = 1
        rw [nz1, nz0 (by omega)]
      refine .inl ⟨by omega, [x, y], [0], e, z0.symm, fun d hd => hb d (by rw [e]; exact .tail _ hd), by simp, ?_⟩
      show n = ((0 * 16 + x) * 16 + y) - 16 + 16 * (13 - w) + w + 1
      omega
    · have z0 : z = 2 := by
        rw [← hz, e]
        show nz (0 :: 0 :: x :: y :: y2 :: r) = 2
        rw [nz1, nz1, nz0 (by omega)]
      refine .inl ⟨by omega, [x, y, y2], [0, 0], e, z0.symm, fun d hd => hb d (by rw [e]; exact .tail _ (.tail _ hd)), by simp, ?_⟩
      show n = (((0 * 16 + x) * 16 + y) * 16 + y2) - 16 + 16 * (13 - w) + w + 1
      omega
  clear hb
  rcases hc with ⟨hz0, ds, zs, hd, hzs, hb, hl4, hn⟩ | ⟨z0, hc⟩
  · refine z_if (fun _ => ?_) (fun c => absurd (show (0 : Int) < (z : Int) by omega) c)
    walk_at "z"
    refine ⟨_, rfl, ?_⟩
    walk_at "z"
    refine ⟨_, rfl, ?_⟩
    refine z_slL (.inl (.inl a.hl)) (ys := ds.map V.int) ?_ fun p H1 f1 s1 e1 => ?_
    · have hlen : (nyb w n ++ r).length = xs.length - i := by rw [← dr, List.length_drop]
      rw [List.length_append] at hlen
      have hnl : (nyb w n).length = z + ds.length := by rw [hd, List.length_append, hzs]
      unfold cutV
      rw [show (i : Int) + (z : Int) = ((i + z : Nat) : Int) by omega, show (i : Int) + ((nyb w n).length : Int) = ((i + (z + ds.length) : Nat) : Int) by omega, HT.sIx_nat, HT.sIx_nat, List.length_map, Nat.min_eq_left (by omega), Nat.min_eq_left (by omega),
        ← List.drop_drop, ← List.map_drop, dr, hd, show i + (z + ds.length) - (i + z) = ds.length by omega, ← List.map_drop, ← List.map_take, List.append_assoc, List.drop_append_of_le_length (by omega), List.drop_of_length_le (by omega), List.nil_append, List.take_left']
      rfl
    unfold ForL
    refine z_forL (fun R q => q) (.inl (.inl e1)) (fun j σ' H' => H' = H1 ∧ ∃ u, σ' = [some (.ref l), some (.int (i : Int)), some (.int w), some (.int (z : Int)), some (.int ((i : Int) + ((nyb w n).length : Nat))), some (.int (hexv (ds.take j))), u, none]) ⟨rfl, _, rfl⟩
      (fun j σ' H' _ h => by rw [h.1]; exact .inl (.inl e1)) ?_ ?_
    · rintro j x σ' H' hx ⟨rfl, u, rfl⟩
      rw [List.getElem?_map] at hx
      cases hj : ds[j]? with
      | none => rw [hj] at hx; cases hx
      | some d =>
        rw [hj] at hx
        cases hx
        have hb' := hexv_le (ds.take j) 0 (fun d hd => hb d (List.mem_of_mem_take hd)) (by decide) (by rw [List.length_take]; omega) (by decide)
        have hb' : 0 ≤ hexv (ds.take j) ∧ hexv (ds.take j) ≤ 4000000 := hb'
        walk_at "z"
        refine z_I (wm (by omega) (by omega)) ?_
        walk_at "z"
        exact ⟨rfl, _, by rw [hexv_s hj]; rfl⟩
    · rintro σ' H' ⟨rfl, u, rfl⟩
      rw [List.length_map, List.take_length]
      walk_at "z"
      refine ⟨w, rfl, hw.1, hw.2.1, ?_⟩
      walk_at "z"
      intro p2 H2 f2 s2 e2
      refine q p2 H2 ?_ (s1.trans s2) ?_
      · cases zz : H p2 with
        | none => rfl
        | some o =>
          have := s1 _ _ zz
          rw [f2] at this
          cases this
      · rw [e2, ← hn]
  · subst z0
    refine z_if (fun c => absurd c (by decide)) (fun _ => ?_)
    walk_at "z"
    refine z_ixL (.inl (.inl a.hl)) (v := .int _) (atI_nat (by rw [List.getElem?_map, a2.2]; rfl)) ?_
    walk_at "z"
    rcases hc with ⟨e, h2⟩ | ⟨x, y, e, h1, h2, h5⟩
    · refine z_if (fun _ => ?_) (fun c => absurd (show (nyb w n).headD 0 ≤ w by rw [e]; exact h2) c)
      walk_at "z"
      have e0 : (nyb w n).headD 0 = n := by rw [e]; rfl
      rw [e0]
      exact q
    · have e0 : (nyb w n).headD 0 = x := by rw [e]; rfl
      rw [e0]
      refine z_if (fun c => absurd h1 (by omega)) (fun _ => ?_)
      walk_at "z"
      have := hw.1
      refine z_I (wm (by omega) (by omega)) ?_
      walk_at "z"
      have hy : xs[i + 1]? = some y := by
        have := congrArg (·[1]?) dr
        rw [e] at this
        simp only [List.getElem?_drop] at this
        exact this
      refine z_ixL (.inl (.inl a.hl)) (v := .int y) (show atI _ ((i : Int) + 1) = _ from atI_nat (j := i + 1) (by rw [List.getElem?_map, hy]; rfl)) ?_
      walk_at "z"
      rw [← h5]
      exact q
end
/-! ### rows: those that are repeated, the runs, the nybbles -/
def mixed (x : List Int) : Bool := decide ((0 : Int) ∈ x) && decide ((1 : Int) ∈ x)
def grp (x : List Int) (n : Nat) : List (List Int) → List (List Int × Nat)
  | [] => [(x, n)]
  | y :: ys => if y = x ∧ mixed x = true then grp x (n + 1) ys else (x, n) :: grp y 0 ys
def groups : List (List Int) → List (List Int × Nat)
  | [] => []
  | x :: xs => grp x 0 xs
/-- how many rows at the beginning repeat x -/
def cnt (x : List Int) : List (List Int) → Nat
  | [] => 0
  | y :: ys => if y = x ∧ mixed x = true then cnt x ys + 1 else 0
theorem cnt_le (x : List Int) : ∀ ys, cnt x ys ≤ ys.length
  | [] => Nat.le_refl _
  | y :: ys => by
    unfold cnt
    have := cnt_le x ys
    split
    · simp
      omega
    · simp
theorem grp_head (x : List Int) : ∀ (n : Nat) (ys : List (List Int)), ∃ r, grp x n ys = (x, n + cnt x ys) :: r
  | n, [] => ⟨[], rfl⟩
  | n, y :: ys => by
    unfold grp cnt
    by_cases c : y = x ∧ mixed x = true
    · rw [if_pos c, if_pos c]
      obtain ⟨r, e⟩ := grp_head x (n + 1) ys
      exact ⟨r, by rw [e]; congr 2; omega⟩
    · rw [if_neg c, if_neg c]
      exact ⟨_, rfl⟩
theorem grp_yes {x y : List Int} {n : Nat} {ys : List (List Int)} (h : y = x) (m : mixed x = true) : grp x n (y :: ys) = grp x (n + 1) ys := if_pos ⟨h, m⟩
theorem grp_no {x y : List Int} {n : Nat} {ys : List (List Int)} (h : ¬ (y = x ∧ mixed x = true)) : grp x n (y :: ys) = (x, n) :: grp y 0 ys := if_neg h
theorem grp_len (x : List Int) : ∀ (n : Nat) (ys : List (List Int)), (grp x n ys).length ≤ ys.length + 1
  | n, [] => Nat.le_refl _
  | n, y :: ys => by
    by_cases c : y = x ∧ mixed x = true
    · rw [grp_yes c.1 c.2]
      have := grp_len x (n + 1) ys
      simp
      omega
    · rw [grp_no c]
      have := grp_len y 0 ys
      simp
      omega
theorem groups_len : ∀ xs : List (List Int), (groups xs).length ≤ xs.length
  | [] => Nat.le_refl _
  | x :: xs => grp_len x 0 xs
/-- all rows of the groups are rows, no count is greater than the rows -/
theorem grp_mem (x : List Int) : ∀ (n : Nat) (ys : List (List Int)) (k : List Int × Nat), k ∈ grp x n ys → (k.1 = x ∨ k.1 ∈ ys) ∧ k.2 ≤ n + ys.length
  | n, [], k, h => by
    rw [show grp x n [] = [(x, n)] from rfl, List.mem_singleton] at h
    subst h
    exact ⟨.inl rfl, Nat.le_add_right _ _⟩
  | n, y :: ys, k, h => by
    by_cases c : y = x ∧ mixed x = true
    · rw [grp_yes c.1 c.2] at h
      obtain ⟨h1, h2⟩ := grp_mem x (n + 1) ys k h
      refine ⟨?_, by simp; omega⟩
      rcases h1 with h1 | h1
      · exact .inl h1
      · exact .inr (List.mem_cons_of_mem _ h1)
    · rw [grp_no c] at h
      rcases List.mem_cons.mp h with h | h
      · subst h
        exact ⟨.inl rfl, Nat.le_add_right _ _⟩
      · obtain ⟨h1, h2⟩ := grp_mem y 0 ys k h
        refine ⟨?_, by simp; omega⟩
        rcases h1 with h1 | h1
        · exact .inr (by rw [h1]; exact List.mem_cons_self)
        · exact .inr (List.mem_cons_of_mem _ h1)
theorem groups_mem : ∀ (xs : List (List Int)) (k : List Int × Nat), k ∈ groups xs → k.1 ∈ xs ∧ k.2 < xs.length
  | [], k, h => by simp [groups] at h
  | x :: xs, k, h => by
    obtain ⟨h1, h2⟩ := grp_mem x 0 xs k h
    refine ⟨?_, by simp; omega⟩
    rcases h1 with h1 | h1
    · rw [h1]
      exact List.mem_cons_self
    · exact List.mem_cons_of_mem _ h1
/-- runs: the row where it begins, and its length; the last pixel -/
abbrev RunS := List (Nat × Nat) × Option Int
def bump (rs : List (Nat × Nat)) : List (Nat × Nat) := match rs.reverse with
  | [] => []
  | (r, l) :: t => t.reverse ++ [(r, l + 1)]
theorem bump_app {rs : List (Nat × Nat)} {r l : Nat} : bump (rs ++ [(r, l)]) = rs ++ [(r, l + 1)] := by
  unfold bump
  rw [List.reverse_append]
  simp
def rst (j : Nat) (s : RunS) (p : Int) : RunS := (if s.2 = some p then bump s.1 else s.1 ++ [(j, 1)], some p)
def rrow (j : Nat) (x : List Int) (s : RunS) : RunS := x.foldl (rst j) s
def RS (ks : List (List Int)) : Nat → RunS
  | 0 => ([], none)
  | j + 1 => rrow j (ks.getD j []) (RS ks j)
def RP (ks : List (List Int)) (j i : Nat) : RunS := rrow j ((ks.getD j []).take i) (RS ks j)
theorem rp_0 (ks : List (List Int)) (j : Nat) : RP ks j 0 = RS ks j := by
  unfold RP rrow
  rw [List.take_zero]
  rfl
theorem rp_succ {ks : List (List Int)} {j i : Nat} {x : List Int} {p : Int} (hx : ks[j]? = some x) (hp : x[i]? = some p) : RP ks j (i + 1) = rst j (RP ks j i) p := by
  unfold RP rrow
  have e : ks.getD j [] = x := by rw [List.getD_eq_getElem?_getD, hx] <;> rfl
  rw [e, List.take_add_one, hp, List.foldl_append]
  rfl
theorem rp_end {ks : List (List Int)} {j : Nat} {x : List Int} (hx : ks[j]? = some x) : RP ks j x.length = RS ks (j + 1) := by
  have e : ks.getD j [] = x := by rw [List.getD_eq_getElem?_getD, hx] <;> rfl
  show rrow j _ _ = rrow j _ _
  rw [e, List.take_length]
def runsN (ks : List (List Int)) : List (Nat × Nat) := (RS ks ks.length).1
/-- n pixels, in rows up to j -/
structure WfS (s : RunS) (j n : Nat) : Prop where
  no : s.2 = none → s.1 = []
  yes : s.2 ≠ none → s.1 ≠ []
  mem : ∀ x ∈ s.1, x.1 ≤ j ∧ 1 ≤ x.2 ∧ x.2 ≤ n
  len : s.1.length ≤ n
theorem WfS.up {s : RunS} {j n : Nat} (h : WfS s j n) : WfS s (j + 1) n := ⟨h.no, h.yes, fun x hx => by have := h.mem x hx; omega, h.len⟩
theorem snoc_ind {α : Type} {P : List α → Prop} (h0 : P []) (hs : ∀ rs x, P rs → P (rs ++ [x])) (rs : List α) : P rs := by
  have : ∀ l : List α, P l.reverse := fun l => by
    induction l with
    | nil => exact h0
    | cons x l ih => rw [List.reverse_cons]; exact hs _ x ih
  rw [← List.reverse_reverse rs]
  exact this _
theorem snoc_of {α : Type} {rs : List α} (h : rs ≠ []) : ∃ rs' x, rs = rs' ++ [x] := by
  refine snoc_ind (P := fun rs => rs ≠ [] → ∃ rs' x, rs = rs' ++ [x]) (fun h => absurd rfl h) (fun rs x _ _ => ⟨rs, x, rfl⟩) rs h
theorem WfS.step {s : RunS} {j n : Nat} (h : WfS s j n) (p : Int) : WfS (rst j s p) j (n + 1) := by
  unfold rst
  refine ⟨fun z => (by cases z), fun _ => ?_, fun x hx => ?_, ?_⟩
  · dsimp only
    split
    · rename_i c
      obtain ⟨rs', ⟨r, l⟩, e⟩ := snoc_of (h.yes (by rw [c]; simp))
      rw [e, bump_app]
      simp
    · simp
  · dsimp only at hx
    split at hx
    · rename_i c
      obtain ⟨rs', ⟨r, l⟩, e⟩ := snoc_of (h.yes (by rw [c]; simp))
      rw [e, bump_app] at hx
      rcases List.mem_append.mp hx with hx | hx
      · have := h.mem x (by rw [e]; exact List.mem_append_left _ hx)
        omega
      · rw [List.mem_singleton.mp hx]
        have := h.mem (r, l) (by rw [e]; simp)
        dsimp only at this ⊢
        omega
    · rcases List.mem_append.mp hx with hx | hx
      · have := h.mem x hx
        omega
      · rw [List.mem_singleton.mp hx]
        dsimp only
        omega
  · dsimp only
    split
    · rename_i c
      obtain ⟨rs', ⟨r, l⟩, e⟩ := snoc_of (h.yes (by rw [c]; simp))
      have := h.len
      rw [e, bump_app]
      rw [e] at this
      simp at this ⊢
      omega
    · have := h.len
      simp
      omega
/-- pixels of the rows before j -/
def px (ks : List (List Int)) : Nat → Nat
  | 0 => 0
  | j + 1 => px ks j + (ks.getD j []).length
theorem wf_row (j : Nat) : ∀ (x : List Int) (s : RunS) (n : Nat), WfS s j n → WfS (rrow j x s) j (n + x.length)
  | [], s, n, h => h
  | p :: x, s, n, h => by
    have := wf_row j x (rst j s p) (n + 1) (h.step p)
    rw [show n + (p :: x).length = n + 1 + x.length by simp; omega]
    exact this
theorem wf_RS (ks : List (List Int)) : ∀ j, WfS (RS ks j) j (px ks j)
  | 0 => ⟨fun _ => rfl, fun z => absurd rfl z, fun x hx => (nomatch hx), Nat.le_refl _⟩
  | j + 1 => (wf_row j _ _ _ (wf_RS ks j)).up
theorem wf_RP (ks : List (List Int)) (j i : Nat) {x : List Int} (hx : ks[j]? = some x) (hi : i ≤ x.length) : WfS (RP ks j i) j (px ks j + i) := by
  have e : ks.getD j [] = x := by rw [List.getD_eq_getElem?_getD, hx] <;> rfl
  have := wf_row j (x.take i) _ _ (wf_RS ks j)
  rw [List.length_take, Nat.min_eq_left hi] at this
  unfold RP
  rw [e]
  exact this
theorem px_le {ks : List (List Int)} {c : Nat} (h : ∀ x ∈ ks, x.length ≤ c) : ∀ j, px ks j ≤ c * j
  | 0 => Nat.zero_le _
  | j + 1 => by
    have h1 := px_le h j
    have h2 : (ks.getD j []).length ≤ c := by
      rw [List.getD_eq_getElem?_getD]
      cases e : ks[j]? with
      | none => exact Nat.zero_le _
      | some x => exact h x (List.mem_of_getElem? e)
    show px ks j + _ ≤ _
    rw [Nat.mul_succ]
    omega
/-- rows in the runs before row j are less than j -/
theorem row_lt {ks : List (List Int)} : ∀ j, ∀ x ∈ (RS ks j).1, x.1 < j
  | 0 => fun x hx => nomatch hx
  | j + 1 => fun x hx => by
    have := (wf_row j _ _ _ (wf_RS ks j)).mem x hx
    omega
/-- the nybbles of a repetition count -/
def rep (w : Int) (c : Nat) : List Int := if c = 0 then [] else if c = 1 then [15] else 14 :: nyb w c
def est (w : Int) (s : List Int × List Nat) (x : Nat × Nat) : List Int × List Nat := (s.1 ++ rep w (s.2.getD x.1 0) ++ nyb w x.2, s.2.set x.1 0)
/-- the nybbles of runs, and the counts that are left -/
def EC (w : Int) (reps : List Nat) (rs : List (Nat × Nat)) : List Int × List Nat := rs.foldl (est w) ([], reps)
theorem ec_app (w : Int) (reps : List Nat) (rs : List (Nat × Nat)) (x : Nat × Nat) : EC w reps (rs ++ [x]) = est w (EC w reps rs) x := by
  unfold EC
  rw [List.foldl_append]
  rfl
theorem ec_len (w : Int) (reps : List Nat) (rs : List (Nat × Nat)) : (EC w reps rs).2.length = reps.length := by
  refine snoc_ind (P := fun rs => (EC w reps rs).2.length = reps.length) rfl (fun rs x ih => ?_) rs
  · rw [ec_app]
    show ((EC w reps rs).2.set x.1 0).length = _
    rw [List.length_set, ih]
/-- a count stays while no run of its row came -/
theorem ec_get (w : Int) (reps : List Nat) (j : Nat) (rs : List (Nat × Nat)) (h : ∀ x ∈ rs, x.1 ≠ j) : (EC w reps rs).2.getD j 0 = reps.getD j 0 := by
  refine snoc_ind (P := fun rs => (∀ x ∈ rs, x.1 ≠ j) → (EC w reps rs).2.getD j 0 = reps.getD j 0) (fun _ => rfl) (fun rs x ih h => ?_) rs h
  · rw [ec_app]
    show ((EC w reps rs).2.set x.1 0).getD j 0 = _
    rw [← ih fun y hy => h y (List.mem_append_left _ hy), List.getD_eq_getElem?_getD, List.getElem?_set_ne (h x (by simp)), ← List.getD_eq_getElem?_getD]
theorem ec_mem (w : Int) (reps : List Nat) (rs : List (Nat × Nat)) : ∀ c ∈ (EC w reps rs).2, c = 0 ∨ c ∈ reps := by
  refine snoc_ind (P := fun rs => ∀ c ∈ (EC w reps rs).2, c = 0 ∨ c ∈ reps) (fun c h => .inr h) (fun rs x ih => ?_) rs
  · rw [ec_app]
    intro c hc
    rcases List.mem_or_eq_of_mem_set hc with h | h
    · exact ih c h
    · exact .inl h
def packR (w : Int) (rows : List (List Int)) : List Int := (EC w ((groups rows).map Prod.snd) (runsN ((groups rows).map Prod.fst))).1
def bitsN (P : List Int) : List Int := (List.range ((P.length + 3) / 4)).map fun k => 8 * P.getD (4 * k) 0 + 4 * P.getD (4 * k + 1) 0 + 2 * P.getD (4 * k + 2) 0 + P.getD (4 * k + 3) 0
def packN (w : Int) (rows : List (List Int)) : List Int := if w = 14 then bitsN rows.flatten else packR w rows
theorem nyb_len5 (w n : Int) : (nyb w n).length ≤ 5 := by
  unfold nyb dg
  split
  · simp
  · split
    · simp
    · split <;> simp
theorem rep_bd {w : Int} {c : Nat} (h0 : 0 ≤ w) (h1 : w ≤ 13) (hc : c ≤ 2304) : ∀ x ∈ rep w c, 0 ≤ x ∧ x ≤ 15 := by
  intro x hx
  unfold rep at hx
  split at hx
  · cases hx
  · split at hx
    · rw [List.mem_singleton.mp hx]
      omega
    · rcases List.mem_cons.mp hx with h | h
      · omega
      · exact nyb_bd (w := w) (n := c) ⟨h0, h1, by omega, by omega⟩ x h
theorem rep_len6 (w : Int) (c : Nat) : (rep w c).length ≤ 6 := by
  unfold rep
  have := nyb_len5 w c
  split
  · simp
  · split
    · simp
    · simp
      omega
theorem ec_bd {w : Int} {reps : List Nat} (h0 : 0 ≤ w) (h1 : w ≤ 13) (hr : ∀ c ∈ reps, c ≤ 2304) (rs : List (Nat × Nat)) (hs : ∀ x ∈ rs, 1 ≤ x.2 ∧ x.2 ≤ 2304) : ∀ x ∈ (EC w reps rs).1, 0 ≤ x ∧ x ≤ 15 := by
  refine snoc_ind (P := fun rs => (∀ x ∈ rs, 1 ≤ x.2 ∧ x.2 ≤ 2304) → ∀ x ∈ (EC w reps rs).1, 0 ≤ x ∧ x ≤ 15) (fun _ x h => (nomatch h)) (fun rs y ih h x hx => ?_) rs hs
  rw [ec_app] at hx
  have hy := h y (by simp)
  rcases List.mem_append.mp hx with hx | hx
  · rcases List.mem_append.mp hx with hx | hx
    · exact ih (fun z hz => h z (List.mem_append_left _ hz)) x hx
    · refine rep_bd h0 h1 ?_ x hx
      rw [List.getD_eq_getElem?_getD]
      cases e : (EC w reps rs).2[y.1]? with
      | none => exact Nat.zero_le _
      | some c =>
        rcases ec_mem w reps rs c (List.mem_of_getElem? e) with z | z
        · subst z
          exact Nat.zero_le _
        · exact hr c z
  · exact nyb_bd (w := w) (n := (y.2 : Int)) ⟨h0, h1, by omega, by omega⟩ x hx
theorem ec_size (w : Int) (reps : List Nat) (rs : List (Nat × Nat)) : (EC w reps rs).1.length ≤ 11 * rs.length := by
  refine snoc_ind (P := fun rs => (EC w reps rs).1.length ≤ 11 * rs.length) (Nat.le_refl _) (fun rs x ih => ?_) rs
  rw [ec_app]
  show ((EC w reps rs).1 ++ rep w _ ++ nyb w x.2).length ≤ _
  have h1 := nyb_len5 w x.2
  have h2 := rep_len6 w ((EC w reps rs).2.getD x.1 0)
  simp only [List.length_append, List.length_singleton]
  omega
/-- rows of pixels: at most 48 of at most 48 -/
structure Rows (rs : List (List Int)) : Prop where
  n : rs.length ≤ 48
  c : ∀ x ∈ rs, x.length ≤ 48
  b : ∀ x ∈ rs, ∀ p ∈ x, p = 0 ∨ p = 1
theorem Rows.ks {rs : List (List Int)} (h : Rows rs) : Rows ((groups rs).map Prod.fst) where
  n := by rw [List.length_map]; exact Nat.le_trans (groups_len rs) h.n
  c := fun x hx => by
    obtain ⟨k, hk, e⟩ := List.mem_map.mp hx
    rw [← e]
    exact h.c _ (groups_mem rs k hk).1
  b := fun x hx => by
    obtain ⟨k, hk, e⟩ := List.mem_map.mp hx
    rw [← e]
    exact h.b _ (groups_mem rs k hk).1
theorem Rows.px {ks : List (List Int)} (h : Rows ks) {j : Nat} (hj : j ≤ ks.length) : px ks j ≤ 2304 := by
  have := px_le h.c j
  have := h.n
  omega
theorem Rows.runs {ks : List (List Int)} (h : Rows ks) : (∀ x ∈ runsN ks, x.1 < ks.length ∧ 1 ≤ x.2 ∧ x.2 ≤ 2304) ∧ (runsN ks).length ≤ 2304 := by
  have w := wf_RS ks ks.length
  have p := h.px (Nat.le_refl _)
  refine ⟨fun x hx => ⟨row_lt _ x hx, ?_⟩, Nat.le_trans w.len p⟩
  have := w.mem x hx
  omega
theorem Rows.reps {rs : List (List Int)} (h : Rows rs) : ∀ c ∈ (groups rs).map Prod.snd, c ≤ 48 := fun c hc => by
  obtain ⟨k, hk, e⟩ := List.mem_map.mp hc
  have := (groups_mem rs k hk).2
  have := h.n
  omega
theorem bits_bd {P : List Int} (h : ∀ p ∈ P, p = 0 ∨ p = 1) : ∀ x ∈ bitsN P, 0 ≤ x ∧ x ≤ 15 := by
  intro x hx
  obtain ⟨k, _, rfl⟩ := List.mem_map.mp hx
  have g : ∀ i, P.getD i 0 = 0 ∨ P.getD i 0 = 1 := fun i => by
    rw [List.getD_eq_getElem?_getD]
    cases e : P[i]? with
    | none => exact .inl rfl
    | some p => exact h p (List.mem_of_getElem? e)
  have h0 := g (4 * k)
  have h1 := g (4 * k + 1)
  have h2 := g (4 * k + 2)
  have h3 := g (4 * k + 3)
  omega
theorem Rows.flat {rs : List (List Int)} (h : Rows rs) : rs.flatten.length ≤ 2304 ∧ ∀ p ∈ rs.flatten, p = 0 ∨ p = 1 := by
  constructor
  · have : ∀ l : List (List Int), (∀ x ∈ l, x.length ≤ 48) → l.flatten.length ≤ 48 * l.length := fun l => by
      induction l with
      | nil => exact fun _ => Nat.le_refl _
      | cons x l ih =>
        intro h
        have h1 := ih fun y hy => h y (List.mem_cons_of_mem _ hy)
        have h2 := h x List.mem_cons_self
        rw [List.flatten_cons, List.length_append, List.length_cons]
        omega
    have := this rs h.c
    have := h.n
    omega
  · intro p hp
    obtain ⟨x, hx, hp⟩ := List.mem_flatten.mp hp
    exact h.b x hx p hp
theorem packN_bd {rs : List (List Int)} (h : Rows rs) {w : Int} (h0 : 0 ≤ w) (h1 : w ≤ 14) : ∀ x ∈ packN w rs, 0 ≤ x ∧ x ≤ 15 := by
  unfold packN
  split
  · exact bits_bd h.flat.2
  · exact ec_bd h0 (by omega) (fun c hc => by have := h.reps c hc; omega) _ fun x hx => by have := h.ks.runs.1 x hx; omega
theorem packN_len {rs : List (List Int)} (h : Rows rs) {w : Int} : (packN w rs).length ≤ 26000 := by
  unfold packN
  split
  · unfold bitsN
    have := h.flat.1
    rw [List.length_map, List.length_range]
    omega
  · have := ec_size w ((groups rs).map Prod.snd) (runsN ((groups rs).map Prod.fst))
    have := h.ks.runs.2
    unfold packR
    omega
/-! ### rows in the heap -/
theorem keep_new {H H1 H2 : Hp} {d : Addr} (f : H d = none) (s : Same H H1) (k : Kp d H1 H2) : Same H H2 := fun b o e => k b o (ne_of_none e f) (s b o e)
theorem at_last (wd : List V) (w : V) : atI (wd ++ [w]) (-1) = some w := atI_last wd w
theorem set_last (xs : List V) (x y : V) : (xs ++ [x]).set xs.length y = xs ++ [y] := by
  rw [List.set_append_right _ _ (Nat.le_refl _), Nat.sub_self]
  rfl
theorem ixN_last (xs : List V) (x : V) : ixN (xs ++ [x]).length (-1) = some xs.length := by
  unfold ixN
  simp
  omega
def rowD (x : List Int) : PyData := .tuple (x.map .int)
theorem eqv_rows : ∀ (ns ms : List Int), PyData.eqv (rowD ns) (rowD ms) = decide (ns = ms)
  | [], [] => rfl
  | [], m :: ms => rfl
  | n :: ns, [] => rfl
  | n :: ns, m :: ms => by
    have ih := eqv_rows ns ms
    show ((n == m) && PyData.eqv (rowD ns) (rowD ms)) = _
    rw [ih]
    by_cases h : n = m
    · subst h
      by_cases h2 : ns = ms
      · simp [h2]
      · simp [h2]
    · simp [h]
theorem fl_row (x : List Int) : Fl 1 (rowD x) := fl_tup fun d hd => by
  obtain ⟨i, _, rfl⟩ := List.mem_map.mp hd
  exact fl_int i
section
variable {K : PySem.W.Frag} {H H' : Hp} {Q : VK}
theorem dp_row {p : Addr} {x : List Int} (h : SqT K H p (x.map V.int)) : Dp K H (.ref p) (rowD x) := .tup h (dpa_ints x)
theorem z_eqRow {p q : Addr} {x y : List Int} (h1 : SqT K H p (x.map V.int)) (h2 : SqT K H q (y.map V.int)) (k : Q (.bl (decide (x = y))) H) : rEqD K (.ref p) (.ref q) H Q :=
  ⟨_, _, dp_row h1, dp_row h2, shaped_fl (fl_row x), shaped_fl (fl_row y), by rw [eqv_rows]; exact k⟩
/-- a list of tuples of numbers -/
def RwAt (K : PySem.W.Frag) (H : Hp) : List Addr → List (List Int) → Prop
  | [], [] => True
  | a :: as, x :: xs => SqT K H a (x.map V.int) ∧ RwAt K H as xs
  | _, _ => False
theorem RwAt.len : ∀ {as : List Addr} {xs : List (List Int)}, RwAt K H as xs → as.length = xs.length
  | [], [], _ => rfl
  | _ :: _, _ :: _, h => congrArg (· + 1) (RwAt.len h.2)
  | [], _ :: _, h => h.elim
  | _ :: _, [], h => h.elim
theorem RwAt.get : ∀ {as : List Addr} {xs : List (List Int)} {i : Nat} {a : Addr}, RwAt K H as xs → as[i]? = some a → ∃ x, xs[i]? = some x ∧ SqT K H a (x.map V.int)
  | [], [], _, _, _, e => nomatch e
  | b :: _, y :: _, 0, a, h, e => by cases e; exact ⟨y, rfl, h.1⟩
  | _ :: as, _ :: xs, i + 1, a, h, e => RwAt.get (i := i) h.2 e
  | [], _ :: _, _, _, h, _ => h.elim
  | _ :: _, [], _, _, h, _ => h.elim
theorem RwAt.tk (k : TK H H') : ∀ {as : List Addr} {xs : List (List Int)}, RwAt K H as xs → RwAt K H' as xs
  | [], [], _ => trivial
  | _ :: _, _ :: _, h => ⟨seqT_tk k h.1, RwAt.tk k h.2⟩
  | [], _ :: _, h => h.elim
  | _ :: _, [], h => h.elim
theorem RwAt.mono (s : Same H H') {as : List Addr} {xs : List (List Int)} (h : RwAt K H as xs) : RwAt K H' as xs := h.tk (TK.of s)
theorem RwAt.snoc {a : Addr} {x : List Int} (k : SqT K H a (x.map V.int)) : ∀ {as : List Addr} {xs : List (List Int)}, RwAt K H as xs → RwAt K H (as ++ [a]) (xs ++ [x])
  | [], [], _ => ⟨k, trivial⟩
  | _ :: _, _ :: _, h => ⟨h.1, RwAt.snoc k h.2⟩
  | [], _ :: _, h => h.elim
  | _ :: _, [], h => h.elim
theorem RwAt.unsnoc : ∀ {as : List Addr} {xs : List (List Int)} {x : List Int}, RwAt K H as (xs ++ [x]) → ∃ bs b, as = bs ++ [b] ∧ RwAt K H bs xs ∧ SqT K H b (x.map V.int)
  | [], [], _, h => h.elim
  | [], _ :: _, _, h => h.elim
  | [a], [], x, h => ⟨[], a, rfl, trivial, h.1⟩
  | _ :: _ :: _, [], _, h => h.2.elim
  | a :: as, y :: xs, x, h => by
    obtain ⟨bs, b, e, h1, h2⟩ := RwAt.unsnoc h.2
    exact ⟨a :: bs, b, by rw [e]; rfl, ⟨h.1, h1⟩, h2⟩
/-- a list of pairs of a row and a length -/
def RnAt (H : Hp) : List Addr → List (Nat × Nat) → Prop
  | [], [] => True
  | a :: as, x :: xs => H a = some (.tup [.int (x.1 : Int), .int (x.2 : Int)]) ∧ RnAt H as xs
  | _, _ => False
theorem RnAt.len : ∀ {as : List Addr} {xs : List (Nat × Nat)}, RnAt H as xs → as.length = xs.length
  | [], [], _ => rfl
  | _ :: _, _ :: _, h => congrArg (· + 1) (RnAt.len h.2)
  | [], _ :: _, h => h.elim
  | _ :: _, [], h => h.elim
theorem RnAt.get : ∀ {as : List Addr} {xs : List (Nat × Nat)} {i : Nat} {a : Addr}, RnAt H as xs → as[i]? = some a → ∃ x, xs[i]? = some x ∧ H a = some (.tup [.int (x.1 : Int), .int (x.2 : Int)])
  | [], [], _, _, _, e => nomatch e
  | b :: _, y :: _, 0, a, h, e => by cases e; exact ⟨y, rfl, h.1⟩
  | _ :: as, _ :: xs, i + 1, a, h, e => RnAt.get (i := i) h.2 e
  | [], _ :: _, _, _, h, _ => h.elim
  | _ :: _, [], _, _, h, _ => h.elim
theorem RnAt.tk (k : TK H H') : ∀ {as : List Addr} {xs : List (Nat × Nat)}, RnAt H as xs → RnAt H' as xs
  | [], [], _ => trivial
  | _ :: _, _ :: _, h => ⟨k _ _ trivial h.1, RnAt.tk k h.2⟩
  | [], _ :: _, h => h.elim
  | _ :: _, [], h => h.elim
theorem RnAt.snoc {a : Addr} {x : Nat × Nat} (k : H a = some (.tup [.int (x.1 : Int), .int (x.2 : Int)])) : ∀ {as : List Addr} {xs : List (Nat × Nat)}, RnAt H as xs → RnAt H (as ++ [a]) (xs ++ [x])
  | [], [], _ => ⟨k, trivial⟩
  | _ :: _, _ :: _, h => ⟨h.1, RnAt.snoc k h.2⟩
  | [], _ :: _, h => h.elim
  | _ :: _, [], h => h.elim
theorem RnAt.unsnoc : ∀ {as : List Addr} {xs : List (Nat × Nat)} {x : Nat × Nat}, RnAt H as (xs ++ [x]) → ∃ bs b, as = bs ++ [b] ∧ RnAt H bs xs ∧ H b = some (.tup [.int (x.1 : Int), .int (x.2 : Int)])
  | [], [], _, h => h.elim
  | [], _ :: _, _, h => h.elim
  | [a], [], x, h => ⟨[], a, rfl, trivial, h.1⟩
  | _ :: _ :: _, [], _, h => h.2.elim
  | a :: as, y :: xs, x, h => by
    obtain ⟨bs, b, e, h1, h2⟩ := RnAt.unsnoc h.2
    exact ⟨a :: bs, b, by rw [e]; rfl, ⟨h.1, h1⟩, h2⟩
theorem tk_new {p : Addr} {o : HO} {u : HO} (h : H p = some u) (n : ¬ TupLike u) : TK H (upd H p o) := TK.kp (kp_at) h n
end
/-- the groups so far -/
def Gk (rs : List (List Int)) (i : Nat) (A : List (List Int × Nat)) : Prop := (i = 0 ∧ A = []) ∨ ∃ B x n, A = B ++ [(x, n)] ∧ groups rs = B ++ grp x n (rs.drop i)
theorem Gk.old {rs : List (List Int)} {i : Nat} {B : List (List Int × Nat)} {x y : List Int} {n : Nat} (h : Gk rs i (B ++ [(x, n)])) (hy : rs[i]? = some y) (e : y = x ∧ mixed x = true) : Gk rs (i + 1) (B ++ [(x, n + 1)]) := by
  rcases h with ⟨_, z⟩ | ⟨B', x', n', z, h⟩
  · simp at z
  · obtain ⟨z1, z2⟩ := List.append_inj' z rfl
    cases z2
    subst z1
    obtain ⟨hi, ey⟩ := List.getElem?_eq_some_iff.mp hy
    rw [List.drop_eq_getElem_cons hi, ey, grp_yes e.1 e.2] at h
    exact .inr ⟨B, x, n + 1, rfl, h⟩
theorem Gk.new {rs : List (List Int)} {i : Nat} {A : List (List Int × Nat)} {y : List Int} (h : Gk rs i A) (hy : rs[i]? = some y) (e : ∀ B x n, A = B ++ [(x, n)] → ¬ (y = x ∧ mixed x = true)) : Gk rs (i + 1) (A ++ [(y, 0)]) := by
  obtain ⟨hi, ey⟩ := List.getElem?_eq_some_iff.mp hy
  rcases h with ⟨rfl, rfl⟩ | ⟨B, x, n, rfl, h⟩
  · refine .inr ⟨[], y, 0, rfl, ?_⟩
    cases rs with
    | nil => simp at hi
    | cons z r =>
      cases hy
      rfl
  · rw [List.drop_eq_getElem_cons hi, ey, grp_no (e B x n rfl)] at h
    exact .inr ⟨B ++ [(x, n)], y, 0, rfl, by rw [h, List.append_assoc]; rfl⟩
theorem Gk.fin {rs : List (List Int)} {A : List (List Int × Nat)} (h : Gk rs rs.length A) : A = groups rs := by
  rcases h with ⟨z, rfl⟩ | ⟨B, x, n, rfl, h⟩
  · have := List.length_eq_zero_iff.mp z
    subst this
    rfl
  · rw [h, List.drop_length]
    rfl
theorem Gk.len {rs : List (List Int)} {i : Nat} {A : List (List Int × Nat)} (h : Gk rs i A) : A.length ≤ rs.length := by
  rcases h with ⟨_, rfl⟩ | ⟨B, x, n, rfl, h⟩
  · exact Nat.zero_le _
  · have h1 := groups_len rs
    obtain ⟨r, e⟩ := grp_head x n (rs.drop i)
    rw [h, e] at h1
    simp at h1 ⊢
    omega
def kkB (y : List Int) (A : List (List Int × Nat)) : Bool := match A.getLast? with
  | none => false
  | some z => decide (y = z.1) && (decide ((0 : Int) ∈ y) && decide ((1 : Int) ∈ y))
theorem kkB_app {y x : List Int} {B : List (List Int × Nat)} {n : Nat} : kkB y (B ++ [(x, n)]) = (decide (y = x) && (decide ((0 : Int) ∈ y) && decide ((1 : Int) ∈ y))) := by
  unfold kkB
  rw [List.getLast?_append]
  rfl
theorem kkB_t {y : List Int} {A : List (List Int × Nat)} (h : kkB y A = true) : ∃ B x n, A = B ++ [(x, n)] ∧ y = x ∧ mixed x = true := by
  by_cases e : A = []
  · subst e
    cases h
  · obtain ⟨B, ⟨x, n⟩, rfl⟩ := snoc_of e
    rw [kkB_app, Bool.and_eq_true, decide_eq_true_eq] at h
    refine ⟨B, x, n, rfl, h.1, ?_⟩
    rw [← h.1]
    exact h.2
theorem kkB_f {y : List Int} {A : List (List Int × Nat)} (h : kkB y A = false) (B : List (List Int × Nat)) (x : List Int) (n : Nat) (e : A = B ++ [(x, n)]) : ¬ (y = x ∧ mixed x = true) := by
  subst e
  rintro ⟨rfl, m⟩
  rw [kkB_app, decide_eq_true rfl] at h
  unfold mixed at m
  rw [m] at h
  cases h
abbrev natV (n : Nat) : V := .int (n : Int)
def sp_without_repetitions (K : PySem.W.Frag) : Sp := fun vs H Q _ => ∃ (L : Addr) (as : List Addr) (rs : List (List Int)), vs = [.ref L] ∧ H L = some (.lst (as.map V.ref)) ∧ RwAt K H as rs ∧ rs.length ≤ 48 ∧
  ∀ t G R bs H', Same H H' → H' t = some (.tup [.ref G, .ref R]) → H G = none → H R = none → G ≠ R → H' G = some (.lst (bs.map V.ref)) → RwAt K H' bs ((groups rs).map Prod.fst) → H' R = some (.lst (((groups rs).map Prod.snd).map natV)) → Q (.ref t) H'
section
theorem ok_without_repetitions {P : Program} {w : World} {K : PySem.W.Frag} {mg : Str → Option Value} {base : Heap} {A : Nat → Addr} {D : Nat → FuncData} (T : Txt K mg A D base) : FnOk P w K mg base (L2.CX P w) 1 (A 24) (D 24) ["lines"] (sp_without_repetitions K) := by
  refine T.F_without_repetitions.okX sc_without_repetitions (fun vs H Q E h => ?_) (fun cdv A' outer s H vs Q E hr h => ?_)
  · obtain ⟨L, as, rs, rfl, _⟩ := h
    rfl
  obtain ⟨L, as, rs, rfl, hL, ra, lr, q⟩ := h
  refine ⟨_, (pss_cons (ps_set (i := 1) sc_without_repetitions.nd rfl (.inl rfl) (pe_lst pa_nil))
  (pss_cons (ps_set (i := 2) sc_without_repetitions.nd rfl (.inl rfl) (pe_lst pa_nil))
  (pss_cons (ps_for (passes_of rfl) rfl (pi_list (pv 0)) (pg_name (i := 3) sc_without_repetitions.nd rfl (.inl rfl))
  (pss_one (ps_if (PW.pt (pw_and (Z.pt_tru (pv 1) (by intro _; rfl)) (pw_and (pt_cmpR (op_eqD hr.units) (pv 3) (pe_ix ix_list (pv 1) (pe_un un_neg pe_int) (fun _ _ => rfl)) (nomark _)) (pw_and (pt_cmpR op_in_seq pe_int (pv 3) (by rfl)) (pw_and1 (pt_cmpR op_in_seq pe_int (pv 3) (by rfl)))))))
  (pss_one (ps_augS (pv 2) (pe_un un_neg pe_int) Z.get_list pe_int ip_add set_list))
  (pss_cons (ps_expr (pe_bm PySem.F.plainAttrs_list PySem.F.slot_list_append PySem.F.type_list_append mt_append (pv 1) (pa_cons (pv 3) pa_nil)))
  (pss_one (ps_expr (pe_bm PySem.F.plainAttrs_list PySem.F.slot_list_append PySem.F.type_list_append mt_append (pv 2) (pa_cons pe_int pa_nil))))))))
  (pss_one (ps_ret (pe_tup (pa_cons (pv 1) (pa_cons (pv 2) pa_nil)))))))), ?_⟩
  walk_at "z"
  intro G H1 fG s1 hG
  walk_at "z"
  intro R H2 fR s2 hR
  walk_at "z"
  have hG2 := s2 _ _ hG
  have nRG : R ≠ G := (ne_of_none hG fR).symm
  have s02 := s1.trans s2
  have fR0 : H R = none := fresh_of s1 fR
  have la := ra.len
  refine z_forL (fun R q => q) (.inl (.inl (s02 _ _ hL))) (fun i σ' H' => Same H H' ∧ ∃ (A' : List (List Int × Nat)) (bs : List Addr) (u : Option V), σ' = [some (.ref L), some (.ref G), some (.ref R), u] ∧ Gk rs i A' ∧ RwAt K H' bs (A'.map Prod.fst) ∧ H' G = some (.lst (bs.map V.ref)) ∧ H' R = some (.lst ((A'.map Prod.snd).map natV)))
    ⟨s02, [], [], _, rfl, .inl ⟨rfl, rfl⟩, trivial, hG2, hR⟩ (fun i σ' H' _ h => .inl (.inl (h.1 _ _ hL))) ?_ ?_
  · rintro i x σ' H3 hx ⟨s3, A', bs, u, rfl, gk, rb, hG3, hR3⟩
    rw [List.getElem?_map] at hx
    obtain ⟨a, ha, e⟩ := Option.map_eq_some_iff.mp hx
    cases e
    obtain ⟨y, hy, hay⟩ := (ra.mono s3).get ha
    have lA := gk.len
    have lb := rb.len
    rw [List.length_map] at lb
    refine z_gName ?_
    refine z_ifs ?_
    refine z_known (kkB y A') (fun RR r => ?_) ?_
    · walk_at "z"
      refine z_truL hG3 ?_
      by_cases eA : A' = []
      · subst eA
        have eb : bs = [] := List.length_eq_zero_iff.mp lb
        subst eb
        exact z_ifNo rfl r
      · obtain ⟨B, ⟨x, n⟩, rfl⟩ := snoc_of eA
        rw [List.map_append] at rb
        obtain ⟨bs', b, rfl, rb', hb⟩ := rb.unsnoc
        rw [kkB_app] at r
        refine z_ifYes (by simp) ?_
        rw [List.map_append] at hG3
        walk_at "z"
        refine z_ixL (.inl (.inl hG3)) (at_last _ _) ?_
        refine z_eqRow hay hb ?_
        walk_at "z"
        refine z_andK (k' := decide ((0 : Int) ∈ y) && decide ((1 : Int) ∈ y)) (fun _ R2 r2 => ?_) r
        walk_at "z"
        refine Pk.inT hay ?_
        walk_at "z"
        refine z_andK (k' := decide ((1 : Int) ∈ y)) (fun _ R3 r3 => ?_) r2
        walk_at "z"
        refine Pk.inT hay ?_
        walk_at "z"
        exact r3
    · refine z_ifB (fun c => ?_) (fun c => ?_)
      · obtain ⟨B, x, n, rfl, e⟩ := kkB_t c
        have gk' := gk.old hy e
        simp only [List.map_append, List.map_cons, List.map_nil] at hR3 rb
        walk_at "z"
        refine z_augS ?_
        walk_at "z"
        refine z_ixL (.inl (.inl hR3)) (at_last _ _) ?_
        walk_at "z"
        refine z_ipI ?_
        refine z_setL hR3 (ixN_last _ _) ?_
        rw [set_last]
        walk_at "z"
        have tk := tk_new (o := .lst (((B.map Prod.snd).map natV) ++ [.int ((n : Int) + 1)])) hR3 (fun z => z)
        refine ⟨keep_new fR0 s3 kp_at, _, bs, _, rfl, gk', ?_, by rw [upd_ne nRG.symm]; exact hG3, ?_⟩
        · simp only [List.map_append, List.map_cons, List.map_nil]
          exact rb.tk tk
        · rw [upd_same]
          simp only [List.map_append, List.map_cons, List.map_nil]
          rfl
      · have gk' := gk.new hy (kkB_f c)
        walk_at "z"
        refine z_bmL (fun R q => by walk_at "z"; exact q) hG3 ?_
        walk_at "z"
        refine z_append hG3 (by rw [List.length_map]; omega) ?_
        walk_at "z"
        have hR4 : upd H3 G (.lst (bs.map V.ref ++ [.ref a])) R = some (.lst ((A'.map Prod.snd).map natV)) := by rw [upd_ne nRG]; exact hR3
        refine z_bmL (fun R q => by walk_at "z"; exact q) hR4 ?_
        walk_at "z"
        refine z_append hR4 (by rw [List.length_map, List.length_map]; omega) ?_
        walk_at "z"
        have tk1 := tk_new (o := .lst (bs.map V.ref ++ [.ref a])) hG3 (fun z => z)
        have tk2 := tk_new (o := .lst ((A'.map Prod.snd).map natV ++ [.int 0])) hR4 (fun z => z)
        have hay4 := seqT_tk tk2 (seqT_tk tk1 hay)
        refine ⟨keep_new fR0 (keep_new fG s3 kp_at) kp_at, _, bs ++ [a], _, rfl, gk', ?_, ?_, ?_⟩
        · rw [List.map_append]
          exact ((rb.tk tk1).tk tk2).snoc hay4
        · rw [upd_ne nRG.symm, upd_same, List.map_append]
          rfl
        · rw [upd_same]
          simp only [List.map_append, List.map_cons, List.map_nil]
          rfl
  · rintro σ' H3 ⟨s3, A', bs, u, rfl, gk, rb, hG3, hR3⟩
    rw [List.length_map, la] at gk
    rw [gk.fin] at rb hR3
    walk_at "z"
    intro t H4 f4 s4 h4
    exact q t G R bs H4 (s3.trans s4) h4 fG fR0 nRG.symm (s4 _ _ hG3) (rb.mono s4) (s4 _ _ hR3)
end
def lastV : Option Int → V
  | none => .non
  | some p => .int p
theorem lastV_eq (p : Int) (l : Option Int) : decide (V.int p = lastV l) = decide (l = some p) := by
  cases l with
  | none => simp [lastV]
  | some x =>
    simp only [lastV, Option.some.injEq, V.int.injEq]
    by_cases h : p = x
    · rw [decide_eq_true h, decide_eq_true h.symm]
    · rw [decide_eq_false h, decide_eq_false fun z => h z.symm]
theorem scal_last (p : Int) (l : Option Int) : scal (.int p) (lastV l) = true := by
  cases l <;> rfl
def sp_runs_of (K : PySem.W.Frag) : Sp := fun vs H Q _ => ∃ (L : Addr) (as : List Addr) (ks : List (List Int)), vs = [.ref L] ∧ H L = some (.lst (as.map V.ref)) ∧ RwAt K H as ks ∧ Rows ks ∧
  ∀ G ps H', Same H H' → H G = none → H' G = some (.lst (ps.map V.ref)) → RnAt H' ps (runsN ks) → Q (.ref G) H'
section
theorem ok_runs_of {P : Program} {w : World} {K : PySem.W.Frag} {mg : Str → Option Value} {base : Heap} {A : Nat → Addr} {D : Nat → FuncData} (T : Txt K mg A D base) : FnOk P w K mg base (L2.CX P w) 1 (A 25) (D 25) ["lines"] (sp_runs_of K) := by
  refine T.F_runs_of.okX sc_runs_of (fun vs H Q E h => ?_) (fun cdv A' outer s H vs Q E hr h => ?_)
  · obtain ⟨L, as, ks, rfl, _⟩ := h
    rfl
  obtain ⟨L, as, ks, rfl, hL, ra, rw', q⟩ := h
  refine ⟨_, (pss_cons (ps_set (i := 1) sc_runs_of.nd rfl (.inl rfl) (pe_lst pa_nil))
  (pss_cons (ps_set (i := 2) sc_runs_of.nd rfl (.inl rfl) pe_non)
  (pss_cons (ps_for (passes_of rfl) rfl (pi_enum (by rfl) T.z_enumerate (pa_cons (pv 0) pa_nil)) (pg_tup (by rfl) (pgs_cons (pg_name (i := 3) sc_runs_of.nd rfl (.inl rfl)) (pgs_cons (pg_name (i := 4) sc_runs_of.nd rfl (.inl rfl)) pgs_nil)))
  (pss_one (ps_for (passes_of rfl) rfl (pi_tup (pv 4)) (pg_name (i := 5) sc_runs_of.nd rfl (.inl rfl))
  (Evl.pss_cut (ps_if (pt_cmpR op_eq (pv 5) (pv 2) (nomark _))
  (pss_one (ps_asg (pe_tup (pa_cons (pe_ix ix_tup (pe_ix ix_list (pv 1) (pe_un un_neg pe_int) (fun _ _ => rfl)) pe_int (fun _ _ => rfl)) (pa_cons (pe_op op_add (pe_ix ix_tup (pe_ix ix_list (pv 1) (pe_un un_neg pe_int) (fun _ _ => rfl)) pe_int (fun _ _ => rfl)) pe_int) pa_nil))) (pg_sub (pv 1) (pe_un un_neg pe_int) set_list)))
  (pss_one (ps_expr (pe_bm PySem.F.plainAttrs_list PySem.F.slot_list_append PySem.F.type_list_append mt_append (pv 1) (pa_cons (pe_tup (pa_cons (pv 3) (pa_cons pe_int pa_nil))) pa_nil)))))
  (pss_one (ps_set (i := 2) sc_runs_of.nd rfl (.inl rfl) (pv 5)))))))
  (pss_one (ps_ret (pv 1)))))), ?_⟩
  walk_at "z"
  intro G H1 fG s1 hG
  walk_at "z"
  have la := ra.len
  refine Cw.z_forW (walk_enum (K := K) (a := L) (xs := as.map V.ref)) (fun S h => Cw.z_iEnum (fun S h => by walk_at "z"; exact h) (.inl (.inl (s1 _ _ hL))) h)
    (fun i σ' H' => Same H H' ∧ ∃ (ps : List Addr) (u3 u4 u5 : Option V), σ' = [some (.ref L), some (.ref G), some (lastV (RS ks i).2), u3, u4, u5] ∧ H' G = some (.lst (ps.map V.ref)) ∧ RnAt H' ps (RS ks i).1) ⟨s1, [], _, _, _, rfl, hG, trivial⟩ (fun i σ' H' _ h => .inl (.inl (h.1 _ _ hL))) ?_ ?_
  · rintro i x σ' H2 H3 hi ⟨s2, ps, u3, u4, u5, rfl, hG2, rn⟩ ⟨t, u, v, rfl, ft, rfl, hu, hv⟩
    rw [List.length_map, la] at hi
    have hv : (as.map V.ref)[i]? = some v := hv
    rw [List.getElem?_map] at hv
    obtain ⟨a, ha, e⟩ := Option.map_eq_some_iff.mp hv
    cases e
    cases hu
    obtain ⟨y, hy, hay⟩ := ra.get ha
    have s23 : Same H2 (upd H2 t (.tup [.int (i : Int), .ref a])) := same_upd ft
    have ht : upd H2 t (HO.tup [.int (i : Int), .ref a]) t = some (.tup [.int (i : Int), .ref a]) := upd_same
    generalize upd H2 t (HO.tup [.int (i : Int), .ref a]) = H3 at *
    refine z_gT (.inl (.inl ht)) rfl ?_
    have s3 := s2.trans s23
    have hG3 := s23 _ _ hG2
    have rn3 := rn.tk (TK.of s23)
    clear rn hG2
    walk_at "z"
    refine z_forTT (seqT_tk (TK.of s3) hay) (fun k σ' H' => Same H H' ∧ ∃ (ps : List Addr) (u5 : Option V), σ' = [some (.ref L), some (.ref G), some (lastV (RP ks i k).2), some (.int (i : Int)), some (.ref a), u5] ∧ H' G = some (.lst (ps.map V.ref)) ∧ RnAt H' ps (RP ks i k).1)
      ⟨s3, ps, _, by rw [rp_0]; rfl, hG3, by rw [rp_0]; exact rn3⟩ (fun k σ' H' _ h => seqT_tk (TK.of h.1) hay) ?_ ?_
    · rintro k x σ' H4 hx ⟨s4, ps, u5, rfl, hG4, rn4⟩
      rw [List.getElem?_map] at hx
      obtain ⟨p, hp, e⟩ := Option.map_eq_some_iff.mp hx
      cases e
      have hk := (List.getElem?_eq_some_iff.mp hp).1
      have wf := wf_RP ks i k hy (Nat.le_of_lt hk)
      have bound : px ks i + y.length ≤ 2304 := by
        have e : px ks i + y.length = px ks (i + 1) := by
          show _ = px ks i + (ks.getD i []).length
          rw [List.getD_eq_getElem?_getD, hy]
          rfl
        rw [e]
        exact rw'.px hi
      rw [rp_succ hy hp]
      generalize RP ks i k = s at *
      have lr := rn4.len
      walk_at "z"
      refine z_cut (fun σ' H' => Same H H' ∧ ∃ (ps : List Addr), σ' = [some (.ref L), some (.ref G), some (lastV s.2), some (.int (i : Int)), some (.ref a), some (.int p)] ∧ H' G = some (.lst (ps.map V.ref)) ∧ RnAt H' ps (rst i s p).1) ?_ ?_
      · walk_at "z"
        refine z_eq (scal_last p s.2) ?_
        rw [lastV_eq]
        walk_at "z"
        refine z_if (fun c => ?_) (fun c => ?_)
        · obtain ⟨rs', ⟨r, l⟩, e⟩ := snoc_of (wf.yes (by rw [c]; simp))
          have e2 : (rst i s p).1 = rs' ++ [(r, l + 1)] := by
            unfold rst
            dsimp only
            rw [if_pos c, e, bump_app]
          rw [e] at rn4
          obtain ⟨ps', b, rfl, rn', hb⟩ := rn4.unsnoc
          rw [e2]
          rw [List.map_append, List.map_singleton] at hG4
          walk_at "z"
          refine z_ixL (.inl (.inl hG4)) (at_last _ _) ?_
          walk_at "z"
          refine z_ixL (.inl (.inl hG4)) (at_last _ _) ?_
          walk_at "z"
          intro t2 H5 f5 s5 h5
          walk_at "z"
          have hG5 := s5 _ _ hG4
          refine z_setL hG5 (ixN_last _ _) ?_
          rw [set_last]
          walk_at "z"
          have tk := tk_new (o := .lst (ps'.map V.ref ++ [.ref t2])) hG5 (fun z => z)
          refine ⟨keep_new fG (s4.trans s5) kp_at, ps' ++ [t2], rfl, by rw [upd_same, List.map_append]; rfl, ?_⟩
          exact ((rn'.tk (TK.of s5)).tk tk).snoc (tk _ _ trivial h5)
        · have e2 : (rst i s p).1 = s.1 ++ [(i, 1)] := by
            unfold rst
            dsimp only
            rw [if_neg c]
          rw [e2]
          walk_at "z"
          refine z_bmL (fun R q => by walk_at "z"; exact q) hG4 ?_
          walk_at "z"
          intro t2 H5 f5 s5 h5
          walk_at "z"
          have hG5 := s5 _ _ hG4
          refine z_appendW hG5 (by have := wf.len; rw [List.length_map]; omega) ?_
          walk_at "z"
          have tk := tk_new (o := .lst (ps.map V.ref ++ [.ref t2])) hG5 (fun z => z)
          refine ⟨keep_new fG (s4.trans s5) kp_at, ps ++ [t2], rfl, by rw [upd_same, List.map_append]; rfl, ?_⟩
          exact ((rn4.tk (TK.of s5)).tk tk).snoc (tk _ _ trivial h5)
      · rintro σ' H5 ⟨s5, ps, rfl, hG5, rn5⟩
        walk_at "z"
        exact ⟨s5, ps, _, rfl, hG5, rn5⟩
    · rintro σ' H4 ⟨s4, ps, u5, rfl, hG4, rn4⟩
      rw [List.length_map, rp_end hy] at *
      exact ⟨s4, ps, _, _, _, rfl, hG4, rn4⟩
  · rintro σ' H2 ⟨s2, ps, u3, u4, u5, rfl, hG2, rn⟩
    rw [List.length_map, la] at rn
    walk_at "z"
    exact q G ps H2 s2 fG hG2 rn
end
def sp_repeat_count : Sp := fun vs H Q _ => ∃ (w : Int) (c : Nat), vs = [.int (c : Int), .int w] ∧ 0 ≤ w ∧ w ≤ 13 ∧ c ≤ 2304 ∧ NewI (rep w c) H Q
section
theorem ok_repeat_count {P : Program} {w : World} {K : PySem.W.Frag} {mg : Str → Option Value} {base : Heap} {A : Nat → Addr} {D : Nat → FuncData} (T : Txt K mg A D base) : FnOk P w K mg base (L2.CX P w) 3 (A 26) (D 26) ["count", "way"] (sp_repeat_count) := by
  refine T.F_repeat_count.okX sc_repeat_count (fun vs H Q E h => ?_) (fun cdv A' outer s H vs Q E hr h => ?_)
  · obtain ⟨w, c, rfl, _⟩ := h
    rfl
  obtain ⟨w, c, rfl, w0, w13, cm, q⟩ := h
  refine ⟨_, (pss_cons (ps_if (pt_cmpR op_eq (pv 0) pe_int (nomark _))
  (pss_one (ps_ret (pe_lst pa_nil)))
  pss_nil)
  (pss_cons (ps_if (pt_cmpR op_eq (pv 0) pe_int (nomark _))
  (pss_one (ps_ret (pe_lst (pa_cons (Z.pe_globE T.c_ONE_REPEAT) pa_nil))))
  pss_nil)
  (pss_one (ps_ret (pe_op op_cat (pe_lst (pa_cons (Z.pe_globE T.c_MANY_REPEATS) pa_nil)) (pe_call (ok_write_length T) (hr.mono (by decide)) (by rfl) T.m_write_length T.F_write_length.kp T.b_write_length .nil (passes_call (takes_of rfl rfl rfl rfl) (fun _ _ _ _ h => h)) (pa_cons (pv 0) (pa_cons (pv 1) pa_nil)))))))), ?_⟩
  walk_at "z"
  refine z_if (fun k => ?_) (fun k => ?_)
  · walk_at "z"
    intro p H1 f1 s1 e1
    refine q p H1 f1 s1 ?_
    unfold rep
    rw [if_pos (by omega)]
    exact e1
  walk_at "z"
  refine z_if (fun k2 => ?_) (fun k2 => ?_)
  · walk_at "z"
    intro p H1 f1 s1 e1
    refine q p H1 f1 s1 ?_
    unfold rep
    rw [if_neg (by omega), if_pos (by omega)]
    exact e1
  · walk_at "z"
    intro p H1 f1 s1 e1
    walk_at "z"
    refine ⟨w, (c : Int), rfl, ⟨w0, w13, by omega, by omega⟩, fun a H2 f2 s2 e2 => ?_⟩
    walk_at "z"
    have := nyb_len5 w c
    refine z_cat (s2 _ _ e1) e2 (by rw [List.length_map]; simp; omega) fun b H3 f3 s3 e3 => ?_
    refine q b H3 (fresh_of (s1.trans s2) f3) ((s1.trans s2).trans s3) ?_
    unfold rep
    rw [if_neg (by omega), if_neg (by omega)]
    exact e3
end
/-! ### steps of a range -/
theorem fitsL {i : Int} (h : -2000000 ≤ i) (h2 : i ≤ 2000000) : Builtin.Range.rangeFitsLong i = true := by
  unfold Builtin.Range.rangeFitsLong
  rw [Bool.and_eq_true]
  exact ⟨decide_eq_true (by omega), decide_eq_true (by omega)⟩
theorem rgC {len c n : Nat} (hc : 1 ≤ c) (hc2 : c ≤ 1000) (hl : len ≤ 1000000) (hn : n * c < len + c) (hn2 : len ≤ n * c) : RgC 0 (len : Int) (c : Int) n := by
  have hn3 : n ≤ n * c := Nat.le_mul_of_pos_right n hc
  have e : Builtin.Range.rangeSize 0 (len : Int) (c : Int) = (n : Int) := by
    unfold Builtin.Range.rangeSize
    rw [if_pos (by omega)]
    split
    · rename_i h
      obtain ⟨r, h1, h3⟩ : ∃ r, len - 1 = c * (n - 1) + r ∧ r < c := by
        refine ⟨len - 1 - c * (n - 1), ?_, ?_⟩
        · cases n with
          | zero => omega
          | succ n =>
            rw [Nat.succ_mul] at hn hn2
            rw [Nat.add_sub_cancel, Nat.mul_comm c n]
            omega
        · cases n with
          | zero => omega
          | succ n =>
            rw [Nat.succ_mul] at hn hn2
            rw [Nat.add_sub_cancel, Nat.mul_comm c n]
            omega
      have h2 : (len - 1) / c = n - 1 := by
        rw [h1, Nat.mul_add_div hc, Nat.div_eq_of_lt h3]
        rfl
      have h4 : ((len : Int) - 0 - 1) / (c : Int) = ((n - 1 : Nat) : Int) := by
        rw [← h2, Int.natCast_ediv]
        congr 1
        omega
      rw [h4]
      cases n with
      | zero => omega
      | succ n => omega
    · rename_i h
      have : len = 0 := by omega
      subst this
      cases n with
      | zero => rfl
      | succ n =>
        rw [Nat.succ_mul] at hn
        omega
  refine ⟨by omega, by omega, ?_, e⟩
  unfold Builtin.Range.small
  rw [e, if_pos (by omega), fitsL (by omega) (by omega), fitsL (by omega) (by omega), fitsL (by omega) (by omega), fitsL (by omega) (by omega), fitsL (by omega) (by omega)]
  simp
theorem z_rng3 {ta : TA} {σ : L2.St} {H : Hp} {R : It → Hp → Prop} {len c n : Nat} (hc : 1 ≤ c) (hc2 : c ≤ 1000) (hl : len ≤ 1000000) (hn : n * c < len + c) (hn2 : len ≤ n * c) (ha : ∀ S : List V → Hp → Prop, S [.int 0, .int (len : Int), .int (c : Int)] H → ta σ H S) (q : R (Itc 0 c n) H) : iRng3 ta σ H R :=
  ha _ ⟨0, len, c, n, rfl, rgC hc hc2 hl hn hn2, q⟩
/-- four pixels, zeros behind the end -/
theorem four_at (P : List Int) (a : Nat) {j : Nat} (hj : j < 4) : (cutV (P.map V.int) (some (a : Int)) (some ((a : Int) + 4)) ++ [V.int 0, V.int 0, V.int 0, V.int 0])[j]? = some (V.int (P.getD (a + j) 0)) := by
  have e : cutV (P.map V.int) (some (a : Int)) (some ((a : Int) + 4)) = ((P.drop a).take 4).map V.int := by
    unfold cutV
    rw [show ((a : Int) + 4) = ((a + 4 : Nat) : Int) by omega, HT.sIx_nat, HT.sIx_nat, List.length_map, ← List.map_drop, ← List.map_take]
    rcases Nat.lt_or_ge a P.length with h | h
    · rw [Nat.min_eq_left (by omega : a ≤ P.length)]
      rcases Nat.lt_or_ge (a + 4) P.length with h2 | h2
      · rw [Nat.min_eq_left (by omega : a + 4 ≤ P.length), show a + 4 - a = 4 by omega]
      · rw [Nat.min_eq_right h2, List.take_of_length_le (by rw [List.length_drop]; omega), List.take_of_length_le (by rw [List.length_drop]; omega)]
    · rw [List.drop_of_length_le (by omega), List.drop_of_length_le (by omega), List.take_nil, List.take_nil]
  rw [e, List.getD_eq_getElem?_getD]
  rcases Nat.lt_or_ge (a + j) P.length with h | h
  · rw [List.getElem?_append_left (by rw [List.length_map, List.length_take, List.length_drop]; omega), List.getElem?_map, List.getElem?_take_of_lt hj, List.getElem?_drop, List.getElem?_eq_getElem h]
    rfl
  · rw [List.getElem?_append_right (by rw [List.length_map, List.length_take, List.length_drop]; omega), List.getElem?_eq_none h]
    generalize hk : j - (((P.drop a).take 4).map V.int).length = k
    have : k < 4 := by omega
    match k, this with
    | 0, _ => rfl
    | 1, _ => rfl
    | 2, _ => rfl
    | 3, _ => rfl
def sp_packed_bits (K : PySem.W.Frag) : Sp := fun vs H Q _ => ∃ (L : Addr) (as : List Addr) (rs : List (List Int)), vs = [.ref L] ∧ H L = some (.lst (as.map V.ref)) ∧ RwAt K H as rs ∧ Rows rs ∧ NewI (bitsN rs.flatten) H Q
section
theorem ok_packed_bits {P : Program} {w : World} {K : PySem.W.Frag} {mg : Str → Option Value} {base : Heap} {A : Nat → Addr} {D : Nat → FuncData} (T : Txt K mg A D base) : FnOk P w K mg base (L2.CX P w) 1 (A 22) (D 22) ["lines"] (sp_packed_bits K) := by
  refine T.F_packed_bits.okX sc_packed_bits (fun vs H Q E h => ?_) (fun cdv A' outer s H vs Q E hr h => ?_)
  · obtain ⟨L, as, rs, rfl, _⟩ := h
    rfl
  obtain ⟨L, as, rs, rfl, hL, ra, rw', q⟩ := h
  refine ⟨_, (pss_cons (ps_setLc2 (i := 1) (own := [("line", 2), ("pixel", 3)]) (vs1 := [3]) (g := gName 2) (g1 := gName 3) (tt := tYes) (tt1 := tYes) rfl sc_packed_bits.nd rfl rfl (sw_true rfl rfl rfl (by decide +kernel)) (pi_list (pv 0)) (blkOk_by (N := ["lines", "pixels", "line", "pixel", "nybbles", "at", "four"]) (sc := defScope s_packed_bits) (by decide +kernel)) (by decide) (fun _ _ _ _ _ => pg_name (i := 2) sc_packed_bits.nd rfl (Or.inl rfl)) (fun _ _ _ _ _ => pts_nil) (fun _ _ _ _ _ => (show PI _ _ _ (iTup K _) from pi_tup (pv 2))) (fun _ _ _ _ _ => pg_name (i := 3) sc_packed_bits.nd rfl (Or.inl rfl)) (fun _ _ _ _ _ => pts_nil) (fun _ _ _ _ _ => (pv 3)))
  (pss_cons (ps_set (i := 4) sc_packed_bits.nd rfl (.inl rfl) (pe_lst pa_nil))
  (pss_cons (ps_for (passes_of rfl) rfl (pi_range3 (by rfl) T.z_range (pa_cons pe_int (pa_cons (pe_callB Z.c_len (by rfl) T.z_len (by decide +kernel) (pa_cons (pv 1) pa_nil)) (pa_cons (Z.pe_globE T.c_NYBBLE_BITS) pa_nil)))) (pg_name (i := 5) sc_packed_bits.nd rfl (.inl rfl))
  (pss_cons (ps_set (i := 6) sc_packed_bits.nd rfl (.inl rfl) (pe_op op_cat (pe_slice sl_list (pv 1) (po_some (pv 5)) (po_some (pe_op op_add (pv 5) (Z.pe_globE T.c_NYBBLE_BITS)))) (pe_op op_rep (pe_lst (pa_cons pe_int pa_nil)) (Z.pe_globE T.c_NYBBLE_BITS))))
  (pss_one (ps_expr (pe_bm PySem.F.plainAttrs_list PySem.F.slot_list_append PySem.F.type_list_append mt_append (pv 4) (pa_cons (pe_op op_add (pe_op op_add (pe_op op_add (pe_op op_mul pe_int (pe_ix ix_list (pv 6) pe_int (fun _ _ => rfl))) (pe_op op_mul pe_int (pe_ix ix_list (pv 6) pe_int (fun _ _ => rfl)))) (pe_op op_mul pe_int (pe_ix ix_list (pv 6) pe_int (fun _ _ => rfl)))) (pe_ix ix_list (pv 6) pe_int (fun _ _ => rfl))) pa_nil))))))
  (pss_one (ps_ret (pv 4)))))), ?_⟩
  have la := ra.len
  have fl := rw'.flat
  walk_at "z"
  refine Li.z_lc2 (H := H) walk_list (fun R q => ⟨L, rfl, ⟨_, .inl (.inl hL)⟩, q⟩)
    (fun i D acc H' => Same H H' ∧ H D = none ∧ acc = ((rs.take i).flatten).map V.int)
    (fun D H' f s _ => ⟨s, f, rfl⟩) (fun i D acc H' h => .inl (.inl (h.1 _ _ hL))) ?_ ?_
  · rintro i x D acc H' H5 hD hi hA ⟨s', fD, rfl⟩ ⟨rfl, hx⟩
    rw [List.getElem?_map] at hx
    obtain ⟨a, ha, e⟩ := Option.map_eq_some_iff.mp hx
    cases e
    obtain ⟨y, hy, hay⟩ := ra.get ha
    have bd : (rs.take i).flatten.length + y.length ≤ 2304 := by
      have : (rs.take (i + 1)).flatten.length ≤ rs.flatten.length := by
        conv => rhs; rw [← List.take_append_drop (i + 1) rs, List.flatten_append, List.length_append]
        omega
      have e1 : (rs.take (i + 1)).flatten = (rs.take i).flatten ++ y := by
        rw [List.take_add_one, hy, List.flatten_append]
        simp
      rw [e1, List.length_append] at this
      omega
    refine ⟨rfl, ?_⟩
    refine ⟨.ref a, rfl, a, rfl, ⟨_, seqT_tk (TK.of s') hay⟩, ?_⟩
    refine Li.z_inner walk_tup (fun j acc H' => Same H H' ∧ acc = ((rs.take i).flatten ++ y.take j).map V.int) hA
      ⟨s', by simp⟩ (fun j acc H' h => seqT_tk (TK.of h.1) hay) ?_ ?_
    · rintro j z acc H6 H7 hj hA6 ⟨s6, rfl⟩ ⟨rfl, hz⟩
      rw [List.getElem?_map] at hz
      obtain ⟨p, hp, e⟩ := Option.map_eq_some_iff.mp hz
      cases e
      have hj' := (List.getElem?_eq_some_iff.mp hp).1
      refine ⟨rfl, ?_⟩
      walk_at "z"
      refine Li.z_inB hA6 (by rw [List.length_map, List.length_append, List.length_take]; omega) fun H9 h9 e9 => ⟨fun x o e => ?_, ?_⟩
      · rw [e9 _ (ne_of_none e fD)]
        exact s6 _ _ e
      · rw [List.take_add_one, hp]
        simp
    · rintro acc H6 hA6 ⟨s6, rfl⟩
      rw [List.length_map, List.take_length] at hA6
      refine ⟨_, hA6, s6, fD, ?_⟩
      rw [List.take_add_one, hy, List.flatten_append]
      simp
  rintro D acc H1 fD hA ⟨s1, _, rfl⟩
  rw [List.length_map, la, List.take_length] at hA
  obtain ⟨fl1, fl2⟩ := fl
  generalize rs.flatten = P at *
  walk_at "z"
  intro N H2 fN s2 hN
  walk_at "z"
  have fN0 := fresh_of s1 fN
  have hl : ((P.length + 3) / 4) * 4 < P.length + 4 := by omega
  have hl2 : P.length ≤ ((P.length + 3) / 4) * 4 := by omega
  refine Cw.z_forW (walk_rangeC (lo := 0) (c := ((4 : Nat) : Int)) (n := (P.length + 3) / 4)) (fun R h => z_rng3 (by decide) (by decide) (by omega) hl hl2 (fun S h => ?_) h)
    (fun i σ' H' => Same H H' ∧ H' D = some (.lst (P.map V.int)) ∧ ∃ u2 u3 u5 u6 : Option V, σ' = [some (.ref L), some (.ref D), u2, u3, some (.ref N), u5, u6] ∧ H' N = some (.lst (((List.range i).map fun k => 8 * P.getD (4 * k) 0 + 4 * P.getD (4 * k + 1) 0 + 2 * P.getD (4 * k + 2) 0 + P.getD (4 * k + 3) 0).map V.int))) ⟨s1.trans s2, s2 _ _ hA, _, _, _, _, rfl, hN⟩ (fun _ _ _ _ _ => trivial) ?_ ?_
  · walk_at "z"
    refine z_lenL (.inl (.inl (s2 _ _ hA))) ?_
    rw [List.length_map]
    walk_at "z"
    exact h
  · rintro i x σ' H3 H4 hi ⟨s3, hD3, u2, u3, u5, u6, rfl, hN3⟩ ⟨rfl, ex⟩
    have ex : x = .int ((4 * i : Nat) : Int) := by
      rw [ex]
      show V.int (0 + (i : Int) * ((4 : Nat) : Int)) = _
      congr 1
      omega
    subst ex
    walk_at "z"
    have f4 : ∀ j, j < 4 → _ := fun j hj => four_at P (4 * i) (j := j) hj
    have nND : N ≠ D := (ne_of_none hA fN).symm
    refine ⟨_, rfl, ?_⟩
    walk_at "z"
    have lc := cutV_length (P.map V.int) (some ((4 * i : Nat) : Int)) (some (((4 * i : Nat) : Int) + 4))
    rw [List.length_map] at lc
    refine ⟨_, rfl, ?_⟩
    refine z_slL (.inl (.inl hD3)) rfl fun a H5 f5 s5 h5 => ?_
    walk_at "z"
    intro b H6 f6 s6 h6
    walk_at "z"
    refine z_rep 4 h6 rfl (by decide) fun c H7 f7 s7 h7 => ?_
    have hN7 := (s5.trans (s6.trans s7)) _ _ hN3
    generalize cutV (P.map V.int) (some ((4 * i : Nat) : Int)) (some (((4 * i : Nat) : Int) + 4)) = ct at *
    refine Pk.z_catW ((s6.trans s7) _ _ h5) h7 (by rw [List.length_replicate]; omega) fun d H8 f8 s8 h8 => ?_
    walk_at "z"
    have hN8 := s8 _ _ hN7
    refine z_bmL (fun R q => by walk_at "z"; exact q) hN8 ?_
    walk_at "z"
    have g : ∀ k, P.getD k 0 = 0 ∨ P.getD k 0 = 1 := fun k => by
      rw [List.getD_eq_getElem?_getD]
      cases e : P[k]? with
      | none => exact .inl rfl
      | some p => exact fl2 p (List.mem_of_getElem? e)
    have g0 := g (4 * i)
    have g1 := g (4 * i + 1)
    have g2 := g (4 * i + 2)
    have g3 := g (4 * i + 3)
    have a0 := f4 0 (by decide)
    have a1 := f4 1 (by decide)
    have a2 := f4 2 (by decide)
    have a3 := f4 3 (by decide)
    clear f4
    rw [Nat.add_zero] at a0
    have nw : ((List.range (i + 1)).map fun k => 8 * P.getD (4 * k) 0 + 4 * P.getD (4 * k + 1) 0 + 2 * P.getD (4 * k + 2) 0 + P.getD (4 * k + 3) 0) = ((List.range i).map fun k => 8 * P.getD (4 * k) 0 + 4 * P.getD (4 * k + 1) 0 + 2 * P.getD (4 * k + 2) 0 + P.getD (4 * k + 3) 0) ++ [8 * P.getD (4 * i) 0 + 4 * P.getD (4 * i + 1) 0 + 2 * P.getD (4 * i + 2) 0 + P.getD (4 * i + 3) 0] := by
      rw [List.range_succ, List.map_append]
      rfl
    rw [nw]
    generalize P.getD (4 * i) 0 = p0 at *
    generalize P.getD (4 * i + 1) 0 = p1 at *
    generalize P.getD (4 * i + 2) 0 = p2 at *
    generalize P.getD (4 * i + 3) 0 = p3 at *
    refine z_ixL (.inl (.inl h8)) (atI_nat a0) ?_
    refine z_I (Or.inl ⟨by decide, by decide⟩) ?_
    walk_at "z"
    refine z_ixL (.inl (.inl h8)) (atI_nat a1) ?_
    refine z_I (Or.inl ⟨by decide, by decide⟩) ?_
    walk_at "z"
    refine z_ixL (.inl (.inl h8)) (atI_nat a2) ?_
    refine z_I (Or.inl ⟨by decide, by decide⟩) ?_
    walk_at "z"
    refine z_ixL (.inl (.inl h8)) (atI_nat a3) ?_
    walk_at "z"
    refine z_appendW hN8 (by rw [List.length_map, List.length_map, List.length_range]; omega) ?_
    walk_at "z"
    have s08 := s3.trans ((s5.trans (s6.trans s7)).trans s8)
    refine ⟨keep_new fN0 s08 kp_at, ?_, _, _, _, _, rfl, ?_⟩
    · rw [upd_ne nND.symm]
      exact ((s5.trans (s6.trans s7)).trans s8) _ _ hD3
    · rw [upd_same, List.map_append]
      rfl
  · rintro σ' H3 ⟨s3, hD3, u2, u3, u5, u6, rfl, hN3⟩
    walk_at "z"
    exact q N H3 fN0 s3 hN3
end
def sp_packed_runs (K : PySem.W.Frag) : Sp := fun vs H Q _ => ∃ (L : Addr) (as : List Addr) (rs : List (List Int)) (w : Int), vs = [.ref L, .int w] ∧ H L = some (.lst (as.map V.ref)) ∧ RwAt K H as rs ∧ Rows rs ∧ 0 ≤ w ∧ w ≤ 13 ∧ NewI (packR w rs) H Q
section
theorem ok_packed_runs {P : Program} {w : World} {K : PySem.W.Frag} {mg : Str → Option Value} {base : Heap} {A : Nat → Addr} {D : Nat → FuncData} (T : Txt K mg A D base) : FnOk P w K mg base (L2.CX P w) 4 (A 23) (D 23) ["lines", "way"] (sp_packed_runs K) := by
  refine T.F_packed_runs.okX sc_packed_runs (fun vs H Q E h => ?_) (fun cdv A' outer s H vs Q E hr h => ?_)
  · obtain ⟨L, as, rs, w, rfl, _⟩ := h
    rfl
  obtain ⟨L, as, rs, w, rfl, hL, ra, rw', w0, w13, q⟩ := h
  refine ⟨_, (pss_cons (ps_asg (pe_call (ok_without_repetitions T) (hr.mono (by decide)) (by rfl) T.m_without_repetitions T.F_without_repetitions.kp T.b_without_repetitions .nil (passes_call (takes_of rfl rfl rfl rfl) (fun _ _ _ _ h => h)) (pa_cons (pv 0) pa_nil)) (pg_tup (by rfl) (pgs_cons (pg_name (i := 2) sc_packed_runs.nd rfl (.inl rfl)) (pgs_cons (pg_name (i := 3) sc_packed_runs.nd rfl (.inl rfl)) pgs_nil))))
  (pss_cons (ps_set (i := 4) sc_packed_runs.nd rfl (.inl rfl) (pe_lst pa_nil))
  (pss_cons (ps_for (passes_of rfl) rfl (pi_list (pe_call (ok_runs_of T) (hr.mono (by decide)) (by rfl) T.m_runs_of T.F_runs_of.kp T.b_runs_of .nil (passes_call (takes_of rfl rfl rfl rfl) (fun _ _ _ _ h => h)) (pa_cons (pv 2) pa_nil))) (pg_tup (by rfl) (pgs_cons (pg_name (i := 5) sc_packed_runs.nd rfl (.inl rfl)) (pgs_cons (pg_name (i := 6) sc_packed_runs.nd rfl (.inl rfl)) pgs_nil)))
  (pss_cons (ps_expr (pe_bm PySem.F.plainAttrs_list PySem.F.slot_list_extend PySem.F.type_list_extend mt_extend (pv 4) (pa_cons (pe_call (ok_repeat_count T) (hr.mono (by decide)) (by rfl) T.m_repeat_count T.F_repeat_count.kp T.b_repeat_count .nil (passes_call (takes_of rfl rfl rfl rfl) (fun _ _ _ _ h => h)) (pa_cons (pe_ix ix_list (pv 3) (pv 5) (fun _ _ => rfl)) (pa_cons (pv 1) pa_nil))) pa_nil)))
  (pss_cons (ps_asg pe_int (pg_sub (pv 3) (pv 5) set_list))
  (pss_one (ps_expr (pe_bm PySem.F.plainAttrs_list PySem.F.slot_list_extend PySem.F.type_list_extend mt_extend (pv 4) (pa_cons (pe_call (ok_write_length T) (hr.mono (by decide)) (by rfl) T.m_write_length T.F_write_length.kp T.b_write_length .nil (passes_call (takes_of rfl rfl rfl rfl) (fun _ _ _ _ h => h)) (pa_cons (pv 6) (pa_cons (pv 1) pa_nil))) pa_nil)))))))
  (pss_one (ps_ret (pv 4)))))), ?_⟩
  walk_at "z"
  refine ⟨L, as, rs, rfl, hL, ra, rw'.n, fun t G R bs H1 s1 ht fG fR nGR hG rb hR => ?_⟩
  walk_at "z"
  have rk := rw'.ks
  have rr := rw'.reps
  have hlen := groups_len rs
  have hn := rw'.n
  unfold packR at q
  have lreps : ((groups rs).map Prod.snd).length = ((groups rs).map Prod.fst).length := by rw [List.length_map, List.length_map]
  generalize (groups rs).map Prod.fst = ks at *
  generalize (groups rs).map Prod.snd = reps at *
  intro N H2 fN s2 hN
  walk_at "z"
  have fN0 := fresh_of s1 fN
  have s02 := s1.trans s2
  have hR2 := s2 _ _ hR
  have nNR : N ≠ R := (ne_of_none hR fN).symm
  refine ⟨G, bs, ks, rfl, s2 _ _ hG, rb.mono s2, rk, fun P ps H3 s3 fP hP rn => ?_⟩
  obtain ⟨rbd, rlen⟩ := rk.runs
  have lrn := rn.len
  have nPN : P ≠ N := (ne_of_none hN fP).symm
  have nPR : P ≠ R := (ne_of_none hR2 fP).symm
  have fP0 : H P = none := fresh_of s02 fP
  generalize runsN ks = rl at *
  refine z_forL (fun R q => q) (.inl (.inl hP)) (fun i σ' H' => Same H H' ∧ H' P = some (.lst (ps.map V.ref)) ∧ RnAt H' ps rl ∧ (∃ u5 u6, σ' = [some (.ref L), some (.int w), some (.ref G), some (.ref R), some (.ref N), u5, u6]) ∧ H' N = some (.lst ((EC w reps (rl.take i)).1.map V.int)) ∧ H' R = some (.lst ((EC w reps (rl.take i)).2.map natV)))
    ⟨s02.trans s3, hP, rn, ⟨_, _, rfl⟩, s3 _ _ hN, s3 _ _ hR2⟩ (fun i σ' H' _ h => .inl (.inl h.2.1)) ?_ ?_
  · rintro i x σ' H4 hx ⟨s4, hP4, rn4, ⟨u5, u6, rfl⟩, hN4, hR4⟩
    rw [List.getElem?_map] at hx
    obtain ⟨a, ha, e⟩ := Option.map_eq_some_iff.mp hx
    cases e
    obtain ⟨y, hy, hay⟩ := rn4.get ha
    obtain ⟨r, l⟩ := y
    have et : rl.take (i + 1) = rl.take i ++ [(r, l)] := by rw [List.take_add_one, hy]; rfl
    have hb := rbd (r, l) (List.mem_of_getElem? hy)
    dsimp only at hb hay
    have hi := (List.getElem?_eq_some_iff.mp hy).1
    have sz := ec_size w reps (rl.take i)
    have lc := ec_len w reps (rl.take i)
    have mc := ec_mem w reps (rl.take i)
    rw [List.length_take] at sz
    rw [et, ec_app]
    unfold est
    dsimp only
    have hr : r < (EC w reps (rl.take i)).2.length := by omega
    have hc : (EC w reps (rl.take i)).2[r]? = some ((EC w reps (rl.take i)).2.getD r 0) := by
      rw [List.getD_eq_getElem?_getD, List.getElem?_eq_getElem hr]
      rfl
    have hcb : (EC w reps (rl.take i)).2.getD r 0 ≤ 2304 := by
      rcases mc _ (List.mem_of_getElem? hc) with z | z
      · omega
      · have := rr _ z
        omega
    generalize EC w reps (rl.take i) = s at *
    obtain ⟨out, cur⟩ := s
    dsimp only at *
    generalize cur.getD r 0 = c at *
    walk_at "z"
    refine z_bmL (fun R q => by walk_at "z"; exact q) hN4 ?_
    walk_at "z"
    refine z_ixL (.inl (.inl hR4)) (v := natV c) (atI_nat (by rw [List.getElem?_map, hc]; rfl)) ?_
    walk_at "z"
    refine ⟨w, c, rfl, w0, w13, hcb, fun p H5 f5 s5 h5 => ?_⟩
    have l6 := rep_len6 w c
    have l5 := nyb_len5 w l
    have hN5 := s5 _ _ hN4
    walk_at "z"
    refine z_extendW hN5 h5 (by rw [List.length_map, List.length_map]; omega) ?_
    walk_at "z"
    have nNR' := nNR
    have hR6 : upd H5 N (.lst (out.map V.int ++ (rep w c).map V.int)) R = some (.lst (cur.map natV)) := by rw [upd_ne nNR.symm]; exact s5 _ _ hR4
    refine z_setL hR6 (k := r) (by unfold ixN; rw [List.length_map]; simp; omega) ?_
    walk_at "z"
    have hN7 : upd (upd H5 N (.lst (out.map V.int ++ (rep w c).map V.int))) R (.lst ((cur.map natV).set r (.int 0))) N = some (.lst (out.map V.int ++ (rep w c).map V.int)) := by rw [upd_ne nNR, upd_same]
    refine z_bmL (fun R q => by walk_at "z"; exact q) hN7 ?_
    walk_at "z"
    have tk1 : TK H5 _ := tk_new (o := .lst (out.map V.int ++ (rep w c).map V.int)) hN5 (fun z => z)
    have tk2 := tk_new (o := .lst ((cur.map natV).set r (.int 0))) hR6 (fun z => z)
    have hR7 : upd (upd H5 N (.lst (out.map V.int ++ (rep w c).map V.int))) R (.lst ((cur.map natV).set r (.int 0))) R = some (.lst ((cur.map natV).set r (.int 0))) := upd_same
    have sm7 : Same H (upd (upd H5 N (.lst (out.map V.int ++ (rep w c).map V.int))) R (.lst ((cur.map natV).set r (.int 0)))) := keep_new fR (keep_new fN0 (s4.trans s5) kp_at) kp_at
    have hP7 : upd (upd H5 N (.lst (out.map V.int ++ (rep w c).map V.int))) R (.lst ((cur.map natV).set r (.int 0))) P = some (.lst (ps.map V.ref)) := by rw [upd_ne nPR, upd_ne nPN]; exact s5 _ _ hP4
    have rn7 := ((rn4.tk (TK.of s5)).tk tk1).tk tk2
    generalize upd (upd H5 N (.lst (out.map V.int ++ (rep w c).map V.int))) R (.lst ((cur.map natV).set r (.int 0))) = H7 at *
    refine ⟨w, (l : Int), rfl, ⟨w0, w13, by omega, by omega⟩, fun p2 H8 f8 s8 h8 => ?_⟩
    have hN8 := s8 _ _ hN7
    walk_at "z"
    refine z_extendW hN8 h8 (by rw [List.length_append, List.length_map, List.length_map, List.length_map]; omega) ?_
    walk_at "z"
    have tk3 := tk_new (o := .lst (out.map V.int ++ (rep w c).map V.int ++ (nyb w l).map V.int)) hN8 (fun z => z)
    refine ⟨keep_new fN0 (sm7.trans s8) kp_at, by rw [upd_ne nPN]; exact s8 _ _ hP7, (rn7.tk (TK.of s8)).tk tk3, ⟨_, _, rfl⟩, ?_, ?_⟩
    · rw [upd_same, List.map_append, List.map_append]
    · rw [upd_ne nNR.symm, s8 _ _ hR7, List.map_set]
      rfl
  · rintro σ' H4 ⟨s4, hP4, rn4, ⟨u5, u6, rfl⟩, hN4, hR4⟩
    rw [List.length_map, lrn, List.take_length] at hN4
    walk_at "z"
    exact q N H4 fN0 s4 hN4
end
/-- rows as they are given: a tuple or a list of tuples or lists -/
def RowsIn (K : PySem.W.Frag) (H : Hp) (p : Addr) (rs : List (List Int)) : Prop := ∃ as : List Addr, (SqT K H p (as.map V.ref) ∨ SqL K H p (as.map V.ref)) ∧ as.length = rs.length ∧ ∀ (i : Nat) (a : Addr), as[i]? = some a → ∃ x, rs[i]? = some x ∧ (SqT K H a (x.map V.int) ∨ SqL K H a (x.map V.int))
theorem pk_walk {K : PySem.W.Frag} {H : Hp} {p : Addr} {xs : List V} {P : Prop} (hp : SqT K H p xs ∨ SqL K H p xs)
    (k : ∀ (J : It) (G : Hp → Prop), Walk J xs.length G (YAt xs) → (∀ H', Same H H' → G H') → (∀ (j : Nat) (σ : L2.St) (R : It → Hp → Prop), σ[j]? = some (some (.ref p)) → R J H → Pk.iOr2 (iTup K (tVar j)) (iList K (tVar j)) σ H R) → P) : P := by
  rcases hp with hp | hp
  · exact k _ _ (walk_tup (K := K) (a := p)) (fun H' s => seqT_tk (TK.of s) hp) fun j σ R e q => .inl ⟨_, e, p, rfl, ⟨xs, hp⟩, q⟩
  · exact k _ _ (walk_list (K := K) (a := p)) (fun H' s => s.seq hp) fun j σ R e q => .inr ⟨_, e, p, rfl, ⟨xs, hp⟩, q⟩
def sp_pack (K : PySem.W.Frag) : Sp := fun vs H Q _ => ∃ (p : Addr) (rs : List (List Int)) (w : Int), vs = [.ref p, .int w] ∧ RowsIn K H p rs ∧ Rows rs ∧ 0 ≤ w ∧ w ≤ 14 ∧ NewI (packN w rs) H Q
section
theorem ok_pack {P : Program} {w : World} {K : PySem.W.Frag} {mg : Str → Option Value} {base : Heap} {A : Nat → Addr} {D : Nat → FuncData} (T : Txt K mg A D base) : FnOk P w K mg base (L2.CX P w) 5 (A 19) (D 19) ["rows", "way"] (sp_pack K) := by
  refine T.F_pack.okX sc_pack (fun vs H Q E h => ?_) (fun cdv A' outer s H vs Q E hr h => ?_)
  · obtain ⟨p, rs, w, rfl, _⟩ := h
    rfl
  obtain ⟨p, rs, w, rfl, ri, rw', w0, w14, q⟩ := h
  refine ⟨_, (pss_cons (ps_setLc (i := 2) (own := [("row", 3)]) (g := gName 3) (tt := tYes) rfl sc_pack.nd rfl rfl (sw_true rfl rfl rfl (by decide +kernel)) (Pk.pi_or2 (pi_tup (pv 0)) (pi_list (pv 0))) (blkOk_by (N := ["rows", "way", "lines", "row"]) (sc := defScope s_pack) (by decide +kernel)) (fun _ _ _ _ _ => pg_name (i := 3) sc_pack.nd rfl (Or.inl rfl)) (fun _ _ _ _ _ => pts_nil) (fun _ _ _ _ _ => (pe_callTy (show CallR _ (.type "tuple") (Z.rTupOf K) from Z.c_tupOf) (by rfl) T.z_tuple (by decide +kernel) (pa_cons (pv 3) pa_nil))))
  (pss_cons (ps_if (pt_cmpR op_eq (pv 1) (Z.pe_globE T.c_BITS_WAY) (nomark _))
  (pss_one (ps_ret (pe_call (ok_packed_bits T) (hr.mono (by decide)) (by rfl) T.m_packed_bits T.F_packed_bits.kp T.b_packed_bits .nil (passes_call (takes_of rfl rfl rfl rfl) (fun _ _ _ _ h => h)) (pa_cons (pv 2) pa_nil))))
  pss_nil)
  (pss_one (ps_ret (pe_call (ok_packed_runs T) (hr.mono (by decide)) (by rfl) T.m_packed_runs T.F_packed_runs.kp T.b_packed_runs .nil (passes_call (takes_of rfl rfl rfl rfl) (fun _ _ _ _ h => h)) (pa_cons (pv 2) (pa_cons (pv 1) pa_nil))))))), ?_⟩
  obtain ⟨as, hp, la, ri⟩ := ri
  walk_at "z"
  refine pk_walk hp fun J G wk hG hi => ?_
  refine Cw.z_lcW wk (fun R q => hi 0 _ R rfl q) (fun i D acc H' => Same H H' ∧ H D = none ∧ ∃ as' : List Addr, acc = as'.map V.ref ∧ RwAt K H' as' (rs.take i))
    (fun D H' f s _ => ⟨s, f, [], rfl, trivial⟩) (fun i D acc H' h => hG _ h.1) ?_ ?_
  · rintro i x D acc H' H2 hi' hl hD ⟨s', fD, as', rfl, rw2⟩ ⟨rfl, hx⟩
    rw [List.getElem?_map] at hx
    obtain ⟨a, ha, e⟩ := Option.map_eq_some_iff.mp hx
    cases e
    obtain ⟨y, hy, hay⟩ := ri i a ha
    have et : rs.take (i + 1) = rs.take i ++ [y] := by rw [List.take_add_one, hy]; rfl
    refine ⟨rfl, ?_⟩
    walk_at "z"
    have wb := rw'.n
    rw [List.length_map] at hl hi'
    rcases hay with hay | hay
    · refine z_tupOfT (seqT_tk (TK.of s') hay) ?_
      refine z_lcB hD (by rw [List.length_map]; exact hl) (by omega) fun H3 hD3 k3 e3 => ⟨fun b o e => ?_, fD, as' ++ [a], by rw [List.map_append]; rfl, ?_⟩
      · rw [e3 b (ne_of_none e fD)]
        exact s' _ _ e
      · have tk := TK.kp k3 hD (fun z => z)
        rw [et]
        exact (rw2.tk tk).snoc (seqT_tk tk (seqT_tk (TK.of s') hay))
    · refine z_tupOf (s'.seq hay) fun b H3 f3 s3 h3 => ?_
      refine z_lcB (s3 _ _ hD) (by rw [List.length_map]; exact hl) (by omega) fun H4 hD4 k4 e4 => ⟨fun b o e => ?_, fD, as' ++ [b], by rw [List.map_append]; rfl, ?_⟩
      · rw [e4 b (ne_of_none e fD)]
        exact s3 _ _ (s' _ _ e)
      · have tk := TK.kp k4 (s3 _ _ hD) (fun z => z)
        rw [et]
        exact ((rw2.tk (TK.of s3)).tk tk).snoc (.inl (.inl (tk _ _ trivial h3)))
  rintro D acc H1 fD hl hD ⟨s1, _, as', rfl, rw2⟩
  rw [List.length_map, la, List.take_length] at rw2
  unfold packN at q
  walk_at "z"
  refine z_if (fun c => ?_) (fun c => ?_)
  · rw [if_pos c] at q
    walk_at "z"
    exact ⟨D, as', rs, rfl, hD, rw2, rw', fun a H2 f2 s2 h2 => q a H2 (fresh_of s1 f2) (s1.trans s2) h2⟩
  · rw [if_neg c] at q
    walk_at "z"
    exact ⟨D, as', rs, w, rfl, hD, rw2, rw', w0, by omega, fun a H2 f2 s2 h2 => q a H2 (fresh_of s1 f2) (s1.trans s2) h2⟩
end
/-! ### [draw(stream, z) for k in range(m)] -/
theorem z_draws {H0 H : Hp} {p : Addr} {z : Int} {m k : Nat} {vs : List Nat} {te : TE} {σ : L2.St} {Q : VK} {v : Int} (S : Sd H0 H p) (hv : v = (m : Int)) (hm : m ≤ 500) (hz : 0 < z) (hz2 : z.natAbs < 2 ^ 1000) (hw : ∀ x, wipe ((wipe σ vs).set k (some x)) vs = wipe σ vs)
    (hte : ∀ (i : Nat) (H' : Hp) (R : VK), (∀ E, sp__law_next [.ref p, .int z] H' R E) → te ((wipe σ vs).set k (some (.int (i : Int)))) H' R)
    (q : ∀ (D : Addr) (H' : Hp) (ns : List Int), H D = none → D ≠ p → Sd H0 H' p → Kp p H H' → H' D = some (.lst (ns.map V.int)) → ns.length = m → (∀ x ∈ ns, 0 ≤ x ∧ x < z) → Q (.ref D) H') : LcRE (gName k) tYes te vs σ Q [.int v] H := by
  subst hv
  refine z_lcRr m (by omega) hw (fun i D acc H' => Sd H0 H' p ∧ Kp p H H' ∧ D ≠ p ∧ H D = none ∧ ∃ ns : List Int, acc = ns.map V.int ∧ ∀ x ∈ ns, 0 ≤ x ∧ x < z)
    (fun D H' f s e => ⟨S.mono s, kp_of s, S.ne0 f, f, [], rfl, fun x hx => nomatch hx⟩) (fun i D acc H' hi hl hD ⟨S', k', ne, f, ns, ea, hb⟩ => ?_)
    (fun D acc H' f hl hD ⟨S', k', ne, _, ns, ea, hb⟩ => q D H' ns f ne S' k' (by rw [hD, ea]) (by rw [← hl, ea, List.length_map]) hb)
  refine hte i H' _ fun E => nx S' hz hz2 fun x H2 x0 x1 S2 e2 => ?_
  have hD2 : H2 D = some (.lst acc) := (e2 D ne).trans hD
  refine z_lcB hD2 hl (by omega) fun H3 hD3 k3 e3 => ⟨?_, ?_, ne, f, ns ++ [x], by rw [ea, List.map_append]; rfl, fun y hy => ?_⟩
  · obtain ⟨a, b, c, st⟩ := S2.stm
    refine ⟨fun b o h => ?_, S2.fresh, a, b, c, by rw [e3 p ne.symm]; exact st⟩
    have hne : b ≠ D := fun z => by
      have h1 := S.same _ _ h
      rw [z, f] at h1
      cases h1
    rw [e3 b hne]
    exact S2.same _ _ h
  · intro b o hb h
    have hne : b ≠ D := fun z => by
      rw [z, f] at h
      cases h
    rw [e3 b hne, e2 b hb]
    exact k' b o hb h
  · rcases List.mem_append.mp hy with h | h
    · exact hb y h
    · rw [List.mem_singleton.mp h]
      exact ⟨x0, x1⟩
theorem Sd.put {H0 H : Hp} {p l : Addr} {o : HO} (S : Sd H0 H p) (h : H0 l = none) (ne : l ≠ p) : Sd H0 (upd H l o) p := by
  obtain ⟨a, b, c, e⟩ := S.stm
  exact ⟨fun x y h' => by rw [upd_ne (ne_of_none h' h)]; exact S.same _ _ h', S.fresh, a, b, c, by rw [upd_ne ne.symm]; exact e⟩
theorem kp_put {p l : Addr} {H H' : Hp} {o : HO} (k : Kp p H H') (h : H l = none) : Kp p H (upd H' l o) := fun b x hb e => by
  rw [upd_ne (ne_of_none e h)]
  exact k b x hb e
theorem kp_none {p a : Addr} {H H' : Hp} (k : Kp p H H') (h : H' a = none) (ne : a ≠ p) : H a = none := by
  cases z : H a with
  | none => rfl
  | some o =>
    have := k _ _ ne z
    rw [h] at this
    cases this
theorem Sd.none0 {H0 H : Hp} {p l : Addr} (S : Sd H0 H p) (h : H l = none) : H0 l = none := by
  cases z : H0 l with
  | none => rfl
  | some o =>
    have := S.same _ _ z
    rw [h] at this
    cases this
/-! ### the law's rows -/
theorem z_drawsF {H0 H : Hp} {p : Addr} {z : Int} {m k : Nat} {vs : List Nat} {te : TE} {σ : L2.St} {Q : VK} {v : Int} (f : Int → Int) (S : Sd H0 H p) (hv : v = (m : Int)) (hm : m ≤ 500) (hz : 0 < z) (hz2 : z.natAbs < 2 ^ 1000) (hw : ∀ x, wipe ((wipe σ vs).set k (some x)) vs = wipe σ vs)
    (hte : ∀ (i : Nat) (H' : Hp) (R : VK), (∀ E, sp__law_next [.ref p, .int z] H' (fun v H2 => ∀ x, v = .int x → R (.int (f x)) H2) E) → te ((wipe σ vs).set k (some (.int (i : Int)))) H' R)
    (q : ∀ (D : Addr) (H' : Hp) (ns : List Int), H D = none → D ≠ p → Sd H0 H' p → Kp p H H' → H' D = some (.lst (ns.map V.int)) → ns.length = m → (∀ y ∈ ns, ∃ x, 0 ≤ x ∧ x < z ∧ y = f x) → Q (.ref D) H') : LcRE (gName k) tYes te vs σ Q [.int v] H := by
  subst hv
  refine z_lcRr m (by omega) hw (fun i D acc H' => Sd H0 H' p ∧ Kp p H H' ∧ D ≠ p ∧ H D = none ∧ ∃ ns : List Int, acc = ns.map V.int ∧ ∀ y ∈ ns, ∃ x, 0 ≤ x ∧ x < z ∧ y = f x)
    (fun D H' f s e => ⟨S.mono s, kp_of s, S.ne0 f, f, [], rfl, fun x hx => nomatch hx⟩) (fun i D acc H' hi hl hD ⟨S', k', ne, f', ns, ea, hb⟩ => ?_)
    (fun D acc H' f' hl hD ⟨S', k', ne, _, ns, ea, hb⟩ => q D H' ns f' ne S' k' (by rw [hD, ea]) (by rw [← hl, ea, List.length_map]) hb)
  refine hte i H' _ fun E => nx S' hz hz2 fun x H2 x0 x1 S2 e2 => ?_
  intro x' ex
  cases ex
  have hD2 : H2 D = some (.lst acc) := (e2 D ne).trans hD
  refine z_lcB hD2 hl (by omega) fun H3 hD3 k3 e3 => ⟨?_, ?_, ne, f', ns ++ [f x], by rw [ea, List.map_append]; rfl, fun y hy => ?_⟩
  · obtain ⟨a, b, c, st⟩ := S2.stm
    refine ⟨fun b o h => ?_, S2.fresh, a, b, c, by rw [e3 p ne.symm]; exact st⟩
    have hne : b ≠ D := fun z => by
      have h1 := S.same _ _ h
      rw [z, f'] at h1
      cases h1
    rw [e3 b hne]
    exact S2.same _ _ h
  · intro b o hb h
    have hne : b ≠ D := fun z => by
      rw [z, f'] at h
      cases h
    rw [e3 b hne, e2 b hb]
    exact k' b o hb h
  · rcases List.mem_append.mp hy with h | h
    · exact hb y h
    · exact ⟨x, x0, x1, List.mem_singleton.mp h⟩
/-- rows as the law makes them -/
structure RowsC (rs : List (List Int)) (c : Nat) : Prop where
  c0 : 1 ≤ c
  c1 : c ≤ 48
  len : ∀ x ∈ rs, x.length = c
  b : ∀ x ∈ rs, ∀ p ∈ x, p = 0 ∨ p = 1
theorem RowsC.rows {rs : List (List Int)} {c : Nat} (h : RowsC rs c) (n : rs.length ≤ 48) : Rows rs := ⟨n, fun x hx => by rw [h.len x hx]; exact h.c1, h.b⟩
theorem RowsC.snoc {rs : List (List Int)} {c : Nat} {x : List Int} (h : RowsC rs c) (hl : x.length = c) (hb : ∀ p ∈ x, p = 0 ∨ p = 1) : RowsC (rs ++ [x]) c := ⟨h.c0, h.c1, fun y hy => by
  rcases List.mem_append.mp hy with hy | hy
  · exact h.len y hy
  · rw [List.mem_singleton.mp hy]
    exact hl, fun y hy => by
  rcases List.mem_append.mp hy with hy | hy
  · exact h.b y hy
  · rw [List.mem_singleton.mp hy]
    exact hb⟩
def sp__law_rows (K : PySem.W.Frag) : Sp := fun vs H Q _ => ∃ (p : Addr) (H0 : Hp), vs = [.ref p] ∧ Sd H0 H p ∧
  ∀ t as rs c H', Sd H0 H' p → Kp p H H' → H t = none → H' t = some (.tup (as.map V.ref)) → RwAt K H' as rs → RowsC rs c → 1 ≤ rs.length → rs.length ≤ 48 → Q (.ref t) H'
section
theorem ok__law_rows {P : Program} {w : World} {K : PySem.W.Frag} {mg : Str → Option Value} {base : Heap} {A : Nat → Addr} {D : Nat → FuncData} (T : Txt K mg A D base) : FnOk P w K mg base (L2.CX P w) 2 (A 31) (D 31) ["stream"] (sp__law_rows K) := by
  refine T.F__law_rows.okX sc__law_rows (fun vs H Q E h => ?_) (fun cdv A' outer s H vs Q E hr h => ?_)
  · obtain ⟨p, H0, rfl, _⟩ := h
    rfl
  obtain ⟨p, H0, rfl, S, q⟩ := h
  refine ⟨_, (pss_cons (ps_set (i := 1) sc__law_rows.nd rfl (.inl rfl) (pe_op op_add (pe_call (ok__law_next T) (hr.mono (by decide)) (by rfl) T.m__law_next T.F__law_next.kp T.b__law_next .nil (passes_call (takes_of rfl rfl rfl rfl) (fun _ _ _ _ h => h)) (pa_cons (pv 0) (pa_cons pe_int pa_nil))) pe_int))
  (pss_cons (ps_set (i := 2) sc__law_rows.nd rfl (.inl rfl) (pe_op op_add (pe_call (ok__law_next T) (hr.mono (by decide)) (by rfl) T.m__law_next T.F__law_next.kp T.b__law_next .nil (passes_call (takes_of rfl rfl rfl rfl) (fun _ _ _ _ h => h)) (pa_cons (pv 0) (pa_cons pe_int pa_nil))) pe_int))
  (Evl.pss_cut (ps_if (pt_cmpR op_eq (pe_call (ok__law_next T) (hr.mono (by decide)) (by rfl) T.m__law_next T.F__law_next.kp T.b__law_next .nil (passes_call (takes_of rfl rfl rfl rfl) (fun _ _ _ _ h => h)) (pa_cons (pv 0) (pa_cons pe_int pa_nil))) pe_int (nomark _))
  (pss_cons (ps_set (i := 1) sc__law_rows.nd rfl (.inl rfl) (pe_op op_add (pe_call (ok__law_next T) (hr.mono (by decide)) (by rfl) T.m__law_next T.F__law_next.kp T.b__law_next .nil (passes_call (takes_of rfl rfl rfl rfl) (fun _ _ _ _ h => h)) (pa_cons (pv 0) (pa_cons pe_int pa_nil))) pe_int))
  (pss_one (ps_set (i := 2) sc__law_rows.nd rfl (.inl rfl) (pe_op op_add (pe_call (ok__law_next T) (hr.mono (by decide)) (by rfl) T.m__law_next T.F__law_next.kp T.b__law_next .nil (passes_call (takes_of rfl rfl rfl rfl) (fun _ _ _ _ h => h)) (pa_cons (pv 0) (pa_cons pe_int pa_nil))) pe_int))))
  pss_nil)
  (pss_cons (ps_set (i := 3) sc__law_rows.nd rfl (.inl rfl) (pe_lst pa_nil))
  (pss_cons (ps_set (i := 4) sc__law_rows.nd rfl (.inr rfl) (pe_op op_add (pe_call (ok__law_next T) (hr.mono (by decide)) (by rfl) T.m__law_next T.F__law_next.kp T.b__law_next .nil (passes_call (takes_of rfl rfl rfl rfl) (fun _ _ _ _ h => h)) (pa_cons (pv 0) (pa_cons pe_int pa_nil))) pe_int))
  (pss_cons (ps_for (passes_of rfl) rfl (pi_range1 (by rfl) T.z_range (pa_cons (pv 2) pa_nil)) (pg_name (i := 5) sc__law_rows.nd rfl (.inl rfl))
  (pss_cons (ps_set (i := 6) sc__law_rows.nd rfl (.inl rfl) (pe_call (ok__law_next T) (hr.mono (by decide)) (by rfl) T.m__law_next T.F__law_next.kp T.b__law_next .nil (passes_call (takes_of rfl rfl rfl rfl) (fun _ _ _ _ h => h)) (pa_cons (pv 0) (pa_cons pe_int pa_nil))))
  (pss_cons (ps_setLc (i := 7) (own := [("i", 8)]) (g := gName 8) (tt := tYes) rfl sc__law_rows.nd rfl rfl (sw_true rfl rfl rfl (by decide +kernel)) (pi_range1 (by rfl) T.z_range (pa_cons (pv 1) pa_nil)) (blkOk_by (N := ["stream", "columns", "count", "rows", "chance", "j", "kind", "row", "i", "pixel", "cut"]) (sc := defScope s__law_rows) (by decide +kernel)) (fun _ _ _ _ _ => pg_name (i := 8) sc__law_rows.nd rfl (Or.inl rfl)) (fun _ _ _ _ _ => pts_nil) (fun _ _ _ _ _ => (pe_callTy Z.c_int (by rfl) T.z_int (by decide +kernel) (pa_cons (pe_cmpR op_eq (pe_call (ok__law_next T) (hr.mono (by decide)) (by rfl) T.m__law_next T.F__law_next.kp T.b__law_next .nil passL (pa_cons (pv 0) (pa_cons (pv 4) pa_nil))) pe_int (nomark _)) pa_nil))))
  (Evl.pss_cut (ps_if (PW.pt (pw_and (pt_cmpR op_lt (pv 6) pe_int (nomark _)) (pw_and1 (pt_cmpR op_gt (pv 5) pe_int (nomark _)))))
  (pss_one (ps_set (i := 7) sc__law_rows.nd rfl (.inl rfl) (pe_callTy Z.c_listOf (by rfl) T.z_list (by decide +kernel) (pa_cons (pe_ix ix_list (pv 3) (pe_un un_neg pe_int) (fun _ _ => rfl)) pa_nil))))
  pss_nil)
  (Evl.pss_cut (ps_if (pt_cmpR op_eq (pv 6) pe_int (nomark _))
  (pss_cons (ps_set (i := 9) sc__law_rows.nd rfl (.inr rfl) (pe_call (ok__law_next T) (hr.mono (by decide)) (by rfl) T.m__law_next T.F__law_next.kp T.b__law_next .nil (passes_call (takes_of rfl rfl rfl rfl) (fun _ _ _ _ h => h)) (pa_cons (pv 0) (pa_cons pe_int pa_nil))))
  (pss_one (ps_setLc (i := 7) (own := [("i", 8)]) (g := gName 8) (tt := tYes) rfl sc__law_rows.nd rfl rfl (sw_true rfl rfl rfl (by decide +kernel)) (pi_range1 (by rfl) T.z_range (pa_cons (pv 1) pa_nil)) (blkOk_by (N := ["stream", "columns", "count", "rows", "chance", "j", "kind", "row", "i", "pixel", "cut"]) (sc := defScope s__law_rows) (by decide +kernel)) (fun _ _ _ _ _ => pg_name (i := 8) sc__law_rows.nd rfl (Or.inl rfl)) (fun _ _ _ _ _ => pts_nil) (fun _ _ _ _ _ => (pv 9)))))
  pss_nil)
  (Evl.pss_cut (ps_if (pt_cmpR op_eq (pv 6) pe_int (nomark _))
  (pss_cons (ps_set (i := 10) sc__law_rows.nd rfl (.inl rfl) (pe_call (ok__law_next T) (hr.mono (by decide)) (by rfl) T.m__law_next T.F__law_next.kp T.b__law_next .nil (passes_call (takes_of rfl rfl rfl rfl) (fun _ _ _ _ h => h)) (pa_cons (pv 0) (pa_cons (pe_op op_add (pv 1) pe_int) pa_nil))))
  (pss_one (ps_set (i := 7) sc__law_rows.nd rfl (.inl rfl) (pe_op op_cat (pe_op op_rep (pe_lst (pa_cons pe_int pa_nil)) (pv 10)) (pe_op op_rep (pe_lst (pa_cons pe_int pa_nil)) (pe_op op_sub (pv 1) (pv 10)))))))
  pss_nil)
  (pss_one (ps_expr (pe_bm PySem.F.plainAttrs_list PySem.F.slot_list_append PySem.F.type_list_append mt_append (pv 3) (pa_cons (pe_callTy Z.c_tupOf (by rfl) T.z_tuple (by decide +kernel) (pa_cons (pv 7) pa_nil)) pa_nil))))))))))
  (pss_one (ps_ret (pe_callTy Z.c_tupOf (by rfl) T.z_tuple (by decide +kernel) (pa_cons (pv 3) pa_nil)))))))))), ?_⟩
  walk_at "z"
  refine nx S (by decide) (lt1000 (by decide)) fun c1 H1 c10 c11 S1 e1 => ?_
  walk_at "z"
  refine nx S1 (by decide) (lt1000 (by decide)) fun n1 H2 n10 n11 S2 e2 => ?_
  walk_at "z"
  have K2 : Kp p H H2 := (kp_eq e1).trans' (kp_eq e2)
  refine z_cut (fun σ' H' => ∃ c n : Nat, 1 ≤ c ∧ c ≤ 48 ∧ 1 ≤ n ∧ n ≤ 48 ∧ σ' = [some (.ref p), some (.int (c : Int)), some (.int (n : Int)), none, none, none, none, none, none, none, none] ∧ Sd H0 H' p ∧ Kp p H H') ?_ ?_
  · walk_at "z"
    refine nx S2 (by decide) (lt1000 (by decide)) fun x H3 x0 x1 S3 e3 => ?_
    walk_at "z"
    refine z_if (fun c => ?_) (fun c => ?_)
    · walk_at "z"
      refine nx S3 (by decide) (lt1000 (by decide)) fun c2 H4 c20 c21 S4 e4 => ?_
      walk_at "z"
      refine nx S4 (by decide) (lt1000 (by decide)) fun n2 H5 n20 n21 S5 e5 => ?_
      walk_at "z"
      refine ⟨(c2 + 1).toNat, (n2 + 1).toNat, by omega, by omega, by omega, by omega, ?_, S5, ((K2.trans' (kp_eq e3)).trans' (kp_eq e4)).trans' (kp_eq e5)⟩
      rw [show (((c2 + 1).toNat : Nat) : Int) = c2 + 1 by omega, show (((n2 + 1).toNat : Nat) : Int) = n2 + 1 by omega]
      rfl
    · walk_at "z"
      refine ⟨(c1 + 1).toNat, (n1 + 1).toNat, by omega, by omega, by omega, by omega, ?_, S3, K2.trans' (kp_eq e3)⟩
      rw [show (((c1 + 1).toNat : Nat) : Int) = c1 + 1 by omega, show (((n1 + 1).toNat : Nat) : Int) = n1 + 1 by omega]
      rfl
  rintro σ' H3 ⟨c, n, hc0, hc1, hn0, hn1, rfl, S3, K3⟩
  clear S2 S1 S e1 e2 K2 c10 c11 n10 n11
  walk_at "z"
  intro R H4 f4 s4 h4
  have nRp := S3.ne0 f4
  have S4 := S3.mono s4
  have K4 := K3.trans' (kp_of s4)
  have fR0 : H R = none := kp_none K3 f4 nRp
  walk_at "z"
  refine nx S4 (by decide) (lt1000 (by decide)) fun ch H5 ch0 ch1 S5 e5 => ?_
  walk_at "z"
  have K5 := K4.trans' (kp_eq e5)
  have h5 : H5 R = some (.lst []) := (e5 R nRp).trans h4
  refine z_forR1 n (by omega) (fun R q => by walk_at "z"; exact q) (fun i σ' H' => Sd H0 H' p ∧ Kp p H H' ∧ ∃ (as : List Addr) (rs : List (List Int)) (u5 u6 u7 u8 u9 u10 : Option V), σ' = [some (.ref p), some (.int (c : Int)), some (.int (n : Int)), some (.ref R), some (.int (ch + 2)), u5, u6, u7, u8, u9, u10] ∧ H' R = some (.lst (as.map V.ref)) ∧ RwAt K H' as rs ∧ RowsC rs c ∧ rs.length = i)
    ⟨S5, K5, [], [], _, _, _, _, _, _, rfl, h5, trivial, ⟨hc0, hc1, fun x hx => (nomatch hx), fun x hx => (nomatch hx)⟩, rfl⟩ ?_ ?_
  · rintro i σ' H6 hi ⟨S6, K6, as, rs, u5, u6, u7, u8, u9, u10, rfl, h6, ra, rc, li⟩
    have la := ra.len
    walk_at "z"
    refine nx S6 (by decide) (lt1000 (by decide)) fun kd H7 kd0 kd1 S7 e7 => ?_
    walk_at "z"
    have h7 := (e7 R nRp).trans h6
    have K7 := K6.trans' (kp_eq e7)
    have ra7 := ra.tk (S6.notup (kp_eq e7))
    refine z_lcRE ?_
    walk_at "z"
    refine z_drawsF (m := c) (z := ch + 2) (fun x => if x = 0 then 1 else 0) S7 rfl (by omega) (by omega) (lt1000 (by omega)) (fun _ => rfl) (fun j H' RR h => ?_) fun D H8 ns f8 nDp S8 k8 h8 ln hb => ?_
    · walk_at "z"
      obtain ⟨p', z', e', st, hz, hz2, k⟩ := h E0
      refine ⟨p', z', e', st, hz, hz2, fun v a b m v0 v1 => ?_⟩
      have k := k v a b m v0 v1 v rfl
      walk_at "z"
      rw [show (if v = 0 then (1 : Int) else 0) = if decide (v = 0) = true then 1 else 0 by by_cases e : v = 0 <;> simp [e]] at k
      exact k
    walk_at "z"
    have hns : ∀ y ∈ ns, y = 0 ∨ y = 1 := fun y hy => by
      obtain ⟨x, _, _, e⟩ := hb y hy
      rw [e]
      split
      · exact .inr rfl
      · exact .inl rfl
    have h8R := k8 R _ nRp h7
    have ra8 := ra7.tk (S7.notup k8)
    have K8 := K7.trans' k8
    clear S6 S7 ra ra7 h6 h7 K7 K6 k8 hb
    let Mid : L2.St → Hp → Prop := fun σ' H' => ∃ (D : Addr) (ns : List Int) (u8 u9 u10 : Option V), σ' = [some (.ref p), some (.int (c : Int)), some (.int (n : Int)), some (.ref R), some (.int (ch + 2)), some (.int (i : Int)), some (.int kd), some (.ref D), u8, u9, u10] ∧
      Sd H0 H' p ∧ Kp p H H' ∧ H' R = some (.lst (as.map V.ref)) ∧ RwAt K H' as rs ∧ H' D = some (.lst (ns.map V.int)) ∧ ns.length = c ∧ ∀ y ∈ ns, y = 0 ∨ y = 1
    have mk : ∀ (D : Addr) (ns : List Int) (u8 u9 u10 : Option V) (Ha Hb : Hp), Sd H0 Ha p → Kp p H Ha → Ha R = some (.lst (as.map V.ref)) → RwAt K Ha as rs → Same Ha Hb → Hb D = some (.lst (ns.map V.int)) → ns.length = c → (∀ y ∈ ns, y = 0 ∨ y = 1) → Mid [some (.ref p), some (.int (c : Int)), some (.int (n : Int)), some (.ref R), some (.int (ch + 2)), some (.int (i : Int)), some (.int kd), some (.ref D), u8, u9, u10] Hb :=
      fun D ns u8 u9 u10 Ha Hb Sa Ka hR ra s hD hl hb => ⟨D, ns, u8, u9, u10, rfl, Sa.mono s, Ka.trans' (kp_of s), s _ _ hR, ra.mono s, hD, hl, hb⟩
    refine z_cut Mid ?_ ?_
    · walk_at "z"
      have same : Mid [some (.ref p), some (.int (c : Int)), some (.int (n : Int)), some (.ref R), some (.int (ch + 2)), some (.int (i : Int)), some (.int kd), some (.ref D), u8, u9, u10] H8 := mk D ns _ _ _ H8 H8 S8 K8 h8R ra8 (Same.refl _) h8 ln hns
      refine z_if (fun c1 => ?_) (fun c1 => ?_)
      · walk_at "z"
        refine z_if (fun c2 => ?_) (fun c2 => ?_)
        · walk_at "z"
          have ne : rs ≠ [] := fun e => by rw [e] at li; simp at li; omega
          obtain ⟨rs', x, ers⟩ := snoc_of ne
          have ra9 := ra8
          rw [ers] at ra9
          obtain ⟨bs, b, eas, _, hb⟩ := ra9.unsnoc
          have h9R := h8R
          rw [eas, List.map_append] at h9R
          refine z_ixL (.inl (.inl h9R)) (at_last _ _) ?_
          walk_at "z"
          refine z_listOfT hb fun D2 H9 f9 s9 h9 => ?_
          have hx : x ∈ rs := by rw [ers]; simp
          exact mk D2 x _ _ _ H8 H9 S8 K8 h8R ra8 s9 h9 (rc.len x hx) (rc.b x hx)
        · walk_at "z"
          exact same
      · walk_at "z"
        exact same
    clear S8 K8 h8R ra8 h8 ln hns
    rintro σ' H8 ⟨D, ns, u8, u9, u10, rfl, S8, K8, h8R, ra8, h8, ln, hns⟩
    refine z_cut Mid ?_ ?_
    · walk_at "z"
      refine z_if (fun c1 => ?_) (fun c1 => ?_)
      · walk_at "z"
        refine nx S8 (by decide) (lt1000 (by decide)) fun px H9 px0 px1 S9 e9 => ?_
        walk_at "z"
        refine Cw.z_valsW (ws := List.replicate c (V.int px)) (walk_range (lo := 0) (n := c)) (by omega) (fun R q => Cw.z_iRng (k := c) (fun S h => by walk_at "z"; exact h) (by omega) q) (fun _ _ => trivial) (by simp) (fun j x v H' H2 R hw hi s y k => ?_) fun D2 H10 f10 s10 h10 => ?_
        · obtain ⟨rfl, rfl⟩ := y
          refine ⟨rfl, ?_⟩
          walk_at "z"
          have := List.eq_of_mem_replicate (List.mem_of_getElem? hw)
          subst this
          exact k H2 (Same.refl _)
        · refine mk D2 (List.replicate c px) _ _ _ H9 H10 S9 (K8.trans' (kp_eq e9)) ((e9 R nRp).trans h8R) (ra8.tk (S8.notup (kp_eq e9))) s10 ?_ ?_ ?_
          · rw [h10, List.map_replicate]
          · simp
          · intro y hy
            rw [List.eq_of_mem_replicate hy]
            omega
      · walk_at "z"
        exact mk D ns _ _ _ H8 H8 S8 K8 h8R ra8 (Same.refl _) h8 ln hns
    clear S8 K8 h8R ra8 h8 ln hns
    rintro σ' H8 ⟨D, ns, u8, u9, u10, rfl, S8, K8, h8R, ra8, h8, ln, hns⟩
    refine z_cut Mid ?_ ?_
    · walk_at "z"
      refine z_if (fun c1 => ?_) (fun c1 => ?_)
      · walk_at "z"
        refine nx S8 (by omega) (lt1000 (by omega)) fun ct H9 ct0 ct1 S9 e9 => ?_
        walk_at "z"
        intro a H10 f10 s10 h10
        walk_at "z"
        refine z_rep ct.toNat h10 (by omega) (by omega) fun b H11 f11 s11 h11 => ?_
        walk_at "z"
        intro a2 H12 f12 s12 h12
        walk_at "z"
        refine z_rep (c - ct.toNat) h12 (by omega) (by omega) fun b2 H13 f13 s13 h13 => ?_
        walk_at "z"
        refine z_cat ((s12.trans s13) _ _ h11) h13 (by rw [List.length_replicate, List.length_replicate]; omega) fun D2 H14 f14 s14 h14 => ?_
        walk_at "z"
        refine mk D2 (List.replicate ct.toNat 1 ++ List.replicate (c - ct.toNat) 0) _ _ _ H9 H14 S9 (K8.trans' (kp_eq e9)) ((e9 R nRp).trans h8R) (ra8.tk (S8.notup (kp_eq e9))) (((s10.trans s11).trans s12).trans (s13.trans s14)) ?_ ?_ ?_
        · rw [h14, List.map_append, List.map_replicate, List.map_replicate]
        · simp
          omega
        · intro y hy
          rcases List.mem_append.mp hy with h | h
          · exact .inr (List.eq_of_mem_replicate h)
          · exact .inl (List.eq_of_mem_replicate h)
      · walk_at "z"
        exact mk D ns _ _ _ H8 H8 S8 K8 h8R ra8 (Same.refl _) h8 ln hns
    clear S8 K8 h8R ra8 h8 ln hns
    rintro σ' H8 ⟨D, ns, u8, u9, u10, rfl, S8, K8, h8R, ra8, h8, ln, hns⟩
    walk_at "z"
    refine z_bmL (fun R q => by walk_at "z"; exact q) h8R ?_
    walk_at "z"
    refine z_tupOf (.inl (.inl h8)) fun t H9 f9 s9 h9 => ?_
    walk_at "z"
    have h9R := s9 _ _ h8R
    refine z_append h9R (by rw [List.length_map]; omega) ?_
    walk_at "z"
    have tk := tk_new (o := .lst (as.map V.ref ++ [.ref t])) h9R (fun z => z)
    refine ⟨(S8.mono s9).put (S3.none0 f4) nRp, kp_put (K8.trans' (kp_of s9)) fR0, as ++ [t], rs ++ [ns], _, _, _, _, _, _, rfl, by rw [upd_same, List.map_append]; rfl, ((ra8.mono s9).tk tk).snoc (.inl (.inl (tk _ _ trivial h9))), rc.snoc ln hns, by rw [List.length_append, li]; rfl⟩
  · rintro σ' H6 ⟨S6, K6, as, rs, u5, u6, u7, u8, u9, u10, rfl, h6, ra, rc, li⟩
    walk_at "z"
    refine z_tupOf (.inl (.inl h6)) fun t H7 f7 s7 h7 => ?_
    exact q t as rs c H7 (S6.mono s7) (K6.trans' (kp_of s7)) (kp_none K6 f7 (S6.ne0 f7)) h7 (ra.mono s7) rc (by omega) (by omega)
end
/-! ### back from the runs -/
def colN (p : Int) : Nat → Int
  | 0 => p
  | n + 1 => 1 - colN p n
theorem colN_sh (p : Int) : ∀ n, colN (1 - p) n = 1 - colN p n
  | 0 => rfl
  | n + 1 => by
    show 1 - colN (1 - p) n = 1 - (1 - colN p n)
    rw [colN_sh p n]
theorem colN_01 {p : Int} (h : p = 0 ∨ p = 1) : ∀ n, colN p n = 0 ∨ colN p n = 1
  | 0 => h
  | n + 1 => by
    have := colN_01 h n
    show 1 - colN p n = 0 ∨ 1 - colN p n = 1
    omega
def colE (p : Int) : List (Nat × Nat) → List Int
  | [] => []
  | x :: t => List.replicate x.2 p ++ colE (1 - p) t
theorem colE_app : ∀ (p : Int) (rs : List (Nat × Nat)) (x : Nat × Nat), colE p (rs ++ [x]) = colE p rs ++ List.replicate x.2 (colN p rs.length)
  | p, [], x => by
    show List.replicate x.2 p ++ [] = [] ++ List.replicate x.2 p
    rw [List.append_nil, List.nil_append]
  | p, y :: rs, x => by
    show List.replicate y.2 p ++ colE (1 - p) (rs ++ [x]) = (List.replicate y.2 p ++ colE (1 - p) rs) ++ List.replicate x.2 (1 - colN p rs.length)
    rw [colE_app (1 - p) rs x, List.append_assoc, colN_sh]
def rowsOk (c : Nat) : Nat → List (Nat × Nat) → Prop
  | _, [] => True
  | o, x :: t => x.1 = o / c ∧ 1 ≤ x.2 ∧ rowsOk c (o + x.2) t
def tot (rs : List (Nat × Nat)) : Nat := (rs.map Prod.snd).sum
theorem tot_cons (x : Nat × Nat) (rs : List (Nat × Nat)) : tot (x :: rs) = x.2 + tot rs := rfl
theorem tot_app (rs : List (Nat × Nat)) (x : Nat × Nat) : tot (rs ++ [x]) = tot rs + x.2 := by
  unfold tot
  rw [List.map_append, List.sum_append]
  simp
theorem colE_len : ∀ (p : Int) (rs : List (Nat × Nat)), (colE p rs).length = tot rs
  | _, [] => rfl
  | p, x :: rs => by
    show (List.replicate x.2 p ++ colE (1 - p) rs).length = x.2 + tot rs
    rw [List.length_append, List.length_replicate, colE_len]
theorem rowsOk_app {c : Nat} : ∀ (o : Nat) (rs : List (Nat × Nat)) (x : Nat × Nat), rowsOk c o (rs ++ [x]) ↔ rowsOk c o rs ∧ x.1 = (o + tot rs) / c ∧ 1 ≤ x.2
  | o, [], x => by
    show (x.1 = o / c ∧ 1 ≤ x.2 ∧ True) ↔ (True ∧ x.1 = (o + 0) / c ∧ 1 ≤ x.2)
    simp
  | o, y :: rs, x => by
    show (y.1 = o / c ∧ 1 ≤ y.2 ∧ rowsOk c (o + y.2) (rs ++ [x])) ↔ _
    rw [rowsOk_app (o + y.2) rs x, tot_cons, Nat.add_assoc]
    exact ⟨fun ⟨a, b, d, e⟩ => ⟨⟨a, b, d⟩, e⟩, fun ⟨⟨a, b, d⟩, e⟩ => ⟨a, b, d, e⟩⟩
/-- at place i of the runs -/
theorem rowsOk_at {c o : Nat} {rs : List (Nat × Nat)} (h : rowsOk c o rs) {i : Nat} {x : Nat × Nat} (hx : rs[i]? = some x) : x.1 = (o + tot (rs.take i)) / c ∧ 1 ≤ x.2 := by
  have e : rs.take (i + 1) = rs.take i ++ [x] := by rw [List.take_add_one, hx]; rfl
  have h2 : rowsOk c o (rs.take (i + 1)) := by
    have : ∀ (n o : Nat) (rs : List (Nat × Nat)), rowsOk c o rs → rowsOk c o (rs.take n) := by
      intro n
      induction n with
      | zero => exact fun _ _ _ => trivial
      | succ n ih =>
        intro o rs h
        cases rs with
        | nil => exact trivial
        | cons y rs => exact ⟨h.1, h.2.1, ih _ _ h.2.2⟩
    exact this _ _ _ h
  rw [e, rowsOk_app] at h2
  exact h2.2
theorem tot_take_le (rs : List (Nat × Nat)) (i : Nat) : tot (rs.take i) ≤ tot rs := by
  have : tot rs = tot (rs.take i) + tot (rs.drop i) := by
    unfold tot
    rw [← List.sum_append, ← List.map_append, List.take_append_drop]
  omega
theorem tot_succ {rs : List (Nat × Nat)} {i : Nat} {x : Nat × Nat} (hx : rs[i]? = some x) : tot (rs.take (i + 1)) = tot (rs.take i) + x.2 := by
  have e : rs.take (i + 1) = rs.take i ++ [x] := by rw [List.take_add_one, hx]; rfl
  rw [e, tot_app]
theorem tot_mono (rs : List (Nat × Nat)) {i j : Nat} (h : i ≤ j) : tot (rs.take i) ≤ tot (rs.take j) := by
  have := tot_take_le (rs.take j) i
  rw [List.take_take, Nat.min_eq_left h] at this
  exact this
theorem colE_at : ∀ (p : Int) (rs : List (Nat × Nat)) (i : Nat) (x : Nat × Nat) (k : Nat), rs[i]? = some x → k < x.2 → (colE p rs)[tot (rs.take i) + k]? = some (colN p i)
  | p, [], i, x, k, h, _ => by simp at h
  | p, y :: rs, 0, x, k, h, hk => by
    cases h
    show (List.replicate y.2 p ++ colE (1 - p) rs)[0 + k]? = some p
    rw [Nat.zero_add, List.getElem?_append_left (by rw [List.length_replicate]; exact hk), List.getElem?_replicate, if_pos hk]
  | p, y :: rs, i + 1, x, k, h, hk => by
    show (List.replicate y.2 p ++ colE (1 - p) rs)[tot (y :: rs.take i) + k]? = some (1 - colN p i)
    rw [tot_cons, List.getElem?_append_right (by rw [List.length_replicate]; omega), List.length_replicate, show y.2 + tot (rs.take i) + k - y.2 = tot (rs.take i) + k by omega, colE_at (1 - p) rs i x k h hk, colN_sh]
/-- all rows have c pixels, 0 or 1 -/
structure Kc (ks : List (List Int)) (c : Nat) : Prop where
  c0 : 1 ≤ c
  len : ∀ x ∈ ks, x.length = c
  b : ∀ x ∈ ks, ∀ p ∈ x, p = 0 ∨ p = 1
theorem flat_len {c : Nat} : ∀ {ks : List (List Int)}, (∀ x ∈ ks, x.length = c) → ks.flatten.length = ks.length * c
  | [], _ => by simp
  | x :: ks, h => by
    rw [List.flatten_cons, List.length_append, h x (.head _), flat_len fun y hy => h y (.tail _ hy), List.length_cons, Nat.succ_mul]
    omega
theorem flat_at {c : Nat} : ∀ {ks : List (List Int)} {j i : Nat} {x : List Int}, (∀ x ∈ ks, x.length = c) → ks[j]? = some x → i < c → ks.flatten[j * c + i]? = x[i]?
  | [], j, i, x, _, h, _ => by simp at h
  | y :: ks, 0, i, x, hl, h, hi => by
    cases h
    rw [List.flatten_cons, Nat.zero_mul, Nat.zero_add, List.getElem?_append_left (by rw [hl y (.head _)]; exact hi)]
  | y :: ks, j + 1, i, x, hl, h, hi => by
    rw [List.flatten_cons, List.getElem?_append_right (by rw [hl y (.head _), Nat.succ_mul]; omega), hl y (.head _), show (j + 1) * c + i - c = j * c + i by rw [Nat.succ_mul]; omega]
    exact flat_at (fun x hx => hl x (.tail _ hx)) h hi
theorem flat_row {c : Nat} : ∀ {ks : List (List Int)} {j : Nat} {x : List Int}, (∀ x ∈ ks, x.length = c) → ks[j]? = some x → (ks.flatten.take (j * c + c)).drop (j * c) = x
  | [], j, x, _, h => by simp at h
  | y :: ks, 0, x, hl, h => by
    cases h
    have hy := hl y (.head _)
    rw [List.flatten_cons, Nat.zero_mul, Nat.zero_add, List.drop_zero, List.take_append_of_le_length (by omega), List.take_of_length_le (by omega)]
  | y :: ks, j + 1, x, hl, h => by
    have hy := hl y (.head _)
    have ih := flat_row (fun x hx => hl x (.tail _ hx)) (h : ks[j]? = some x)
    rw [List.flatten_cons, List.take_append, List.drop_append, List.take_of_length_le (by rw [hy, Nat.succ_mul]; omega), List.drop_of_length_le (by rw [hy, Nat.succ_mul]; omega), List.nil_append, hy,
      show (j + 1) * c + c - c = j * c + c by rw [Nat.succ_mul]; omega, show (j + 1) * c - c = j * c by rw [Nat.succ_mul]; omega]
    exact ih
/-- the runs of the first q pixels -/
structure RI (c : Nat) (F : List Int) (p0 : Int) (s : RunS) (q : Nat) : Prop where
  col : colE p0 s.1 = F.take q
  rows : rowsOk c 0 s.1
  none : s.1 = [] → s.2 = none
  last : ∀ rs x, s.1 = rs ++ [x] → s.2 = some (colN p0 rs.length)
theorem RI.tot {c : Nat} {F : List Int} {p0 : Int} {s : RunS} {q : Nat} (h : RI c F p0 s q) (hq : q ≤ F.length) : tot s.1 = q := by
  rw [← colE_len p0, h.col, List.length_take, Nat.min_eq_left hq]
theorem RI.step {c : Nat} {F : List Int} {p0 : Int} {s : RunS} {j i : Nat} {x : Int} (h : RI c F p0 s (j * c + i)) (c0 : i < c) (hx : F[j * c + i]? = some x) (b : ∀ p ∈ F, p = 0 ∨ p = 1) (hp : F[0]? = some p0) : RI c F p0 (rst j s x) (j * c + i + 1) := by
  have hq := (List.getElem?_eq_some_iff.mp hx).1
  have ht := h.tot (Nat.le_of_lt hq)
  have eF : F.take (j * c + i + 1) = F.take (j * c + i) ++ [x] := by rw [List.take_add_one, hx]; rfl
  have b0 : p0 = 0 ∨ p0 = 1 := b _ (List.mem_of_getElem? hp)
  have bx : x = 0 ∨ x = 1 := b _ (List.mem_of_getElem? hx)
  by_cases e : s.1 = []
  · have hn := h.none e
    have q0 : j * c + i = 0 := by
      rw [e] at ht
      exact ht.symm
    have e2 : rst j s x = ([(j, 1)], some x) := by
      unfold rst
      rw [hn, if_neg (by simp), e]
      rfl
    have xp : x = p0 := by
      rw [q0, hp] at hx
      exact (Option.some.inj hx).symm
    have j0 : j = (j * c + i) / c := by rw [Nat.mul_comm, Nat.mul_add_div (by omega), Nat.div_eq_of_lt c0]; rfl
    rw [e2]
    refine ⟨?_, ⟨?_, Nat.le_refl _, trivial⟩, fun z => (nomatch z), fun rs y z => ?_⟩
    · rw [eF, ← h.col, e, xp]
      rfl
    · show j = 0 / c
      rw [q0] at j0
      exact j0
    · have : rs = [] := by
        cases rs with
        | nil => rfl
        | cons a t =>
          have := congrArg List.length z
          simp at this
      subst this
      rw [xp]
      rfl
  · obtain ⟨rs', ⟨r, l⟩, es⟩ := snoc_of e
    have hl := h.last _ _ es
    have hr := h.rows
    rw [es, rowsOk_app] at hr
    by_cases k : s.2 = some x
    · have e2 : rst j s x = (rs' ++ [(r, l + 1)], some x) := by
        unfold rst
        rw [if_pos k, es, bump_app]
      have xc : x = colN p0 rs'.length := by
        rw [k] at hl
        exact Option.some.inj hl
      rw [e2]
      refine ⟨?_, (rowsOk_app _ _ _).mpr ⟨hr.1, hr.2.1, by show 1 ≤ l + 1; omega⟩, fun z => (by simp at z), fun rs y z => ?_⟩
      · have hc := h.col
        rw [es, colE_app] at hc
        rw [eF, ← hc, colE_app, List.replicate_succ', ← List.append_assoc, ← xc]
      · obtain ⟨z1, _⟩ := List.append_inj' z rfl
        rw [← z1, ← xc]
    · have e2 : rst j s x = (s.1 ++ [(j, 1)], some x) := by
        unfold rst
        rw [if_neg k]
      have xc : x = colN p0 s.1.length := by
        rw [es, List.length_append]
        show x = 1 - colN p0 rs'.length
        have := colN_01 b0 rs'.length
        rw [hl] at k
        have : ¬ colN p0 rs'.length = x := fun z => k (by rw [z])
        omega
      rw [e2]
      refine ⟨?_, (rowsOk_app _ _ _).mpr ⟨h.rows, ?_, Nat.le_refl _⟩, fun z => (by simp at z), fun rs y z => ?_⟩
      · rw [eF, ← h.col, colE_app, ← xc]
        rfl
      · show j = (0 + _) / c
        rw [ht, Nat.zero_add, Nat.mul_comm, Nat.mul_add_div (by omega), Nat.div_eq_of_lt c0]
        rfl
      · obtain ⟨z1, _⟩ := List.append_inj' z rfl
        rw [← z1, ← xc]
theorem RI.rowN {c : Nat} {F : List Int} {p0 : Int} {j : Nat} (b : ∀ p ∈ F, p = 0 ∨ p = 1) (hp : F[0]? = some p0) : ∀ (x : List Int) (s : RunS) (i : Nat), RI c F p0 s (j * c + i) → i + x.length ≤ c → (∀ k, k < x.length → F[j * c + i + k]? = x[k]?) → RI c F p0 (rrow j x s) (j * c + i + x.length)
  | [], s, i, h, _, _ => h
  | y :: x, s, i, h, hc, hF => by
    have hl : (y :: x).length = x.length + 1 := rfl
    have h1 := h.step (x := y) (by omega) (by have := hF 0 (by simp); rw [Nat.add_zero] at this; exact this) b hp
    have h2 := RI.rowN b hp x (rst j s y) (i + 1) (by rw [← Nat.add_assoc]; exact h1) (by omega) (fun k hk => by
      have := hF (k + 1) (by omega)
      rw [show j * c + i + (k + 1) = j * c + (i + 1) + k by omega] at this
      exact this)
    rw [show j * c + i + (y :: x).length = j * c + (i + 1) + x.length by omega]
    exact h2
theorem RI.all {ks : List (List Int)} {c : Nat} {p0 : Int} (k : Kc ks c) (hp : ks.flatten[0]? = some p0) : ∀ j, j ≤ ks.length → RI c ks.flatten p0 (RS ks j) (j * c)
  | 0, _ => ⟨by rw [Nat.zero_mul]; rfl, trivial, fun _ => rfl, fun rs x z => by
    have : ([] : List (Nat × Nat)) = rs ++ [x] := z
    simp at this⟩
  | j + 1, h => by
    have hj : j < ks.length := h
    have ih := RI.all k hp j (Nat.le_of_lt hj)
    have hx : ks[j]? = some ks[j] := List.getElem?_eq_getElem hj
    have e : ks.getD j [] = ks[j] := by rw [List.getD_eq_getElem?_getD, hx]; rfl
    have hl := k.len _ (List.getElem_mem hj)
    have b : ∀ p ∈ ks.flatten, p = 0 ∨ p = 1 := fun p hp => by
      obtain ⟨x, hx, hp⟩ := List.mem_flatten.mp hp
      exact k.b x hx p hp
    have := RI.rowN (j := j) b hp ks[j] (RS ks j) 0 ih (by omega) (fun i hi => by
      rw [Nat.add_zero]
      exact flat_at k.len hx (by omega))
    rw [Nat.add_zero, hl] at this
    rw [Nat.succ_mul]
    show RI c _ p0 (rrow j (ks.getD j []) (RS ks j)) _
    rw [e]
    exact this
theorem runs_facts {ks : List (List Int)} {c : Nat} {p0 : Int} (k : Kc ks c) (hp : ks.flatten[0]? = some p0) : colE p0 (runsN ks) = ks.flatten ∧ rowsOk c 0 (runsN ks) := by
  have h := RI.all k hp ks.length (Nat.le_refl _)
  refine ⟨?_, h.rows⟩
  have := h.col
  rw [List.take_of_length_le (by rw [flat_len k.len]; exact Nat.le_refl _)] at this
  exact this
/-- the groups laid out again -/
def ex (gr : List (List Int × Nat)) : List (List Int) := gr.flatMap fun k => List.replicate (k.2 + 1) k.1
theorem ex_grp (x : List Int) : ∀ (n : Nat) (ys : List (List Int)), ex (grp x n ys) = List.replicate (n + 1) x ++ ys
  | n, [] => by
    show List.replicate (n + 1) x ++ [] = _
    rfl
  | n, y :: ys => by
    by_cases c : y = x ∧ mixed x = true
    · rw [grp_yes c.1 c.2, ex_grp x (n + 1) ys, c.1, List.replicate_succ', List.append_assoc]
      rfl
    · rw [grp_no c]
      show List.replicate (n + 1) x ++ ex (grp y 0 ys) = _
      rw [ex_grp y 0 ys]
      rfl
theorem ex_groups : ∀ rs : List (List Int), ex (groups rs) = rs
  | [] => rfl
  | x :: xs => ex_grp x 0 xs
theorem grp_mix (x : List Int) : ∀ (n : Nat) (ys : List (List Int)), (n = 0 ∨ mixed x = true) → ∀ k ∈ grp x n ys, k.2 = 0 ∨ mixed k.1 = true
  | n, [], h, k, hk => by
    rw [show grp x n [] = [(x, n)] from rfl, List.mem_singleton] at hk
    subst hk
    exact h
  | n, y :: ys, h, k, hk => by
    by_cases c : y = x ∧ mixed x = true
    · rw [grp_yes c.1 c.2] at hk
      exact grp_mix x (n + 1) ys (.inr c.2) k hk
    · rw [grp_no c] at hk
      rcases List.mem_cons.mp hk with z | z
      · subst z
        exact h
      · exact grp_mix y 0 ys (.inl rfl) k z
theorem groups_mix : ∀ (rs : List (List Int)) (k : List Int × Nat), k ∈ groups rs → k.2 = 0 ∨ mixed k.1 = true
  | [], k, h => by simp [groups] at h
  | x :: xs, k, h => grp_mix x 0 xs (.inl rfl) k h
theorem ex_app (a b : List (List Int × Nat)) : ex (a ++ b) = ex a ++ ex b := List.flatMap_append
theorem ex_len : ∀ gr : List (List Int × Nat), gr.length ≤ (ex gr).length
  | [] => Nat.le_refl _
  | k :: gr => by
    have := ex_len gr
    show gr.length + 1 ≤ (List.replicate (k.2 + 1) k.1 ++ ex gr).length
    rw [List.length_append, List.length_replicate]
    omega
theorem ex_succ {gr : List (List Int × Nat)} {r : Nat} {k : List Int × Nat} (h : gr[r]? = some k) : ex (gr.take (r + 1)) = ex (gr.take r) ++ List.replicate (k.2 + 1) k.1 := by
  rw [List.take_add_one, h, ex_app]
  show _ ++ (List.replicate (k.2 + 1) k.1 ++ []) = _
  rw [List.append_nil]
theorem ex_room {gr : List (List Int × Nat)} {r : Nat} {k : List Int × Nat} (h : gr[r]? = some k) : (ex (gr.take r)).length + k.2 + (gr.length - r) ≤ (ex gr).length := by
  have hr := (List.getElem?_eq_some_iff.mp h).1
  have e : gr = gr.take r ++ k :: gr.drop (r + 1) := by
    obtain ⟨hi, e⟩ := List.getElem?_eq_some_iff.mp h
    rw [← e, ← List.drop_eq_getElem_cons hi, List.take_append_drop]
  have h1 := ex_len (gr.drop (r + 1))
  have h2 : (ex gr).length = (ex (gr.take r)).length + (k.2 + 1 + (ex (gr.drop (r + 1))).length) := by
    conv => lhs; rw [e]
    rw [ex_app, List.length_append]
    show _ + (List.replicate (k.2 + 1) k.1 ++ ex (gr.drop (r + 1))).length = _
    rw [List.length_append, List.length_replicate]
  rw [List.length_drop] at h1
  omega
/-! ### what has been read after q pixels, i runs begun -/
def dDone (gr : List (List Int × Nat)) (c q : Nat) : List (List Int) := ex (gr.take (q / c))
def dLine (F : List Int) (c q : Nat) : List Int := (F.take q).drop (q / c * c)
def dRep (gr : List (List Int × Nat)) (rl : List (Nat × Nat)) (c i q : Nat) : Option Nat :=
  if (gr.getD (q / c) ([], 0)).2 ≠ 0 ∧ (rl.take i).any (fun x => x.1 == q / c) = true then some (gr.getD (q / c) ([], 0)).2 else none
structure Dec (gr : List (List Int × Nat)) (c : Nat) (p0 : Int) (F : List Int) (rl : List (Nat × Nat)) : Prop where
  kc : Kc (gr.map Prod.fst) c
  eF : F = (gr.map Prod.fst).flatten
  hp : F[0]? = some p0
  col : colE p0 rl = F
  rows : rowsOk c 0 rl
  mix : ∀ k ∈ gr, k.2 = 0 ∨ mixed k.1 = true
section
variable {gr : List (List Int × Nat)} {c : Nat} {p0 : Int} {F : List Int} {rl : List (Nat × Nat)} (d : Dec gr c p0 F rl)
include d
theorem Dec.len : F.length = gr.length * c := by
  rw [d.eF, flat_len d.kc.len, List.length_map]
theorem Dec.tt : tot rl = F.length := by rw [← colE_len p0, d.col]
theorem Dec.at_ {i r l : Nat} (h : rl[i]? = some (r, l)) : r = tot (rl.take i) / c ∧ 1 ≤ l ∧ tot (rl.take i) + l ≤ F.length ∧ ∃ k, gr[r]? = some k := by
  have h1 := rowsOk_at d.rows h
  rw [Nat.zero_add] at h1
  have h2 := tot_succ h
  have h3 := tot_take_le rl (i + 1)
  rw [d.tt, h2] at h3
  dsimp only at h1 h3
  refine ⟨h1.1, h1.2, h3, ?_⟩
  have hr : r < gr.length := by
    rw [h1.1]
    refine Nat.div_lt_of_lt_mul ?_
    have := d.len
    rw [Nat.mul_comm] at this
    omega
  exact ⟨_, List.getElem?_eq_getElem hr⟩
/-- a row of F -/
theorem Dec.row {r : Nat} {k : List Int × Nat} (h : gr[r]? = some k) : (F.take (r * c + c)).drop (r * c) = k.1 := by
  rw [d.eF]
  exact flat_row d.kc.len (by rw [List.getElem?_map, h]; rfl)
omit d in
theorem div_next {q c : Nat} (c0 : 1 ≤ c) : ((q + 1) % c ≠ 0 ∧ (q + 1) / c = q / c ∧ q % c + 1 < c) ∨ ((q + 1) % c = 0 ∧ (q + 1) / c = q / c + 1 ∧ q % c + 1 = c ∧ q + 1 = (q / c + 1) * c) := by
  have h := Nat.div_add_mod q c
  have hm := Nat.mod_lt q c0
  by_cases e : q % c + 1 = c
  · refine .inr ?_
    have e2 : q + 1 = (q / c + 1) * c := by
      rw [Nat.succ_mul, Nat.mul_comm]
      omega
    refine ⟨?_, ?_, e, e2⟩
    · rw [e2, Nat.mul_mod_left]
    · rw [e2, Nat.mul_div_cancel _ c0]
  · refine .inl ?_
    have e2 : q + 1 = c * (q / c) + (q % c + 1) := by omega
    refine ⟨?_, ?_, by omega⟩
    · rw [e2, Nat.mul_add_mod, Nat.mod_eq_of_lt (by omega)]
      omega
    · conv => lhs; rw [e2]
      rw [Nat.mul_add_div c0, Nat.div_eq_of_lt (show q % c + 1 < c by omega), Nat.add_zero]
theorem Dec.line_len {q : Nat} (hq : q ≤ F.length) : (dLine F c q).length = q % c := by
  unfold dLine
  rw [List.length_drop, List.length_take, Nat.min_eq_left hq]
  have h := Nat.div_add_mod q c
  rw [Nat.mul_comm] at h
  omega
/-- one more pixel -/
theorem Dec.pix {i r l q : Nat} (h : rl[i]? = some (r, l)) (h1 : tot (rl.take i) ≤ q) (h2 : q < tot (rl.take i) + l) :
    F[q]? = some (colN p0 i) ∧ (((dLine F c q ++ [colN p0 i]).length ≠ c ∧ dDone gr c (q + 1) = dDone gr c q ∧ dLine F c (q + 1) = dLine F c q ++ [colN p0 i] ∧ dRep gr rl c (i + 1) (q + 1) = dRep gr rl c (i + 1) q) ∨
      ((dLine F c q ++ [colN p0 i]).length = c ∧ dDone gr c (q + 1) = dDone gr c q ++ List.replicate (1 + (dRep gr rl c (i + 1) q).getD 0) (dLine F c q ++ [colN p0 i]) ∧ dLine F c (q + 1) = [] ∧ dRep gr rl c (i + 1) (q + 1) = none)) := by
  obtain ⟨er, l1, hF, _⟩ := d.at_ h
  have hq : q < F.length := by omega
  have c0 := d.kc.c0
  have px : F[q]? = some (colN p0 i) := by
    have := colE_at p0 rl i (r, l) (q - tot (rl.take i)) h (by show _ < l; omega)
    rw [d.col, show tot (rl.take i) + (q - tot (rl.take i)) = q by omega] at this
    exact this
  have tk : F.take (q + 1) = F.take q ++ [colN p0 i] := by rw [List.take_add_one, px]; rfl
  have ll := d.line_len (Nat.le_of_lt hq)
  have hdm := Nat.div_add_mod q c
  have hmc := Nat.mul_comm c (q / c)
  have lk : q / c * c ≤ (F.take q).length := by
    rw [List.length_take, Nat.min_eq_left (Nat.le_of_lt hq)]
    omega
  refine ⟨px, ?_⟩
  rcases div_next (q := q) c0 with ⟨_, e, m⟩ | ⟨_, e, m, e2⟩
  · refine .inl ⟨?_, ?_, ?_, ?_⟩
    · rw [List.length_append, ll]
      show q % c + 1 ≠ c
      omega
    · unfold dDone
      rw [e]
    · unfold dLine
      rw [e, tk, List.drop_append_of_le_length lk]
    · unfold dRep
      rw [e]
  · refine .inr ⟨?_, ?_, ?_, ?_⟩
    · rw [List.length_append, ll]
      exact m
    · have hr : q / c < gr.length := by
        refine Nat.div_lt_of_lt_mul ?_
        have := d.len
        rw [Nat.mul_comm] at this
        omega
      obtain ⟨k, hk⟩ : ∃ k, gr[q / c]? = some k := ⟨_, List.getElem?_eq_getElem hr⟩
      have hrow := d.row hk
      have e3 : q / c * c + c = q + 1 := by
        rw [e2, Nat.succ_mul]
      rw [e3, tk, List.drop_append_of_le_length lk] at hrow
      have hline : dLine F c q ++ [colN p0 i] = k.1 := hrow
      have hrep : (dRep gr rl c (i + 1) q).getD 0 = k.2 := by
        unfold dRep
        rw [List.getD_eq_getElem?_getD, hk]
        show (if k.2 ≠ 0 ∧ _ then some k.2 else none).getD 0 = k.2
        by_cases z : k.2 = 0
        · rw [if_neg (fun x => x.1 z), z]
          rfl
        · rcases d.mix k (List.mem_of_getElem? hk) with z2 | mx
          · exact absurd z2 z
          · refine (congrArg (fun o => Option.getD o 0) (if_pos ⟨z, ?_⟩)).trans rfl
            · rw [List.any_eq_true]
              have e4 : rl.take (i + 1) = rl.take i ++ [(r, l)] := by rw [List.take_add_one, h]; rfl
              refine ⟨(r, l), by rw [e4]; simp, ?_⟩
              rw [beq_iff_eq]
              show r = q / c
              rcases Nat.lt_or_ge (q / c * c) (tot (rl.take i)) with g | g
              · rw [er]
                have g1 : q / c ≤ tot (rl.take i) / c := (Nat.le_div_iff_mul_le c0).mpr (Nat.le_of_lt g)
                have g2 : tot (rl.take i) / c ≤ q / c := Nat.div_le_div_right h1
                omega
              · -- the whole row lies within the run
                exfalso
                unfold mixed at mx
                rw [Bool.and_eq_true, decide_eq_true_eq, decide_eq_true_eq] at mx
                have all : ∀ p ∈ k.1, p = colN p0 i := by
                  intro p hp
                  rw [← hline] at hp
                  rcases List.mem_append.mp hp with hp | hp
                  · unfold dLine at hp
                    obtain ⟨j, hj⟩ := List.mem_iff_getElem?.mp hp
                    have hjl := (List.getElem?_eq_some_iff.mp hj).1
                    rw [List.length_drop, List.length_take, Nat.min_eq_left (Nat.le_of_lt hq)] at hjl
                    rw [List.getElem?_drop, List.getElem?_take_of_lt (by omega)] at hj
                    have := colE_at p0 rl i (r, l) (q / c * c + j - tot (rl.take i)) h (by show _ < l; omega)
                    rw [d.col, show tot (rl.take i) + (q / c * c + j - tot (rl.take i)) = q / c * c + j by omega, hj] at this
                    exact Option.some.inj this
                  · exact List.mem_singleton.mp hp
                have a0 := all 0 mx.1
                have a1 := all 1 mx.2
                omega
      rw [hline, hrep, Nat.add_comm 1]
      unfold dDone
      rw [e]
      exact ex_succ hk
    · unfold dLine
      rw [e, ← e2, List.drop_of_length_le]
      rw [List.length_take]
      exact Nat.min_le_left _ _
    · unfold dRep
      rw [e, if_neg]
      rintro ⟨_, a⟩
      rw [List.any_eq_true] at a
      obtain ⟨x, hx, e5⟩ := a
      rw [beq_iff_eq] at e5
      obtain ⟨j, hj⟩ := List.mem_iff_getElem?.mp hx
      have hji : j < i + 1 := by
        have := (List.getElem?_eq_some_iff.mp hj).1
        rw [List.length_take] at this
        omega
      rw [List.getElem?_take_of_lt hji] at hj
      have a1 := rowsOk_at d.rows hj
      have a2 := tot_mono rl (show j ≤ i by omega)
      have a3 : tot (rl.take j) / c ≤ q / c := Nat.div_le_div_right (by omega)
      rw [Nat.zero_add] at a1
      omega
end
theorem ec_zero (w : Int) (reps : List Nat) (j : Nat) (rs : List (Nat × Nat)) (h : ∃ x ∈ rs, x.1 = j) : (EC w reps rs).2.getD j 0 = 0 := by
  refine snoc_ind (P := fun rs => (∃ x ∈ rs, x.1 = j) → (EC w reps rs).2.getD j 0 = 0) (fun ⟨x, hx, _⟩ => (nomatch hx)) (fun rs x ih h => ?_) rs h
  rw [ec_app]
  show ((EC w reps rs).2.set x.1 0).getD j 0 = 0
  rw [List.getD_eq_getElem?_getD]
  by_cases e : x.1 = j
  · rw [e, List.getElem?_set_self']
    cases (EC w reps rs).2[j]? <;> rfl
  · rw [List.getElem?_set_ne e, ← List.getD_eq_getElem?_getD]
    obtain ⟨y, hy, ey⟩ := h
    rcases List.mem_append.mp hy with hy | hy
    · exact ih ⟨y, hy, ey⟩
    · rw [List.mem_singleton.mp hy] at ey
      exact absurd ey e
section
variable {gr : List (List Int × Nat)} {c : Nat} {p0 : Int} {F : List Int} {rl : List (Nat × Nat)} (d : Dec gr c p0 F rl)
include d
/-- the count that stands before run i -/
theorem Dec.cur {i r l : Nat} (w : Int) (h : rl[i]? = some (r, l)) : let k := (EC w (gr.map Prod.snd) (rl.take i)).2.getD r 0
    (k = 0 ∧ dRep gr rl c (i + 1) (tot (rl.take i)) = dRep gr rl c i (tot (rl.take i))) ∨ (k ≠ 0 ∧ dRep gr rl c i (tot (rl.take i)) = none ∧ dRep gr rl c (i + 1) (tot (rl.take i)) = some k ∧ ∃ x, gr[r]? = some (x, k)) := by
  intro k
  obtain ⟨er, l1, hF, ⟨x, n⟩, hk⟩ := d.at_ h
  have e4 : rl.take (i + 1) = rl.take i ++ [(r, l)] := by rw [List.take_add_one, h]; rfl
  have eg : gr.getD (tot (rl.take i) / c) ([], 0) = (x, n) := by
    rw [← er, List.getD_eq_getElem?_getD, hk]
    rfl
  have a2 : (rl.take (i + 1)).any (fun x => x.1 == tot (rl.take i) / c) = true := by
    rw [List.any_eq_true]
    exact ⟨(r, l), by rw [e4]; simp, by rw [beq_iff_eq]; exact er⟩
  unfold dRep
  rw [eg, a2]
  by_cases a : ∃ y ∈ rl.take i, y.1 = r
  · have k0 : k = 0 := ec_zero w _ r _ a
    refine .inl ⟨k0, ?_⟩
    have a3 : (rl.take i).any (fun x => x.1 == tot (rl.take i) / c) = true := by
      rw [List.any_eq_true]
      obtain ⟨y, hy, e⟩ := a
      exact ⟨y, hy, by rw [beq_iff_eq, e]; exact er⟩
    rw [a3]
  · have kn : k = n := by
      show (EC w (gr.map Prod.snd) (rl.take i)).2.getD r 0 = n
      rw [ec_get w _ r _ fun y hy e => a ⟨y, hy, e⟩, List.getD_eq_getElem?_getD, List.getElem?_map, hk]
      rfl
    have a3 : ¬ (rl.take i).any (fun x => x.1 == tot (rl.take i) / c) = true := by
      rw [List.any_eq_true]
      rintro ⟨y, hy, e⟩
      rw [beq_iff_eq, ← er] at e
      exact a ⟨y, hy, e⟩
    by_cases z : n = 0
    · refine .inl ⟨by rw [kn, z], ?_⟩
      rw [if_neg (fun x => x.1 z), if_neg (fun x => x.1 z)]
    · refine .inr ⟨by rw [kn]; exact z, if_neg (fun x => a3 x.2), ?_, x, by rw [kn]; exact hk⟩
      rw [if_pos ⟨z, rfl⟩, kn]
/-- room for the repetitions and for the run -/
theorem Dec.room {i r l : Nat} (h : rl[i]? = some (r, l)) : (dDone gr c (tot (rl.take i))).length + (dRep gr rl c (i + 1) (tot (rl.take i))).getD 0 + 1 ≤ (ex gr).length ∧
    l + tot (rl.take i) % c ≤ ((ex gr).length - (dDone gr c (tot (rl.take i))).length - (dRep gr rl c (i + 1) (tot (rl.take i))).getD 0) * c := by
  obtain ⟨er, l1, hF, ⟨x, n⟩, hk⟩ := d.at_ h
  have rm := ex_room hk
  have hr := (List.getElem?_eq_some_iff.mp hk).1
  have dr : (dRep gr rl c (i + 1) (tot (rl.take i))).getD 0 ≤ n := by
    unfold dRep
    rw [← er, List.getD_eq_getElem?_getD, hk]
    show (if n ≠ 0 ∧ _ then some n else none).getD 0 ≤ n
    split
    · exact Nat.le_refl _
    · exact Nat.zero_le _
  unfold dDone
  rw [← er]
  dsimp only at rm
  generalize hD : (ex (gr.take r)).length = D at *
  generalize (dRep gr rl c (i + 1) (tot (rl.take i))).getD 0 = e at *
  refine ⟨by omega, ?_⟩
  have h1 : (gr.length - r) * c ≤ ((ex gr).length - D - e) * c := Nat.mul_le_mul_right c (by omega)
  have h2 := d.len
  have h3 := Nat.div_add_mod (tot (rl.take i)) c
  rw [← er, Nat.mul_comm] at h3
  rw [Nat.sub_mul] at h1
  omega
theorem Dec.more {i r l : Nat} (h : rl[i]? = some (r, l)) : (dDone gr c (tot (rl.take i))).length < (ex gr).length := by
  have := (d.room h).1
  omega
theorem Dec.fin : dDone gr c F.length = ex gr := by
  unfold dDone
  rw [d.len, Nat.mul_div_cancel _ d.kc.c0, List.take_length]
end
theorem dec_of {rs : List (List Int)} {c : Nat} (k : Kc rs c) {x : List Int} {p0 : Int} (h0 : rs[0]? = some x) (hx : x[0]? = some p0) :
    Dec (groups rs) c p0 ((groups rs).map Prod.fst).flatten (runsN ((groups rs).map Prod.fst)) := by
  have hm : ∀ y ∈ (groups rs).map Prod.fst, y ∈ rs := fun y hy => by
    obtain ⟨k, hk, e⟩ := List.mem_map.mp hy
    rw [← e]
    exact (groups_mem rs k hk).1
  have kk : Kc ((groups rs).map Prod.fst) c := ⟨k.c0, fun y hy => k.len y (hm y hy), fun y hy => k.b y (hm y hy)⟩
  have hp : ((groups rs).map Prod.fst).flatten[0]? = some p0 := by
    cases rs with
    | nil => simp at h0
    | cons z r =>
      cases h0
      obtain ⟨t, e⟩ := grp_head x 0 r
      show ((grp x 0 r).map Prod.fst).flatten[0]? = some p0
      rw [e, List.map_cons, List.flatten_cons, List.getElem?_append_left (List.getElem?_eq_some_iff.mp hx).1]
      exact hx
  obtain ⟨h1, h2⟩ := runs_facts kk hp
  exact ⟨kk, rfl, hp, h1, h2, groups_mix rs⟩
/-! ### the unpacker -/
theorem lk0 {f : Str} {v : V} {l : List (Str × V)} : ((f, v) :: l).lookup f = some v := by
  rw [List.lookup_cons]
  have : (f == f) = true := by simp
  rw [this]
theorem lkc {f g : Str} {v : V} {l : List (Str × V)} (h : (f == g) = false) : ((g, v) :: l).lookup f = l.lookup f := by
  rw [List.lookup_cons, h]
def repV : Option Nat → V
  | none => .non
  | some k => .int (k : Int)
def fs8 (N : V) (w c n t : Int) (D L R : V) : List (Str × V) := [("_nybbles", N), ("_way", .int w), ("_columns", .int c), ("_count", .int n), ("_at", .int t), ("_done", D), ("_line", L), ("_repeats", R)]
section
variable {N D L R X : V} {w c n t t' : Int}
theorem lk_nyb : (fs8 N w c n t D L R).lookup ("_nybbles" : Str) = some N := lk0
theorem lk_way : (fs8 N w c n t D L R).lookup ("_way" : Str) = some (V.int w) := by
  unfold fs8
  rw [lkc (by decide +kernel)]
  exact lk0
theorem lk_col : (fs8 N w c n t D L R).lookup ("_columns" : Str) = some (V.int c) := by
  unfold fs8
  rw [lkc (by decide +kernel), lkc (by decide +kernel)]
  exact lk0
theorem lk_cnt : (fs8 N w c n t D L R).lookup ("_count" : Str) = some (V.int n) := by
  unfold fs8
  rw [lkc (by decide +kernel), lkc (by decide +kernel), lkc (by decide +kernel)]
  exact lk0
theorem lk_at : (fs8 N w c n t D L R).lookup ("_at" : Str) = some (V.int t) := by
  unfold fs8
  rw [lkc (by decide +kernel), lkc (by decide +kernel), lkc (by decide +kernel), lkc (by decide +kernel)]
  exact lk0
theorem lk_done : (fs8 N w c n t D L R).lookup ("_done" : Str) = some D := by
  unfold fs8
  rw [lkc (by decide +kernel), lkc (by decide +kernel), lkc (by decide +kernel), lkc (by decide +kernel), lkc (by decide +kernel)]
  exact lk0
theorem lk_line : (fs8 N w c n t D L R).lookup ("_line" : Str) = some L := by
  unfold fs8
  rw [lkc (by decide +kernel), lkc (by decide +kernel), lkc (by decide +kernel), lkc (by decide +kernel), lkc (by decide +kernel), lkc (by decide +kernel)]
  exact lk0
theorem lk_rep : (fs8 N w c n t D L R).lookup ("_repeats" : Str) = some R := by
  unfold fs8
  rw [lkc (by decide +kernel), lkc (by decide +kernel), lkc (by decide +kernel), lkc (by decide +kernel), lkc (by decide +kernel), lkc (by decide +kernel), lkc (by decide +kernel)]
  exact lk0
theorem lk_no {m : Str} (h : (["_nybbles", "_way", "_columns", "_count", "_at", "_done", "_line", "_repeats"] : List Str).all (fun f => !(m == f)) = true) : (fs8 N w c n t D L R).lookup m = none := by
  simp only [List.all_cons, List.all_nil, Bool.and_true, Bool.and_eq_true, Bool.not_eq_true'] at h
  obtain ⟨h1, h2, h3, h4, h5, h6, h7, h8⟩ := h
  unfold fs8
  rw [lkc h1, lkc h2, lkc h3, lkc h4, lkc h5, lkc h6, lkc h7, lkc h8]
  rfl
theorem put_at : putF "_at" (.int t') (fs8 N w c n t D L R) = fs8 N w c n t' D L R := by
  unfold fs8
  with_unfolding_all rfl
theorem put_line : putF "_line" X (fs8 N w c n t D L R) = fs8 N w c n t D X R := by
  unfold fs8
  with_unfolding_all rfl
theorem put_rep : putF "_repeats" X (fs8 N w c n t D L R) = fs8 N w c n t D L X := by
  unfold fs8
  with_unfolding_all rfl
theorem fs8_len : (fs8 N w c n t D L R).length < 1000 := Nat.lt_of_le_of_lt (Nat.le_refl 8) (by decide)
end
structure UnS (C : Addr) (K : PySem.W.Frag) (H0 H : Hp) (u Na : Addr) (N : List Int) (w : Int) (c n : Nat) (t : Nat) (done : List (List Int)) (line : List Int) (rp : Option Nat) : Prop where
  same : Same H0 H
  fu : H0 u = none
  hN : H0 Na = some (.lst (N.map V.int))
  st : ∃ (dx D L : Addr) (ds : List Addr), H u = some (.ins C dx (fs8 (.ref Na) w c n t (.ref D) (.ref L) (repV rp))) ∧ H0 D = none ∧ H0 L = none ∧ D ≠ L ∧ H D = some (.lst (ds.map V.ref)) ∧ RwAt K H ds done ∧ H L = some (.lst (line.map V.int))
section
variable {C : Addr} {K : PySem.W.Frag} {H0 H H' : Hp} {u Na : Addr} {N : List Int} {w : Int} {c n t : Nat} {done : List (List Int)} {line : List Int} {rp : Option Nat}
theorem UnS.mono (h : UnS C K H0 H u Na N w c n t done line rp) (s : Same H H') : UnS C K H0 H' u Na N w c n t done line rp := by
  obtain ⟨dx, D, L, ds, h1, h2, h3, h4, h5, h6, h7⟩ := h.st
  exact ⟨h.same.trans s, h.fu, h.hN, dx, D, L, ds, s _ _ h1, h2, h3, h4, s _ _ h5, h6.mono s, s _ _ h7⟩
/-- the fields change, no list -/
theorem UnS.put (h : UnS C K H0 H u Na N w c n t done line rp) {dx D L : Addr} {t' : Nat} {rp' : Option Nat} (e : H u = some (.ins C dx (fs8 (.ref Na) w c n t (.ref D) (.ref L) (repV rp)))) :
    UnS C K H0 (upd H u (.ins C dx (fs8 (.ref Na) w c n t' (.ref D) (.ref L) (repV rp')))) u Na N w c n t' done line rp' := by
  obtain ⟨dx', D', L', ds, h1, h2, h3, h4, h5, h6, h7⟩ := h.st
  rw [e] at h1
  injection h1 with h1
  injection h1 with _ h1a h1b
  have eD : D = D' := by
    have := congrArg (fun l => l.lookup ("_done" : Str)) h1b
    rw [lk_done, lk_done] at this
    injection this with this
    injection this
  have eL : L = L' := by
    have := congrArg (fun l => l.lookup ("_line" : Str)) h1b
    rw [lk_line, lk_line] at this
    injection this with this
    injection this
  subst eD eL
  have ne : ∀ b xs, H b = some (.lst xs) → b ≠ u := fun b xs hb z => by
    rw [z, e] at hb
    cases hb
  refine ⟨keep_new h.fu h.same kp_at, h.fu, h.hN, dx, D, L, ds, upd_same, h2, h3, h4, ?_, ?_, ?_⟩
  · rw [upd_ne (ne _ _ h5)]
    exact h5
  · exact h6.tk (tk_new e (fun z => z))
  · rw [upd_ne (ne _ _ h7)]
    exact h7
end
local macro_rules | `(tactic| walk_at "z1") => `(tactic| first
  | with_reducible refine z_max2 ?_
  | with_reducible refine z_min2 ?_
  | with_reducible refine z_tru ?_
  | with_reducible refine Cw.z_fldE ?_
  | with_reducible refine Cw.z_sfldE ?_
  | with_reducible refine Cw.z_methE ?_
  | with_reducible refine Cw.z_methSE ?_
  | with_reducible refine Cw.z_methNSE ?_
  | with_reducible refine Cw.z_methNE ?_
  | with_reducible refine Cw.z_make ?_)
local macro_rules | `(tactic| walk_at "z1") => `(tactic| first
  | with_reducible refine Um.z_gfE ?_
  | with_reducible refine Um.z_faE ?_
  | with_reducible refine Um.z_rAdd ?_)
def sp_Unpacker_is_done (K : PySem.W.Frag) (C : Addr) : Sp := fun vs H Q _ => ∃ (H0 : Hp) (u Na : Addr) (N : List Int) (w : Int) (c n t : Nat) (done : List (List Int)) (line : List Int) (rp : Option Nat), vs = [.ref u] ∧ UnS C K H0 H u Na N w c n t done line rp ∧ Q (.bl (decide (n ≤ done.length))) H
section
theorem ok_Unpacker_is_done {P : Program} {w : World} {K : PySem.W.Frag} {mg : Str → Option Value} {base : Heap} {A : Nat → Addr} {D : Nat → FuncData} (T : Txt K mg A D base) : FnOk P w K mg base (L2.CX P w) 1 (A 10) (D 10) ["self"] (sp_Unpacker_is_done K (A 0)) := by
  refine T.F_Unpacker_is_done.okX sc_Unpacker_is_done (fun vs H Q E h => ?_) (fun cdv A' outer s H vs Q E hr h => ?_)
  · obtain ⟨H0, u, Na, N, w, c, n, t, done, line, rp, rfl, _⟩ := h
    rfl
  obtain ⟨H0, u, Na, N, w, c, n, t, done, line, rp, rfl, S, q⟩ := h
  refine ⟨_, (pss_one (ps_ret (pe_cmpR op_ge (pe_callB Z.c_len (by rfl) T.z_len (by decide +kernel) (pa_cons (pe_fld (pv 0) rfl) pa_nil)) (pe_fld (pv 0) rfl) (nomark _)))), ?_⟩
  obtain ⟨dx, D, L, ds, h1, h2, h3, h4, h5, h6, h7⟩ := S.st
  walk_at "z"
  refine Cw.z_fld h1 T.q_Unpacker T.nf_Unpacker__done lk_done ?_
  walk_at "z"
  refine Cw.z_fld h1 T.q_Unpacker T.nf_Unpacker__count lk_cnt ?_
  walk_at "z"
  have := h6.len
  rw [List.length_map, this, show decide ((n : Int) ≤ (done.length : Int)) = decide (n ≤ done.length) by simp]
  exact q
end
def sp_Unpacker_result (K : PySem.W.Frag) (C : Addr) : Sp := fun vs H Q _ => ∃ (H0 : Hp) (u Na : Addr) (N : List Int) (w : Int) (c n t : Nat) (done : List (List Int)) (line : List Int) (rp : Option Nat), vs = [.ref u] ∧ UnS C K H0 H u Na N w c n t done line rp ∧
  ∀ r d ds H', Same H H' → H' r = some (.tup [.ref d, .int (t : Int)]) → H' d = some (.tup (ds.map V.ref)) → RwAt K H' ds done → Q (.ref r) H'
section
theorem ok_Unpacker_result {P : Program} {w : World} {K : PySem.W.Frag} {mg : Str → Option Value} {base : Heap} {A : Nat → Addr} {D : Nat → FuncData} (T : Txt K mg A D base) : FnOk P w K mg base (L2.CX P w) 1 (A 11) (D 11) ["self"] (sp_Unpacker_result K (A 0)) := by
  refine T.F_Unpacker_result.okX sc_Unpacker_result (fun vs H Q E h => ?_) (fun cdv A' outer s H vs Q E hr h => ?_)
  · obtain ⟨H0, u, Na, N, w, c, n, t, done, line, rp, rfl, _⟩ := h
    rfl
  obtain ⟨H0, u, Na, N, w, c, n, t, done, line, rp, rfl, S, q⟩ := h
  refine ⟨_, (pss_one (ps_ret (pe_tup (pa_cons (pe_callTy Z.c_tupOf (by rfl) T.z_tuple (by decide +kernel) (pa_cons (pe_fld (pv 0) rfl) pa_nil)) (pa_cons (pe_fld (pv 0) rfl) pa_nil))))), ?_⟩
  obtain ⟨dx, D, L, ds, h1, h2, h3, h4, h5, h6, h7⟩ := S.st
  walk_at "z"
  refine Cw.z_fld h1 T.q_Unpacker T.nf_Unpacker__done lk_done ?_
  walk_at "z"
  refine z_tupOf (.inl (.inl h5)) fun d H1 f1 s1 e1 => ?_
  walk_at "z"
  refine Cw.z_fld (s1 _ _ h1) T.q_Unpacker T.nf_Unpacker__at lk_at ?_
  walk_at "z"
  intro r H2 f2 s2 e2
  exact q r d ds H2 (s1.trans s2) e2 (s2 _ _ e1) ((h6.mono s1).mono s2)
end
def sp_Unpacker__repeats_ahead (K : PySem.W.Frag) (C : Addr) : Sp := fun vs H Q _ => ∃ (H0 : Hp) (u Na : Addr) (N : List Int) (w : Int) (c n t : Nat) (done : List (List Int)) (line : List Int) (rp : Option Nat), vs = [.ref u] ∧ UnS C K H0 H u Na N w c n t done line rp ∧ Q (.int (rp.getD 0 : Nat)) H
section
theorem ok_Unpacker__repeats_ahead {P : Program} {w : World} {K : PySem.W.Frag} {mg : Str → Option Value} {base : Heap} {A : Nat → Addr} {D : Nat → FuncData} (T : Txt K mg A D base) : FnOk P w K mg base (L2.CX P w) 1 (A 16) (D 16) ["self"] (sp_Unpacker__repeats_ahead K (A 0)) := by
  refine T.F_Unpacker__repeats_ahead.okX sc_Unpacker__repeats_ahead (fun vs H Q E h => ?_) (fun cdv A' outer s H vs Q E hr h => ?_)
  · obtain ⟨H0, u, Na, N, w, c, n, t, done, line, rp, rfl, _⟩ := h
    rfl
  obtain ⟨H0, u, Na, N, w, c, n, t, done, line, rp, rfl, S, q⟩ := h
  refine ⟨_, (pss_cons (ps_if (pt_cmpR Z.op_isN1 (pe_fld (pv 0) rfl) pe_non (nomark _))
  (pss_one (ps_ret pe_int))
  pss_nil)
  (pss_one (ps_ret (pe_fld (pv 0) rfl)))), ?_⟩
  obtain ⟨dx, D, L, ds, h1, h2, h3, h4, h5, h6, h7⟩ := S.st
  walk_at "z"
  refine Cw.z_fld h1 T.q_Unpacker T.nf_Unpacker__repeats lk_rep ?_
  walk_at "z"
  cases rp with
  | none =>
    refine z_isNN ?_
    walk_at "z"
    exact q
  | some k =>
    refine z_isNI ?_
    walk_at "z"
    refine Cw.z_fld h1 T.q_Unpacker T.nf_Unpacker__repeats lk_rep ?_
    exact q
end
def sp_Unpacker__pixels_ahead (K : PySem.W.Frag) (C : Addr) : Sp := fun vs H Q _ => ∃ (H0 : Hp) (u Na : Addr) (N : List Int) (w : Int) (c n t : Nat) (done : List (List Int)) (line : List Int) (rp : Option Nat), vs = [.ref u] ∧ UnS C K H0 H u Na N w c n t done line rp ∧ c ≤ 1000 ∧ n ≤ 1000 ∧ done.length + rp.getD 0 ≤ n ∧ Q (.int (((n - done.length - rp.getD 0) * c : Nat) - (line.length : Int))) H
section
theorem ok_Unpacker__pixels_ahead {P : Program} {w : World} {K : PySem.W.Frag} {mg : Str → Option Value} {base : Heap} {A : Nat → Addr} {D : Nat → FuncData} (T : Txt K mg A D base) : FnOk P w K mg base (L2.CX P w) 2 (A 17) (D 17) ["self"] (sp_Unpacker__pixels_ahead K (A 0)) := by
  refine T.F_Unpacker__pixels_ahead.okX sc_Unpacker__pixels_ahead (fun vs H Q E h => ?_) (fun cdv A' outer s H vs Q E hr h => ?_)
  · obtain ⟨H0, u, Na, N, w, c, n, t, done, line, rp, rfl, _⟩ := h
    rfl
  obtain ⟨H0, u, Na, N, w, c, n, t, done, line, rp, rfl, S, c1, n1, hd, q⟩ := h
  refine ⟨_, (pss_cons (ps_set (i := 1) sc_Unpacker__pixels_ahead.nd rfl (.inl rfl) (pe_op op_sub (pe_op op_sub (pe_fld (pv 0) rfl) (pe_callB Z.c_len (by rfl) T.z_len (by decide +kernel) (pa_cons (pe_fld (pv 0) rfl) pa_nil))) (pe_meth0 (pv 0) T.q_Unpacker T.m_Unpacker__repeats_ahead (ok_Unpacker__repeats_ahead T) (hr.mono (by decide)) T.b_Unpacker__repeats_ahead .nil (passes_call (takes_of rfl rfl rfl rfl) (fun _ _ _ _ h => h)))))
  (pss_one (ps_ret (pe_op op_sub (pe_op op_mulW (pv 1) (pe_fld (pv 0) rfl)) (pe_callB Z.c_len (by rfl) T.z_len (by decide +kernel) (pa_cons (pe_fld (pv 0) rfl) pa_nil)))))), ?_⟩
  obtain ⟨dx, D, L, ds, h1, h2, h3, h4, h5, h6, h7⟩ := S.st
  have ld := h6.len
  walk_at "z"
  refine Cw.z_fld h1 T.q_Unpacker T.nf_Unpacker__count lk_cnt ?_
  walk_at "z"
  refine Cw.z_fld h1 T.q_Unpacker T.nf_Unpacker__done lk_done ?_
  walk_at "z"
  refine Cw.z_meth h1 (lk_no (by decide +kernel)) ?_
  walk_at "z"
  refine ⟨H0, u, Na, N, w, c, n, t, done, line, rp, rfl, S, ?_⟩
  walk_at "z"
  refine Cw.z_fld h1 T.q_Unpacker T.nf_Unpacker__columns lk_col ?_
  rw [List.length_map, ld, show (n : Int) - (done.length : Int) - ((rp.getD 0 : Nat) : Int) = ((n - done.length - rp.getD 0 : Nat) : Int) by omega]
  refine z_I (wm (by omega) (by omega)) ?_
  walk_at "z"
  refine Cw.z_fld h1 T.q_Unpacker T.nf_Unpacker__line lk_line ?_
  walk_at "z"
  rw [List.length_map, ← Int.natCast_mul]
  exact q
end
def sp_Unpacker__is_at_repeats (K : PySem.W.Frag) (C : Addr) : Sp := fun vs H Q _ => ∃ (H0 : Hp) (u Na : Addr) (N : List Int) (w : Int) (c n t : Nat) (done : List (List Int)) (line : List Int) (rp : Option Nat) (x : Int), vs = [.ref u] ∧ UnS C K H0 H u Na N w c n t done line rp ∧ N[t]? = some x ∧ Q (.bl (decide (14 ≤ x))) H
section
theorem ok_Unpacker__is_at_repeats {P : Program} {w : World} {K : PySem.W.Frag} {mg : Str → Option Value} {base : Heap} {A : Nat → Addr} {D : Nat → FuncData} (T : Txt K mg A D base) : FnOk P w K mg base (L2.CX P w) 1 (A 13) (D 13) ["self"] (sp_Unpacker__is_at_repeats K (A 0)) := by
  refine T.F_Unpacker__is_at_repeats.okX sc_Unpacker__is_at_repeats (fun vs H Q E h => ?_) (fun cdv A' outer s H vs Q E hr h => ?_)
  · obtain ⟨H0, u, Na, N, w, c, n, t, done, line, rp, x, rfl, _⟩ := h
    rfl
  obtain ⟨H0, u, Na, N, w, c, n, t, done, line, rp, x, rfl, S, hx, q⟩ := h
  refine ⟨_, (pss_one (ps_ret (pe_and (pe_cmpR op_lt (pe_fld (pv 0) rfl) (pe_callB Z.c_len (by rfl) T.z_len (by decide +kernel) (pa_cons (pe_fld (pv 0) rfl) pa_nil)) (nomark _)) (pe_one (pe_cmpR op_ge (pe_ix ix_list (pe_fld (pv 0) rfl) (pe_fld (pv 0) rfl) (fun _ _ => rfl)) (Z.pe_globE T.c_MANY_REPEATS) (nomark _)))))), ?_⟩
  obtain ⟨dx, D, L, ds, h1, h2, h3, h4, h5, h6, h7⟩ := S.st
  have hN := S.same _ _ S.hN
  have ht := (List.getElem?_eq_some_iff.mp hx).1
  walk_at "z"
  refine Cw.z_fld h1 T.q_Unpacker T.nf_Unpacker__at lk_at ?_
  walk_at "z"
  refine Cw.z_fld h1 T.q_Unpacker T.nf_Unpacker__nybbles lk_nyb ?_
  walk_at "z"
  rw [List.length_map]
  refine z_if (fun _ => ?_) (fun k => absurd (show (t : Int) < (N.length : Int) by omega) k)
  walk_at "z"
  refine Cw.z_fld h1 T.q_Unpacker T.nf_Unpacker__nybbles lk_nyb ?_
  walk_at "z"
  refine Cw.z_fld h1 T.q_Unpacker T.nf_Unpacker__at lk_at ?_
  refine z_ixL (.inl (.inl hN)) (v := .int x) (atI_nat (by rw [List.getElem?_map, hx]; rfl)) ?_
  walk_at "z"
  exact q
end
/-- the next length is read -/
def sp_Unpacker__read_length (K : PySem.W.Frag) (C : Addr) : Sp := fun vs H Q _ => ∃ (H0 : Hp) (u Na : Addr) (N : List Int) (w : Int) (c n t : Nat) (done : List (List Int)) (line : List Int) (rp : Option Nat) (l : Nat) (r : List Int), vs = [.ref u] ∧ UnS C K H0 H u Na N w c n t done line rp ∧ Wy w l ∧ N.drop t = nyb w l ++ r ∧
  ∀ H', UnS C K H0 H' u Na N w c n (t + (nyb w l).length) done line rp → Q (.int (l : Int)) H'
theorem nz_le2 {w n : Int} (h : Wy w n) (r : List Int) : nz (nyb w n ++ r) ≤ 2 := by
  rcases nyb_cases h with ⟨e, h1, h2⟩ | ⟨a, b, e, h1, h2⟩ | ⟨a, b, e, h1, h2⟩ | ⟨a, b, c, e, h1, h2⟩ <;> rw [e]
  · show nz (n :: r) ≤ 2
    rw [nz0 (by omega)]
    omega
  · show nz (a :: b :: r) ≤ 2
    have := h.1
    rw [nz0 (by omega)]
    omega
  · show nz (0 :: a :: b :: r) ≤ 2
    rw [nz1, nz0 (by omega)]
    omega
  · show nz (0 :: 0 :: a :: b :: c :: r) ≤ 2
    rw [nz1, nz1, nz0 (by omega)]
    omega
section
theorem ok_Unpacker__read_length {P : Program} {w : World} {K : PySem.W.Frag} {mg : Str → Option Value} {base : Heap} {A : Nat → Addr} {D : Nat → FuncData} (T : Txt K mg A D base) : FnOk P w K mg base (L2.CX P w) 4 (A 15) (D 15) ["self"] (sp_Unpacker__read_length K (A 0)) := by
  refine T.F_Unpacker__read_length.okX sc_Unpacker__read_length (fun vs H Q E h => ?_) (fun cdv A' outer s H vs Q E hr h => ?_)
  · obtain ⟨H0, u, Na, N, w, c, n, t, done, line, rp, l, r, rfl, _⟩ := h
    rfl
  obtain ⟨H0, u, Na, N, w, c, n, t, done, line, rp, l, r, rfl, S, wy, hd, q⟩ := h
  refine ⟨_, (pss_cons (ps_if (pt_cmpR op_gt (pe_call (ok_zeros_at T) (hr.mono (by decide)) (by rfl) T.m_zeros_at T.F_zeros_at.kp T.b_zeros_at .nil (passes_call (takes_of rfl rfl rfl rfl) (fun _ _ _ _ h => h)) (pa_cons (pe_fld (pv 0) rfl) (pa_cons (pe_fld (pv 0) rfl) pa_nil))) (Z.pe_globE T.c_MOST_ZEROS) (nomark _))
  (pss_one Pk.ps_never)
  pss_nil)
  (pss_cons (ps_if (pt_cmpR op_gt (pe_op op_add (pe_fld (pv 0) rfl) (pe_call (ok_length_size T) (hr.mono (by decide)) (by rfl) T.m_length_size T.F_length_size.kp T.b_length_size .nil (passes_call (takes_of rfl rfl rfl rfl) (fun _ _ _ _ h => h)) (pa_cons (pe_fld (pv 0) rfl) (pa_cons (pe_fld (pv 0) rfl) (pa_cons (pe_fld (pv 0) rfl) pa_nil))))) (pe_callB Z.c_len (by rfl) T.z_len (by decide +kernel) (pa_cons (pe_fld (pv 0) rfl) pa_nil)) (nomark _))
  (pss_one Pk.ps_never)
  pss_nil)
  (pss_cons (ps_asg (pe_call (ok_read_length T) (hr.mono (by decide)) (by rfl) T.m_read_length T.F_read_length.kp T.b_read_length .nil (passes_call (takes_of rfl rfl rfl rfl) (fun _ _ _ _ h => h)) (pa_cons (pe_fld (pv 0) rfl) (pa_cons (pe_fld (pv 0) rfl) (pa_cons (pe_fld (pv 0) rfl) pa_nil)))) (pg_tup (by rfl) (pgs_cons (pg_name (i := 1) sc_Unpacker__read_length.nd rfl (.inl rfl)) (pgs_cons (Um.pg_fld (pv 0)) pgs_nil))))
  (pss_one (ps_ret (pv 1)))))), ?_⟩
  obtain ⟨dx, D, L, ds, h1, h2, h3, h4, h5, h6, h7⟩ := S.st
  have hN := S.same _ _ S.hN
  have a : At H Na N t w l r := ⟨hN, wy, hd⟩
  have a2 := a.lt
  have hlen : (nyb w l ++ r).length = N.length - t := by rw [← hd, List.length_drop]
  rw [List.length_append] at hlen
  walk_at "z"
  refine Cw.z_fld h1 T.q_Unpacker T.nf_Unpacker__nybbles lk_nyb ?_
  walk_at "z"
  refine Cw.z_fld h1 T.q_Unpacker T.nf_Unpacker__at lk_at ?_
  walk_at "z"
  refine ⟨Na, N, t, rfl, hN, by omega, ?_⟩
  have n2 := nz_le2 wy r
  rw [hd]
  walk_at "z"
  refine z_if (fun k => absurd k (by omega)) (fun _ => ?_)
  walk_at "z"
  refine Cw.z_fld h1 T.q_Unpacker T.nf_Unpacker__at lk_at ?_
  walk_at "z"
  refine Cw.z_fld h1 T.q_Unpacker T.nf_Unpacker__nybbles lk_nyb ?_
  walk_at "z"
  refine Cw.z_fld h1 T.q_Unpacker T.nf_Unpacker__at lk_at ?_
  walk_at "z"
  refine Cw.z_fld h1 T.q_Unpacker T.nf_Unpacker__way lk_way ?_
  walk_at "z"
  refine ⟨Na, N, t, w, l, r, rfl, a, ?_⟩
  walk_at "z"
  refine Cw.z_fld h1 T.q_Unpacker T.nf_Unpacker__nybbles lk_nyb ?_
  walk_at "z"
  rw [List.length_map]
  refine z_if (fun k => absurd k (by omega)) (fun _ => ?_)
  walk_at "z"
  refine Cw.z_fld h1 T.q_Unpacker T.nf_Unpacker__nybbles lk_nyb ?_
  walk_at "z"
  refine Cw.z_fld h1 T.q_Unpacker T.nf_Unpacker__at lk_at ?_
  walk_at "z"
  refine Cw.z_fld h1 T.q_Unpacker T.nf_Unpacker__way lk_way ?_
  walk_at "z"
  refine ⟨Na, N, t, w, l, r, rfl, a, fun p H1 f1 s1 e1 => ?_⟩
  walk_at "z"
  have S1 := S.mono s1
  refine Um.z_gf (s1 _ _ h1) T.q_Unpacker T.nf_Unpacker__at fs8_len ?_
  rw [show (t : Int) + ((nyb w l).length : Nat) = ((t + (nyb w l).length : Nat) : Int) by omega, put_at]
  walk_at "z"
  exact q _ (S1.put (s1 _ _ h1))
end
theorem head_at {N : List Int} {t : Nat} {x : Int} {r : List Int} (h : N.drop t = x :: r) : N[t]? = some x ∧ N.drop (t + 1) = r := by
  have h1 := congrArg (·[0]?) h
  simp only [List.getElem?_drop] at h1
  refine ⟨h1, ?_⟩
  rw [← List.drop_drop, h]
  rfl
def sp_Unpacker__read_repeats (K : PySem.W.Frag) (C : Addr) : Sp := fun vs H Q _ => ∃ (H0 : Hp) (u Na : Addr) (N : List Int) (w : Int) (c n t : Nat) (done : List (List Int)) (line : List Int) (rp : Option Nat) (k l : Nat) (r : List Int), vs = [.ref u] ∧ UnS C K H0 H u Na N w c n t done line rp ∧ Wy w l ∧ 1 ≤ k ∧ k ≤ 2304 ∧ N.drop t = rep w k ++ (nyb w l ++ r) ∧ k + done.length + 1 ≤ n ∧
  ∀ H', UnS C K H0 H' u Na N w c n (t + (rep w k).length) done line rp → Q (.int (k : Int)) H'
section
theorem ok_Unpacker__read_repeats {P : Program} {w : World} {K : PySem.W.Frag} {mg : Str → Option Value} {base : Heap} {A : Nat → Addr} {D : Nat → FuncData} (T : Txt K mg A D base) : FnOk P w K mg base (L2.CX P w) 5 (A 14) (D 14) ["self"] (sp_Unpacker__read_repeats K (A 0)) := by
  refine T.F_Unpacker__read_repeats.okX sc_Unpacker__read_repeats (fun vs H Q E h => ?_) (fun cdv A' outer s H vs Q E hr h => ?_)
  · obtain ⟨H0, u, Na, N, w, c, n, t, done, line, rp, k, l, r, rfl, _⟩ := h
    rfl
  obtain ⟨H0, u, Na, N, w, c, n, t, done, line, rp, k, l, r, rfl, S, wy, k1, k2, hd, hn, q⟩ := h
  refine ⟨_, (pss_cons (ps_set (i := 1) sc_Unpacker__read_repeats.nd rfl (.inl rfl) (pe_ix ix_list (pe_fld (pv 0) rfl) (pe_fld (pv 0) rfl) (fun _ _ => rfl)))
  (pss_cons (ps_fldaug (pv 0) pe_int in_add)
  (pss_cons (ps_set (i := 2) sc_Unpacker__read_repeats.nd rfl (.inl rfl) pe_int)
  (Evl.pss_cut (ps_if (pt_cmpR op_eq (pv 1) (Z.pe_globE T.c_MANY_REPEATS) (nomark _))
  (pss_cons (ps_if (pt_val (pe_meth0 (pv 0) T.q_Unpacker T.m_Unpacker__is_at_repeats (ok_Unpacker__is_at_repeats T) (hr.mono (by decide)) T.b_Unpacker__is_at_repeats .nil (passes_call (takes_of rfl rfl rfl rfl) (fun _ _ _ _ h => h))))
  (pss_one Pk.ps_never)
  pss_nil)
  (pss_one (ps_set (i := 2) sc_Unpacker__read_repeats.nd rfl (.inl rfl) (pe_meth0 (pv 0) T.q_Unpacker T.m_Unpacker__read_length (ok_Unpacker__read_length T) (hr.mono (by decide)) T.b_Unpacker__read_length .nil (passes_call (takes_of rfl rfl rfl rfl) (fun _ _ _ _ h => h))))))
  pss_nil)
  (pss_cons (ps_if (pt_cmpR op_gt (pv 2) (pe_op op_sub (pe_op op_sub (pe_fld (pv 0) rfl) (pe_callB Z.c_len (by rfl) T.z_len (by decide +kernel) (pa_cons (pe_fld (pv 0) rfl) pa_nil))) pe_int) (nomark _))
  (pss_one Pk.ps_never)
  pss_nil)
  (pss_one (ps_ret (pv 2)))))))), ?_⟩
  obtain ⟨dx, D, L, ds, h1, h2, h3, h4, h5, h6, h7⟩ := S.st
  have hN := S.same _ _ S.hN
  walk_at "z"
  refine Cw.z_fld h1 T.q_Unpacker T.nf_Unpacker__nybbles lk_nyb ?_
  walk_at "z"
  refine Cw.z_fld h1 T.q_Unpacker T.nf_Unpacker__at lk_at ?_
  have hx : ∃ (x : Int) (tl : List Int), N.drop t = x :: tl ∧ ((k = 1 ∧ x = 15 ∧ (rep w k).length = 1) ∨ (2 ≤ k ∧ x = 14 ∧ tl = nyb w k ++ (nyb w l ++ r) ∧ (rep w k).length = 1 + (nyb w k).length)) := by
    rw [hd]
    unfold rep
    rw [if_neg (by omega)]
    by_cases e : k = 1
    · rw [if_pos e]
      exact ⟨15, _, rfl, .inl ⟨e, rfl, rfl⟩⟩
    · rw [if_neg e]
      exact ⟨14, _, rfl, .inr ⟨by omega, rfl, rfl, by rw [List.length_cons]; omega⟩⟩
  obtain ⟨x, tl, ex, cs⟩ := hx
  obtain ⟨hx, hd1⟩ := head_at ex
  refine z_ixL (.inl (.inl hN)) (v := .int x) (atI_nat (by rw [List.getElem?_map, hx]; rfl)) ?_
  walk_at "z"
  refine Um.z_fa h1 T.q_Unpacker T.nf_Unpacker__at lk_at ?_
  walk_at "z"
  refine Um.z_fe h1 fs8_len ?_
  rw [show (t : Int) + 1 = ((t + 1 : Nat) : Int) by omega, put_at]
  have S1 := S.put (t' := t + 1) (rp' := rp) h1
  generalize upd H u (.ins (A 0) dx (fs8 (.ref Na) w c n ((t + 1 : Nat) : Int) (.ref D) (.ref L) (repV rp))) = H1 at *
  walk_at "z"
  refine z_cut (fun σ' H' => σ' = [some (.ref u), some (.int x), some (.int (k : Int))] ∧ UnS (A 0) K H0 H' u Na N w c n (t + (rep w k).length) done line rp) ?_ ?_
  · walk_at "z"
    rcases cs with ⟨e1, e2, e3⟩ | ⟨e1, e2, e3, e4⟩
    · refine z_if (fun z => absurd z (by omega)) (fun _ => ?_)
      walk_at "z"
      refine ⟨by rw [e1]; rfl, ?_⟩
      rw [e3]
      exact S1
    · refine z_if (fun _ => ?_) (fun z => absurd e2 z)
      obtain ⟨dx1, D1, L1, ds1, g1, g2, g3, g4, g5, g6, g7⟩ := S1.st
      have wk : Wy w k := ⟨wy.1, wy.2.1, by omega, by omega⟩
      obtain ⟨y, tl2, ey, hy⟩ := nyb_0 wk
      have hy2 : N[t + 1]? = some y := (head_at (by rw [hd1, e3, ey]; rfl)).1
      walk_at "z"
      refine Cw.z_meth g1 (lk_no (by decide +kernel)) ?_
      walk_at "z"
      refine ⟨H0, u, Na, N, w, c, n, t + 1, done, line, rp, y, rfl, S1, hy2, ?_⟩
      walk_at "z"
      refine z_if (fun z => absurd z (by omega)) (fun _ => ?_)
      walk_at "z"
      refine Cw.z_meth g1 (lk_no (by decide +kernel)) ?_
      walk_at "z"
      refine ⟨H0, u, Na, N, w, c, n, t + 1, done, line, rp, k, nyb w l ++ r, rfl, S1, wk, by rw [hd1, e3], fun H2 S2 => ?_⟩
      walk_at "z"
      refine ⟨rfl, ?_⟩
      rw [e4, ← Nat.add_assoc]
      exact S2
  · rintro σ' H2 ⟨rfl, S2⟩
    obtain ⟨dx1, D1, L1, ds1, g1, g2, g3, g4, g5, g6, g7⟩ := S2.st
    have ld := g6.len
    walk_at "z"
    refine Cw.z_fld g1 T.q_Unpacker T.nf_Unpacker__count lk_cnt ?_
    walk_at "z"
    refine Cw.z_fld g1 T.q_Unpacker T.nf_Unpacker__done lk_done ?_
    walk_at "z"
    rw [List.length_map]
    refine z_if (fun z => absurd z (by omega)) (fun _ => ?_)
    walk_at "z"
    exact q H2 S2
end
def sp_Unpacker__add_pixel (K : PySem.W.Frag) (C : Addr) : Sp := fun vs H Q _ => ∃ (H0 : Hp) (u Na : Addr) (N : List Int) (w : Int) (c n t : Nat) (done : List (List Int)) (line : List Int) (rp : Option Nat) (p : Int), vs = [.ref u, .int p] ∧ UnS C K H0 H u Na N w c n t done line rp ∧ line.length ≤ 100 ∧ done.length + rp.getD 0 ≤ 900 ∧
  ((line ++ [p]).length = c → ∀ H', UnS C K H0 H' u Na N w c n t (done ++ List.replicate (1 + rp.getD 0) (line ++ [p])) [] none → Q .non H') ∧ ((line ++ [p]).length ≠ c → ∀ H', UnS C K H0 H' u Na N w c n t done (line ++ [p]) rp → Q .non H')
theorem RwAt.rep {K : PySem.W.Frag} {H : Hp} {a : Addr} {x : List Int} (h : SqT K H a (x.map V.int)) : ∀ (m : Nat) {as : List Addr} {xs : List (List Int)}, RwAt K H as xs → RwAt K H (as ++ List.replicate m a) (xs ++ List.replicate m x)
  | 0, as, xs, r => by
    show RwAt K H (as ++ []) (xs ++ [])
    rw [List.append_nil, List.append_nil]
    exact r
  | m + 1, as, xs, r => by
    have := (RwAt.rep h m r).snoc h
    rw [List.append_assoc, List.append_assoc, ← List.replicate_succ', ← List.replicate_succ'] at this
    exact this
section
theorem ok_Unpacker__add_pixel {P : Program} {w : World} {K : PySem.W.Frag} {mg : Str → Option Value} {base : Heap} {A : Nat → Addr} {D : Nat → FuncData} (T : Txt K mg A D base) : FnOk P w K mg base (L2.CX P w) 2 (A 18) (D 18) ["self", "pixel"] (sp_Unpacker__add_pixel K (A 0)) := by
  refine T.F_Unpacker__add_pixel.okX sc_Unpacker__add_pixel (fun vs H Q E h => ?_) (fun cdv A' outer s H vs Q E hr h => ?_)
  · obtain ⟨H0, u, Na, N, w, c, n, t, done, line, rp, p, rfl, _⟩ := h
    rfl
  obtain ⟨H0, u, Na, N, w, c, n, t, done, line, rp, p, rfl, S, ll, ld9, q1, q2⟩ := h
  refine ⟨_, (pss_cons (ps_expr (pe_bm PySem.F.plainAttrs_list PySem.F.slot_list_append PySem.F.type_list_append mt_append (pe_fld (pv 0) rfl) (pa_cons (pv 1) pa_nil)))
  (pss_one (ps_if (pt_cmpR op_eq (pe_callB Z.c_len (by rfl) T.z_len (by decide +kernel) (pa_cons (pe_fld (pv 0) rfl) pa_nil)) (pe_fld (pv 0) rfl) (nomark _))
  (pss_cons (ps_expr (pe_bm PySem.F.plainAttrs_list PySem.F.slot_list_extend PySem.F.type_list_extend mt_extend (pe_fld (pv 0) rfl) (pa_cons (pe_op op_rep (pe_lst (pa_cons (pe_callTy Z.c_tupOf (by rfl) T.z_tuple (by decide +kernel) (pa_cons (pe_fld (pv 0) rfl) pa_nil)) pa_nil)) (pe_op op_add pe_int (pe_meth0 (pv 0) T.q_Unpacker T.m_Unpacker__repeats_ahead (ok_Unpacker__repeats_ahead T) (hr.mono (by decide)) T.b_Unpacker__repeats_ahead .nil (passes_call (takes_of rfl rfl rfl rfl) (fun _ _ _ _ h => h))))) pa_nil)))
  (pss_cons (ps_fld (pv 0) (pe_lst pa_nil) rfl)
  (pss_one (ps_fld (pv 0) pe_non rfl))))
  pss_nil))), ?_⟩
  obtain ⟨dx, D, L, ds, h1, h2, h3, h4, h5, h6, h7⟩ := S.st
  have ld := h6.len
  walk_at "z"
  refine z_bmL (fun R q => by walk_at "z"; refine Cw.z_fld h1 T.q_Unpacker T.nf_Unpacker__line lk_line ?_; exact q) h7 ?_
  walk_at "z"
  refine z_append h7 (by rw [List.length_map]; omega) ?_
  have nuL : u ≠ L := fun z => by rw [z, h7] at h1; cases h1
  have nuD : u ≠ D := fun z => by rw [z, h5] at h1; cases h1
  have g1 : upd H L (.lst (line.map V.int ++ [.int p])) u = some (.ins (A 0) dx (fs8 (.ref Na) w c n t (.ref D) (.ref L) (repV rp))) := by rw [upd_ne nuL]; exact h1
  have g5 : upd H L (.lst (line.map V.int ++ [.int p])) D = some (.lst (ds.map V.ref)) := by rw [upd_ne h4]; exact h5
  have g6 := h6.tk (tk_new (o := .lst (line.map V.int ++ [.int p])) h7 (fun z => z))
  have g7 : upd H L (.lst (line.map V.int ++ [.int p])) L = some (.lst ((line ++ [p]).map V.int)) := by rw [upd_same, List.map_append]; rfl
  have gs : Same H0 (upd H L (.lst (line.map V.int ++ [.int p]))) := keep_new h3 S.same kp_at
  generalize upd H L (.lst (line.map V.int ++ [.int p])) = H1 at *
  have S1 : UnS (A 0) K H0 H1 u Na N w c n t done (line ++ [p]) rp := ⟨gs, S.fu, S.hN, dx, D, L, ds, g1, h2, h3, h4, g5, g6, g7⟩
  walk_at "z"
  refine Cw.z_fld g1 T.q_Unpacker T.nf_Unpacker__line lk_line ?_
  walk_at "z"
  refine Cw.z_fld g1 T.q_Unpacker T.nf_Unpacker__columns lk_col ?_
  walk_at "z"
  rw [List.length_map]
  refine z_if (fun cc => ?_) (fun cc => ?_)
  · walk_at "z"
    refine z_bmL (fun R q => by walk_at "z"; refine Cw.z_fld g1 T.q_Unpacker T.nf_Unpacker__done lk_done ?_; exact q) g5 ?_
    walk_at "z"
    refine Cw.z_fld g1 T.q_Unpacker T.nf_Unpacker__line lk_line ?_
    walk_at "z"
    refine z_tupOf (.inl (.inl g7)) fun tp H2 f2 s2 e2 => ?_
    walk_at "z"
    intro a H3 f3 s3 e3
    walk_at "z"
    have s13 := s2.trans s3
    refine Cw.z_meth (s13 _ _ g1) (lk_no (by decide +kernel)) ?_
    walk_at "z"
    refine ⟨H0, u, Na, N, w, c, n, t, done, line ++ [p], rp, rfl, S1.mono s13, ?_⟩
    walk_at "z"
    refine z_rep (1 + rp.getD 0) e3 (by omega) (by omega) fun b H4 f4 s4 e4 => ?_
    walk_at "z"
    have s14 := s13.trans s4
    have k5 := s14 _ _ g5
    refine z_extendW k5 e4 (by rw [List.length_map, List.length_replicate]; omega) ?_
    walk_at "z"
    have tk := tk_new (o := .lst (ds.map V.ref ++ List.replicate (1 + rp.getD 0) (.ref tp))) k5 (fun z => z)
    have hs : Same H0 (upd H4 D (.lst (ds.map V.ref ++ List.replicate (1 + rp.getD 0) (.ref tp)))) := keep_new h2 (gs.trans s14) kp_at
    have k1 : upd H4 D (.lst (ds.map V.ref ++ List.replicate (1 + rp.getD 0) (.ref tp))) u = _ := (upd_ne nuD).trans (s14 _ _ g1)
    have k6 := (g6.mono s14).tk tk
    have kt : SqT K (upd H4 D (.lst (ds.map V.ref ++ List.replicate (1 + rp.getD 0) (.ref tp)))) tp ((line ++ [p]).map V.int) := .inl (.inl (tk _ _ trivial ((s3.trans s4) _ _ e2)))
    have k7 : upd H4 D (.lst (ds.map V.ref ++ List.replicate (1 + rp.getD 0) (.ref tp))) D = some (.lst ((ds ++ List.replicate (1 + rp.getD 0) tp).map V.ref)) := by rw [upd_same, List.map_append, List.map_replicate]
    have f0 : ∀ x, upd H4 D (.lst (ds.map V.ref ++ List.replicate (1 + rp.getD 0) (.ref tp))) x = none → H0 x = none := fun x e => fresh_of hs e
    generalize upd H4 D (.lst (ds.map V.ref ++ List.replicate (1 + rp.getD 0) (.ref tp))) = H5 at *
    intro L2 H6 f6 s6 e6
    walk_at "z"
    refine Cw.z_sfld (s6 _ _ k1) T.q_Unpacker T.nf_Unpacker__line fs8_len ?_
    rw [put_line]
    walk_at "z"
    have nuL2 : L2 ≠ u := fun z => by rw [z, k1] at f6; cases f6
    have nDL2 : D ≠ L2 := fun z => by rw [← z, k7] at f6; cases f6
    refine Cw.z_sfld (C := (A 0)) (dx := dx) upd_same T.q_Unpacker T.nf_Unpacker__repeats fs8_len ?_
    rw [put_rep]
    walk_at "z"
    refine q1 (by omega) _ ?_
    have e7 : upd H6 u (.ins (A 0) dx (fs8 (.ref Na) w c n t (.ref D) (.ref L2) (repV rp))) u = some (.ins (A 0) dx (fs8 (.ref Na) w c n t (.ref D) (.ref L2) (repV rp))) := upd_same
    have tk6 := tk_new (o := .ins (A 0) dx (fs8 (.ref Na) w c n t (.ref D) (.ref L2) (repV rp))) (s6 _ _ k1) (fun z => z)
    refine ⟨?_, S.fu, S.hN, dx, D, L2, ds ++ List.replicate (1 + rp.getD 0) tp, upd_same, h2, f0 _ f6, nDL2, ?_, ?_, ?_⟩
    · exact keep_new S.fu (keep_new S.fu (hs.trans s6) kp_at) kp_at
    · rw [upd_ne nuD.symm, upd_ne nuD.symm]
      exact s6 _ _ k7
    · exact (((RwAt.rep kt _ k6).mono s6).tk tk6).tk (tk_new e7 (fun z => z))
    · rw [upd_ne nuL2, upd_ne nuL2]
      exact e6
  · walk_at "z"
    exact q2 (by omega) H1 S1
end
/-- one step of the pixels of a run -/
def PixS (c : Nat) (p : Int) (d d' : List (List Int)) (l l' : List Int) (r r' : Option Nat) : Prop :=
  ((l ++ [p]).length ≠ c ∧ d' = d ∧ l' = l ++ [p] ∧ r' = r) ∨ ((l ++ [p]).length = c ∧ d' = d ++ List.replicate (1 + r.getD 0) (l ++ [p]) ∧ l' = [] ∧ r' = none)
def sp_Unpacker_read_run (K : PySem.W.Frag) (C : Addr) : Sp := fun vs H Q _ => ∃ (H0 : Hp) (u Na : Addr) (N : List Int) (w : Int) (c n t : Nat) (done : List (List Int)) (line : List Int) (rp : Option Nat) (p : Int) (k l : Nat) (r : List Int) (fd : Nat → List (List Int)) (fl : Nat → List Int) (fr : Nat → Option Nat), vs = [.ref u, .int p] ∧ UnS C K H0 H u Na N w c n t done line rp ∧ Wy w l ∧ k ≤ 2304 ∧ c ≤ 1000 ∧ n ≤ 1000 ∧ N.drop t = rep w k ++ (nyb w l ++ r) ∧
  (k ≠ 0 → rp = none ∧ k + done.length + 1 ≤ n) ∧ fd 0 = done ∧ fl 0 = line ∧ fr 0 = (if k ≠ 0 then some k else rp) ∧ done.length + (fr 0).getD 0 ≤ n ∧ l + line.length ≤ (n - done.length - (fr 0).getD 0) * c ∧
  (∀ i, i < l → (fl i).length ≤ 100 ∧ (fd i).length + (fr i).getD 0 ≤ 900 ∧ PixS c p (fd i) (fd (i + 1)) (fl i) (fl (i + 1)) (fr i) (fr (i + 1))) ∧
  ∀ H', UnS C K H0 H' u Na N w c n (t + (rep w k).length + (nyb w l).length) (fd l) (fl l) (fr l) → Q .non H'
section
theorem ok_Unpacker_read_run {P : Program} {w : World} {K : PySem.W.Frag} {mg : Str → Option Value} {base : Heap} {A : Nat → Addr} {D : Nat → FuncData} (T : Txt K mg A D base) : FnOk P w K mg base (L2.CX P w) 6 (A 12) (D 12) ["self", "pixel"] (sp_Unpacker_read_run K (A 0)) := by
  refine T.F_Unpacker_read_run.okX sc_Unpacker_read_run (fun vs H Q E h => ?_) (fun cdv A' outer s H vs Q E hr h => ?_)
  · obtain ⟨H0, u, Na, N, w, c, n, t, done, line, rp, p, k, l, r, fd, fl, fr, rfl, _⟩ := h
    rfl
  obtain ⟨H0, u, Na, N, w, c, n, t, done, line, rp, p, k, l, r, fd, fl, fr, rfl, S, wy, k2, c1, n1, hd, hk, e1, e2, e3, b1, b2, st, q⟩ := h
  refine ⟨_, (pss_cons (ps_while (passes_of rfl) (pt_val (pe_meth0 (pv 0) T.q_Unpacker T.m_Unpacker__is_at_repeats (ok_Unpacker__is_at_repeats T) (hr.mono (by decide)) T.b_Unpacker__is_at_repeats .nil (passes_call (takes_of rfl rfl rfl rfl) (fun _ _ _ _ h => h))))
  (pss_cons (ps_if (pt_cmpR Z.op_notN1 (pe_fld (pv 0) rfl) pe_non (nomark _))
  (pss_one Pk.ps_never)
  pss_nil)
  (pss_one (ps_fld (pv 0) (pe_meth0 (pv 0) T.q_Unpacker T.m_Unpacker__read_repeats (ok_Unpacker__read_repeats T) (hr.mono (by decide)) T.b_Unpacker__read_repeats .nil (passes_call (takes_of rfl rfl rfl rfl) (fun _ _ _ _ h => h))) rfl))))
  (pss_cons (ps_set (i := 2) sc_Unpacker_read_run.nd rfl (.inl rfl) (pe_meth0 (pv 0) T.q_Unpacker T.m_Unpacker__read_length (ok_Unpacker__read_length T) (hr.mono (by decide)) T.b_Unpacker__read_length .nil (passes_call (takes_of rfl rfl rfl rfl) (fun _ _ _ _ h => h))))
  (pss_cons (ps_if (pt_cmpR op_gt (pv 2) (pe_meth0 (pv 0) T.q_Unpacker T.m_Unpacker__pixels_ahead (ok_Unpacker__pixels_ahead T) (hr.mono (by decide)) T.b_Unpacker__pixels_ahead .nil (passes_call (takes_of rfl rfl rfl rfl) (fun _ _ _ _ h => h))) (nomark _))
  (pss_one Pk.ps_never)
  pss_nil)
  (pss_one (ps_for (passes_of rfl) rfl (pi_range1 (by rfl) T.z_range (pa_cons (pv 2) pa_nil)) (pg_name (i := 3) sc_Unpacker_read_run.nd rfl (.inl rfl))
  (pss_one (ps_expr (pe_meth (pv 0) T.q_Unpacker T.m_Unpacker__add_pixel (ok_Unpacker__add_pixel T) (hr.mono (by decide)) T.b_Unpacker__add_pixel .nil (passes_call (takes_of rfl rfl rfl rfl) (fun _ _ _ _ h => h)) (pa_cons (pv 1) pa_nil))))))))), ?_⟩
  obtain ⟨y, tl, ey, hy⟩ := nyb_0 wy
  have hd1 : N.drop (t + (rep w k).length) = nyb w l ++ r := by rw [← List.drop_drop, hd, List.drop_left']; rfl
  have hy1 : N[t + (rep w k).length]? = some y := (head_at (by rw [hd1, ey]; rfl)).1
  walk_at "z"
  refine Li.z_whileW (fun m σ' H' => (∃ u2 u3, σ' = [some (.ref u), some (.int p), u2, u3]) ∧ ((m = 1 ∧ k ≠ 0 ∧ UnS (A 0) K H0 H' u Na N w c n t done line rp) ∨ (m = 0 ∧ UnS (A 0) K H0 H' u Na N w c n (t + (rep w k).length) done line (fr 0)))) (if k ≠ 0 then 1 else 0) ⟨⟨_, _, rfl⟩, ?_⟩ ?_
  · by_cases z : k = 0
    · refine .inr ⟨by rw [if_neg (fun x => x z)], ?_⟩
      rw [e3, if_neg (fun x => x z), show (rep w k).length = 0 by unfold rep; rw [if_pos z]; rfl]
      exact S
    · exact .inl ⟨by rw [if_pos z], z, S⟩
  rintro m σ' H1 ⟨⟨u2, u3, rfl⟩, ⟨rfl, k0, S1⟩ | ⟨rfl, S1⟩⟩
  · obtain ⟨dx, D, L, ds, h1, h2, h3, h4, h5, h6, h7⟩ := S1.st
    obtain ⟨rn, hkn⟩ := hk k0
    have hx : ∃ x, N[t]? = some x ∧ 14 ≤ x := by
      unfold rep at hd
      rw [if_neg k0] at hd
      split at hd
      · exact ⟨15, (head_at hd).1, by decide⟩
      · exact ⟨14, (head_at hd).1, by decide⟩
    obtain ⟨x, hx, hx2⟩ := hx
    walk_at "z"
    refine Cw.z_meth h1 (lk_no (by decide +kernel)) ?_
    walk_at "z"
    refine ⟨H0, u, Na, N, w, c, n, t, done, line, rp, x, rfl, S1, hx, ?_⟩
    rw [decide_eq_true hx2]
    walk_at "z"
    refine Li.z_wwT ?_
    walk_at "z"
    refine Cw.z_fld h1 T.q_Unpacker T.nf_Unpacker__repeats lk_rep ?_
    rw [rn]
    walk_at "z"
    refine z_notNN ?_
    walk_at "z"
    refine Cw.z_meth h1 (lk_no (by decide +kernel)) ?_
    walk_at "z"
    refine ⟨H0, u, Na, N, w, c, n, t, done, line, rp, k, l, r, rfl, S1, wy, by omega, k2, hd, hkn, fun H2 S2 => ?_⟩
    obtain ⟨dx2, D2, L2, ds2, g1, _⟩ := S2.st
    walk_at "z"
    refine Cw.z_sfld g1 T.q_Unpacker T.nf_Unpacker__repeats fs8_len ?_
    rw [put_rep]
    walk_at "z"
    refine ⟨0, by decide, ⟨_, _, rfl⟩, .inr ⟨rfl, ?_⟩⟩
    rw [e3, if_pos k0]
    exact S2.put (rp' := some k) g1
  · obtain ⟨dx, D, L, ds, h1, h2, h3, h4, h5, h6, h7⟩ := S1.st
    walk_at "z"
    refine Cw.z_meth h1 (lk_no (by decide +kernel)) ?_
    walk_at "z"
    refine ⟨H0, u, Na, N, w, c, n, _, done, line, fr 0, y, rfl, S1, hy1, ?_⟩
    rw [decide_eq_false (by omega)]
    walk_at "z"
    refine Li.z_wwF ?_
    walk_at "z"
    refine Cw.z_meth h1 (lk_no (by decide +kernel)) ?_
    walk_at "z"
    refine ⟨H0, u, Na, N, w, c, n, _, done, line, fr 0, l, r, rfl, S1, wy, hd1, fun H2 S2 => ?_⟩
    obtain ⟨dx2, D2, L2, ds2, g1, _⟩ := S2.st
    walk_at "z"
    refine Cw.z_meth g1 (lk_no (by decide +kernel)) ?_
    walk_at "z"
    refine ⟨H0, u, Na, N, w, c, n, _, done, line, fr 0, rfl, S2, c1, n1, b1, ?_⟩
    walk_at "z"
    refine z_if (fun z => absurd z (by omega)) (fun _ => ?_)
    walk_at "z"
    refine z_forR1 l (by have := wy.2.2.2; omega) (fun R q => by walk_at "z"; exact q) (fun i σ' H' => (∃ u3, σ' = [some (.ref u), some (.int p), some (.int (l : Int)), u3]) ∧ UnS (A 0) K H0 H' u Na N w c n (t + (rep w k).length + (nyb w l).length) (fd i) (fl i) (fr i)) ⟨⟨_, rfl⟩, by rw [e1, e2]; exact S2⟩ ?_ ?_
    · rintro i σ' H3 hi ⟨⟨u3', rfl⟩, S3⟩
      obtain ⟨dx3, D3, L3, ds3, g3, _⟩ := S3.st
      obtain ⟨s1, s2, s3⟩ := st i hi
      walk_at "z"
      refine Cw.z_meth g3 (lk_no (by decide +kernel)) ?_
      walk_at "z"
      refine ⟨H0, u, Na, N, w, c, n, _, fd i, fl i, fr i, p, rfl, S3, s1, s2, fun z H4 S4 => ?_, fun z H4 S4 => ?_⟩
      · walk_at "z"
        rcases s3 with ⟨z2, _⟩ | ⟨_, x1, x2, x3⟩
        · exact absurd z z2
        · refine ⟨⟨_, rfl⟩, ?_⟩
          rw [x1, x2, x3]
          exact S4
      · walk_at "z"
        rcases s3 with ⟨_, x1, x2, x3⟩ | ⟨z2, _⟩
        · refine ⟨⟨_, rfl⟩, ?_⟩
          rw [x1, x2, x3]
          exact S4
        · exact absurd z2 z
    · rintro σ' H3 ⟨⟨u3', rfl⟩, S3⟩
      walk_at "z"
      exact q H3 S3
end
def sp_Unpacker_init (K : PySem.W.Frag) (C : Addr) : Sp := fun vs H Q _ => ∃ (u dx Na : Addr) (w : Int) (c n : Nat), vs = [.ref u, .ref Na, .int w, .int (c : Int), .int (n : Int)] ∧ H u = some (.ins C dx []) ∧
  ∀ H' D L, Kp u H H' → H' u = some (.ins C dx (fs8 (.ref Na) w c n (0 : Nat) (.ref D) (.ref L) (repV none))) → H D = none → H L = none → D ≠ L → H' D = some (.lst []) → H' L = some (.lst []) → Q .non H'
theorem putF_le (f : Str) (v : V) : ∀ l : List (Str × V), (putF f v l).length ≤ l.length + 1
  | [] => Nat.le_refl _
  | (g, w) :: l => by
    unfold putF
    have := putF_le f v l
    split
    · simp
    · simp only [List.length_cons]
      omega
theorem z_sfldK {K : PySem.W.Frag} {C dx u : Addr} {fs : List (Str × V)} {f : Str} {v : V} {H0 H : Hp} {n : Hp → Prop} (m : Nat) (hm : fs.length ≤ m) (e : H u = some (.ins C dx fs)) (c : Cls K C) (no : NoAttr K C f) (l : m < 1000) (k : Kp u H0 H)
    (q : ∀ H', Kp u H0 H' → (∀ b, b ≠ u → H' b = H b) → H' u = some (.ins C dx (putF f v fs)) → (putF f v fs).length ≤ m + 1 → n H') : Cw.QSet K f v n (.ref u) H :=
  Cw.z_sfld e c no (by omega) (q _ (k.trans' kp_at) (fun b hb => upd_ne hb) upd_same (by have := putF_le f v fs; omega))
section
theorem ok_Unpacker___init__ {P : Program} {w : World} {K : PySem.W.Frag} {mg : Str → Option Value} {base : Heap} {A : Nat → Addr} {D : Nat → FuncData} (T : Txt K mg A D base) : FnOk P w K mg base (L2.CX P w) 1 (A 9) (D 9) ["self", "nybbles", "way", "columns", "count"] (sp_Unpacker_init K (A 0)) := by
  refine T.F_Unpacker___init__.okX sc_Unpacker___init__ (fun vs H Q E h => ?_) (fun cdv A' outer s H vs Q E hr h => ?_)
  · obtain ⟨u, dx, Na, w, c, n, rfl, _⟩ := h
    rfl
  obtain ⟨u, dx, Na, w, c, n, rfl, hp, q⟩ := h
  refine ⟨_, (pss_cons (ps_fld (pv 0) (pv 1) rfl)
  (pss_cons (ps_fld (pv 0) (pv 2) rfl)
  (pss_cons (ps_fld (pv 0) (pv 3) rfl)
  (pss_cons (ps_fld (pv 0) (pv 4) rfl)
  (pss_cons (ps_fld (pv 0) pe_int rfl)
  (pss_cons (ps_fld (pv 0) (pe_lst pa_nil) rfl)
  (pss_cons (ps_fld (pv 0) (pe_lst pa_nil) rfl)
  (pss_one (ps_fld (pv 0) pe_non rfl))))))))), ?_⟩
  walk_at "z"
  refine z_sfldK 0 (Nat.le_refl _) hp T.q_Unpacker T.nf_Unpacker__nybbles (by decide) kp_refl fun H1 k1 e1 g1 l1 => ?_
  walk_at "z"
  refine z_sfldK 1 l1 g1 T.q_Unpacker T.nf_Unpacker__way (by decide) k1 fun H2 k2 e2 g2 l2 => ?_
  walk_at "z"
  refine z_sfldK 2 l2 g2 T.q_Unpacker T.nf_Unpacker__columns (by decide) k2 fun H3 k3 e3 g3 l3 => ?_
  walk_at "z"
  refine z_sfldK 3 l3 g3 T.q_Unpacker T.nf_Unpacker__count (by decide) k3 fun H4 k4 e4 g4 l4 => ?_
  walk_at "z"
  refine z_sfldK 4 l4 g4 T.q_Unpacker T.nf_Unpacker__at (by decide) k4 fun H5 k5 e5 g5 l5 => ?_
  walk_at "z"
  intro D H6 f6 s6 h6
  walk_at "z"
  have nDu : D ≠ u := fun z => by rw [z, g5] at f6; cases f6
  refine z_sfldK 5 l5 (s6 _ _ g5) T.q_Unpacker T.nf_Unpacker__done (by decide) (k5.trans' (kp_of s6)) fun H7 k7 e7 g7 l7 => ?_
  walk_at "z"
  intro L H8 f8 s8 h8
  walk_at "z"
  have nLu : L ≠ u := fun z => by rw [z, g7] at f8; cases f8
  have hD7 : H7 D = some (.lst []) := (e7 D nDu).trans h6
  have nDL : D ≠ L := ne_of_none hD7 f8
  refine z_sfldK 6 l7 (s8 _ _ g7) T.q_Unpacker T.nf_Unpacker__line (by decide) (k7.trans' (kp_of s8)) fun H9 k9 e9 g9 l9 => ?_
  walk_at "z"
  refine z_sfldK 7 l9 g9 T.q_Unpacker T.nf_Unpacker__repeats (by decide) k9 fun H10 k10 e10 g10 l10 => ?_
  walk_at "z"
  refine q H10 D L k10 ?_ (kp_none k5 f6 nDu) (kp_none k7 f8 nLu) nDL ?_ ?_
  · rw [g10]
    unfold fs8
    with_unfolding_all rfl
  · rw [e10 D nDu, e9 D nDu]
    exact s8 _ _ hD7
  · rw [e10 L nLu, e9 L nLu]
    exact h8
end
theorem ec_prefix (w : Int) (reps : List Nat) (a b : List (Nat × Nat)) : ∃ z, (EC w reps (a ++ b)).1 = (EC w reps a).1 ++ z := by
  refine snoc_ind (P := fun b => ∃ z, (EC w reps (a ++ b)).1 = (EC w reps a).1 ++ z) ⟨[], by rw [List.append_nil, List.append_nil]⟩ (fun b x ih => ?_) b
  obtain ⟨z, e⟩ := ih
  refine ⟨z ++ rep w ((EC w reps (a ++ b)).2.getD x.1 0) ++ nyb w x.2, ?_⟩
  rw [← List.append_assoc, ec_app]
  show (EC w reps (a ++ b)).1 ++ rep w _ ++ nyb w x.2 = _
  rw [e]
  simp only [List.append_assoc]
theorem ec_at (w : Int) (reps : List Nat) {rl : List (Nat × Nat)} {i r l : Nat} (h : rl[i]? = some (r, l)) : (∃ z, (EC w reps rl).1.drop (EC w reps (rl.take i)).1.length = rep w ((EC w reps (rl.take i)).2.getD r 0) ++ (nyb w l ++ z)) ∧
    (EC w reps (rl.take (i + 1))).1.length = (EC w reps (rl.take i)).1.length + (rep w ((EC w reps (rl.take i)).2.getD r 0)).length + (nyb w l).length := by
  have e4 : rl.take (i + 1) = rl.take i ++ [(r, l)] := by rw [List.take_add_one, h]; rfl
  have e5 : (EC w reps (rl.take (i + 1))).1 = (EC w reps (rl.take i)).1 ++ rep w ((EC w reps (rl.take i)).2.getD r 0) ++ nyb w l := by
    rw [e4, ec_app]
    rfl
  obtain ⟨z, e⟩ := ec_prefix w reps (rl.take (i + 1)) (rl.drop (i + 1))
  rw [List.take_append_drop] at e
  refine ⟨⟨z, ?_⟩, ?_⟩
  · rw [e, e5, List.append_assoc, List.append_assoc, List.drop_left']
    rfl
  · rw [e5, List.length_append, List.length_append]
theorem RwAt.sx {K : PySem.W.Frag} {H H' : Hp} (k : Tg.SameX H H') : ∀ {as : List Addr} {xs : List (List Int)}, RwAt K H as xs → RwAt K H' as xs
  | [], [], _ => trivial
  | _ :: _, _ :: _, h => ⟨k.seqT h.1, RwAt.sx k h.2⟩
  | [], _ :: _, h => h.elim
  | _ :: _, [], h => h.elim
theorem dpa_intsI {K : PySem.W.Frag} {H : Hp} : ∀ {x : List Int} {vs : List V}, DpAll K H vs (x.map PyData.int) → vs = x.map V.int
  | [], _, h => dpa_nil h
  | i :: x, _, h => by
    obtain ⟨v, r, rfl, h1, h2⟩ := dpa_cons h
    rw [dp_int h1, dpa_intsI h2]
    rfl
theorem dpa_rw {K : PySem.W.Frag} {H : Hp} : ∀ {rs : List (List Int)} {vs : List V}, DpAll K H vs (rs.map rowD) → ∃ as : List Addr, vs = as.map V.ref ∧ RwAt K H as rs
  | [], _, h => ⟨[], dpa_nil h, trivial⟩
  | x :: rs, _, h => by
    obtain ⟨v, r, rfl, h1, h2⟩ := dpa_cons h
    obtain ⟨a, vs, rfl, h3, h4⟩ := dp_tup h1
    obtain ⟨as, rfl, h5⟩ := dpa_rw h2
    exact ⟨a :: as, rfl, by rw [← dpa_intsI h4]; exact h3, h5⟩
def RetR (K : PySem.W.Frag) (H : Hp) (Q : VK) (rs : List (List Int)) : Prop := ∀ r d ds (t : Int) H', Tg.SameX H H' → H' r = some (.tup [.ref d, .int t]) → H' d = some (.tup (ds.map V.ref)) → RwAt K H' ds rs → Q (.ref r) H'
theorem range_getD (P : List Int) : ((List.range P.length).map fun k => P.getD k 0) = P := by
  refine List.ext_getElem? fun i => ?_
  rw [List.getElem?_map]
  rcases Nat.lt_or_ge i P.length with h | h
  · rw [List.getElem?_range h, List.getElem?_eq_getElem h]
    show some (P.getD i 0) = _
    rw [List.getD_eq_getElem?_getD, List.getElem?_eq_getElem h]
    rfl
  · rw [List.getElem?_eq_none h, List.getElem?_eq_none (by rw [List.length_range]; exact h)]
    rfl
theorem pad_row {P : List Int} {M a c : Nat} (hM : P.length ≤ M) (h : a + c ≤ P.length) : cutV (((List.range M).map fun k => P.getD k 0).map V.int) (some (a : Int)) (some ((a : Int) + (c : Int))) = ((P.take (a + c)).drop a).map V.int := by
  have hl : (((List.range M).map fun k => P.getD k 0).map V.int).length = M := by rw [List.length_map, List.length_map, List.length_range]
  have e1 : ((List.range M).map fun k => P.getD k 0).take (a + c) = P.take (a + c) := by
    conv => rhs; rw [← range_getD P]
    rw [← List.map_take, ← List.map_take, List.take_range, List.take_range, Nat.min_eq_left h, Nat.min_eq_left (by omega)]
  unfold cutV
  rw [show (a : Int) + (c : Int) = ((a + c : Nat) : Int) by omega, HT.sIx_nat, HT.sIx_nat, hl, Nat.min_eq_left (by omega), Nat.min_eq_left (by omega), List.take_drop, show a + (a + c - a) = a + c by omega, ← List.map_take, ← List.map_drop, e1]
def sp_unpacked_bits (K : PySem.W.Frag) (TP : Addr) : Sp := fun vs H Q _ => ∃ (Na : Addr) (rs : List (List Int)) (c : Nat), vs = [.ref Na, .int (c : Int), .int (rs.length : Int)] ∧ Kc rs c ∧ c ≤ 48 ∧ rs.length ≤ 48 ∧ H Na = some (.lst ((bitsN rs.flatten).map V.int)) ∧ GxR.TabG H TP ∧ RetR K H Q rs
section
theorem ok_unpacked_bits {P : Program} {w : World} {K : PySem.W.Frag} {mg : Str → Option Value} {base : Heap} {A : Nat → Addr} {D : Nat → FuncData} (T : Txt K mg A D base) : FnOk P w K mg base (L2.CX P w) 2 (A 8) (D 8) ["nybbles", "columns", "count"] (sp_unpacked_bits K (A 34)) := by
  refine T.F_unpacked_bits.okC T.k_unpacked_bits sc_unpacked_bits (fun vs H Q E h => ?_) (fun A' outer s H vs Q E hr h => ?_)
  · obtain ⟨Na, rs, c, rfl, _⟩ := h
    rfl
  obtain ⟨Na, rs, c, rfl, kc, c48, n48, hN, tG, q⟩ := h
  refine ⟨_, (pss_cons (ps_set (i := 3) sc_unpacked_bits.nd rfl (.inl rfl) (pe_op op_mulW (pv 1) (pv 2)))
  (pss_cons (ps_set (i := 4) sc_unpacked_bits.nd rfl (.inl rfl) (pe_op op_fdivW (pe_op op_sub (pe_op op_add (pv 3) (Z.pe_globE T.c_NYBBLE_BITS)) pe_int) (Z.pe_globE T.c_NYBBLE_BITS)))
  (pss_cons (ps_if (pt_cmpR op_lt (pe_callB Z.c_len (by rfl) T.z_len (by decide +kernel) (pa_cons (pv 0) pa_nil)) (pv 4) (nomark _))
  (pss_one Pk.ps_never)
  pss_nil)
  (pss_cons (ps_set (i := 5) sc_unpacked_bits.nd rfl (.inr rfl) (pe_lst pa_nil))
  (pss_cons (ps_for (passes_of rfl) rfl (pi_list (pe_slice sl_list (pv 0) po_none (po_some (pv 4)))) (pg_name (i := 6) sc_unpacked_bits.nd rfl (.inl rfl))
  (pss_one (ps_expr (pe_bm PySem.F.plainAttrs_list PySem.F.slot_list_extend PySem.F.type_list_extend mt_extend (pv 5) (pa_cons (pe_lst (pa_cons (pe_op op_andM (pe_op op_shrN (pv 6) pe_int) pe_int) (pa_cons (pe_op op_andM (pe_op op_shrN (pv 6) pe_int) pe_int) (pa_cons (pe_op op_andM (pe_op op_shrN (pv 6) pe_int) pe_int) (pa_cons (pe_op op_andM (pv 6) pe_int) pa_nil))))) pa_nil)))))
  (pss_cons (ps_if (pt_cmpR op_in_seq pe_int (pe_slice sl_list (pv 5) (po_some (pv 3)) po_none) (by rfl))
  (pss_one Pk.ps_never)
  pss_nil)
  (pss_cons (ps_set (i := 7) sc_unpacked_bits.nd rfl (.inl rfl) (Tg.pe_tupG (k := 0) (own := [("at", 8)]) (g := gName 8) hr T.t_unpacked_bits rfl sc_unpacked_bits.nd (pi_range3 (by rfl) T.z_range (pa_cons pe_int (pa_cons (pv 3) (pa_cons (pv 1) pa_nil)))) (blkOk_by (N := ["nybbles", "columns", "count", "total", "size", "pixels", "nybble", "rows", "at"]) (sc := defScope s_unpacked_bits) (by decide +kernel)) (by decide +kernel) rfl rfl (fun A' s H C code cl fp => pg_name (i := 8) sc_unpacked_bits.nd rfl (Or.inl rfl)) (fun A' s H C code cl fp hr => (pe_callTy (show CallR _ (.type "tuple") (Z.rTupOf K) from Z.c_tupOf) (by rfl) T.z_tuple (by decide +kernel) (pa_cons (pe_slice (show SlR _ (rSlL K) from sl_list) (pv 5) (po_some (pv 8)) (po_some (pe_op op_add (pv 8) (pv 1)))) pa_nil))) (by rfl) T.z_tuple))
  (pss_one (ps_ret (pe_tup (pa_cons (pv 7) (pa_cons (pv 4) pa_nil)))))))))))), ?_⟩
  have fl := flat_len kc.len
  have fl2 : ∀ p ∈ rs.flatten, p = 0 ∨ p = 1 := fun p hp => by
    obtain ⟨x, hx, hp⟩ := List.mem_flatten.mp hp
    exact kc.b x hx p hp
  have mb : rs.length * c ≤ 48 * 48 := Nat.mul_le_mul n48 c48
  walk_at "z"
  have nc : (c : Int) * (rs.length : Int) = ((rs.flatten.length : Nat) : Int) := by rw [fl, Nat.mul_comm, Int.natCast_mul]
  refine z_I (wm (by omega) (by omega)) ?_
  walk_at "z"
  rw [nc]
  have fb : rs.flatten.length ≤ 2304 := by omega
  have lb : (bitsN rs.flatten).length = (rs.flatten.length + 3) / 4 := by
    unfold bitsN
    rw [List.length_map, List.length_range]
  have frow : ∀ j x, rs[j]? = some x → (rs.flatten.take (j * c + c)).drop (j * c) = x := fun j x h => flat_row kc.len h
  generalize hP : rs.flatten = P at *
  refine z_I (wide_div (b := 3) (by decide) (by omega) (by decide) (by decide)) ?_
  walk_at "z"
  rw [show ((P.length : Int) + 4 - 1) / 4 = (((P.length + 3) / 4 : Nat) : Int) by omega]
  rw [List.length_map, lb]
  refine z_if (fun z => absurd z (by omega)) (fun _ => ?_)
  walk_at "z"
  intro A H1 f1 s1 h1
  walk_at "z"
  refine ⟨_, rfl, ?_⟩
  refine z_slL (.inl (.inl (s1 _ _ hN))) (cut_to (k := (P.length + 3) / 4) (by rw [List.length_map, lb]; exact Nat.le_refl _)) fun B H2 f2 s2 h2 => ?_
  rw [List.take_of_length_le (by rw [List.length_map, lb]; exact Nat.le_refl _)] at h2
  have fA0 := f1
  have nBA : B ≠ A := (ne_of_none h1 f2).symm
  refine z_forL (fun R q => q) (.inl (.inl h2)) (fun i σ' H' => Same H H' ∧ H' B = some (.lst ((bitsN P).map V.int)) ∧ (∃ u6, σ' = [some (.ref Na), some (.int (c : Int)), some (.int (rs.length : Int)), some (.int (P.length : Int)), some (.int (((P.length + 3) / 4 : Nat) : Int)), some (.ref A), u6, none, none]) ∧ H' A = some (.lst (((List.range (4 * i)).map fun k => P.getD k 0).map V.int))) ⟨s1.trans s2, h2, ⟨_, rfl⟩, s2 _ _ h1⟩ (fun i σ' H' _ h => .inl (.inl h.2.1)) ?_ ?_
  · rintro i x σ' H3 hx ⟨s3, hB3, ⟨u6, rfl⟩, hA3⟩
    rw [List.getElem?_map] at hx
    obtain ⟨v, hv, e⟩ := Option.map_eq_some_iff.mp hx
    cases e
    have g : ∀ k, P.getD k 0 = 0 ∨ P.getD k 0 = 1 := fun k => by
      rw [List.getD_eq_getElem?_getD]
      cases e : P[k]? with
      | none => exact .inl rfl
      | some p => exact fl2 p (List.mem_of_getElem? e)
    have hi := (List.getElem?_eq_some_iff.mp hv).1
    rw [lb] at hi
    have hv2 : v = 8 * P.getD (4 * i) 0 + 4 * P.getD (4 * i + 1) 0 + 2 * P.getD (4 * i + 2) 0 + P.getD (4 * i + 3) 0 := by
      unfold bitsN at hv
      rw [List.getElem?_map, List.getElem?_range hi] at hv
      exact (Option.some.inj hv).symm
    have nw : ((List.range (4 * (i + 1))).map fun k => P.getD k 0) = ((List.range (4 * i)).map fun k => P.getD k 0) ++ [P.getD (4 * i) 0, P.getD (4 * i + 1) 0, P.getD (4 * i + 2) 0, P.getD (4 * i + 3) 0] := by
      rw [show 4 * (i + 1) = 4 * i + 1 + 1 + 1 + 1 by omega, List.range_succ, List.range_succ, List.range_succ, List.range_succ]
      simp
    rw [nw]
    have b0 := g (4 * i)
    have b1 := g (4 * i + 1)
    have b2 := g (4 * i + 2)
    have b3 := g (4 * i + 3)
    generalize P.getD (4 * i) 0 = p0 at *
    generalize P.getD (4 * i + 1) 0 = p1 at *
    generalize P.getD (4 * i + 2) 0 = p2 at *
    generalize P.getD (4 * i + 3) 0 = p3 at *
    walk_at "z"
    refine z_bmL (fun R q => by walk_at "z"; exact q) hA3 ?_
    walk_at "z"
    refine ⟨v, 3, rfl, rfl, ?_⟩
    walk_at "z"
    refine ⟨_, 1, rfl, rfl, ?_⟩
    walk_at "z"
    refine ⟨v, 2, rfl, rfl, ?_⟩
    walk_at "z"
    refine ⟨_, 1, rfl, rfl, ?_⟩
    walk_at "z"
    refine ⟨v, 1, rfl, rfl, ?_⟩
    walk_at "z"
    refine ⟨_, 1, rfl, rfl, ?_⟩
    walk_at "z"
    refine ⟨v, 1, rfl, rfl, ?_⟩
    walk_at "z"
    intro L4 H4 f4 s4 h4
    walk_at "z"
    have hA4 := s4 _ _ hA3
    refine z_extendW hA4 h4 (by rw [List.length_map, List.length_map, List.length_range]; exact Nat.le_trans (Nat.add_le_add_right (show 4 * i ≤ 100000 by omega) _) (by show 100000 + 4 ≤ 1000000; decide)) ?_
    walk_at "z"
    refine ⟨keep_new fA0 (s3.trans s4) kp_at, by rw [upd_ne nBA]; exact s4 _ _ hB3, ⟨_, rfl⟩, ?_⟩
    rw [upd_same, List.map_append]
    congr 2
    have e0 : v / 2 ^ 3 % 2 ^ 1 = p0 := by omega
    have e1 : v / 2 ^ 2 % 2 ^ 1 = p1 := by omega
    have e2 : v / 2 ^ 1 % 2 ^ 1 = p2 := by omega
    have e3 : v % 2 ^ 1 = p3 := by omega
    rw [e0, e1, e2, e3]
    rfl
  · rintro σ' H3 ⟨s3, hB3, ⟨u6, rfl⟩, hA3⟩
    rw [List.length_map, lb] at hA3
    walk_at "z"
    refine ⟨_, rfl, ?_⟩
    walk_at "z"
    refine z_slL (.inl (.inl hA3)) (cut_from (k := P.length) (by rw [List.length_map, List.length_map, List.length_range]; omega)) fun B4 H4 f4 s4 h4 => ?_
    rw [← List.map_drop] at h4
    refine z_inI h4 ?_
    have no1 : ¬ (1 : Int) ∈ ((List.range (4 * ((P.length + 3) / 4))).map fun k => P.getD k 0).drop P.length := by
      intro z
      rw [← List.map_drop] at z
      obtain ⟨k, hk, e⟩ := List.mem_map.mp z
      have : P.length ≤ k := by
        obtain ⟨j, hj⟩ := List.mem_iff_getElem?.mp hk
        rw [List.getElem?_drop] at hj
        obtain ⟨hj1, hj2⟩ := List.getElem?_eq_some_iff.mp hj
        rw [List.getElem_range] at hj2
        omega
      rw [List.getD_eq_getElem?_getD, List.getElem?_eq_none this] at e
      cases e
    rw [decide_eq_false no1]
    walk_at "z"
    have ppos : 1 ≤ c := kc.c0
    have hA4 := s4 _ _ hA3
    have tG4 : GxR.TabG H4 _ := (Tg.SameX.of (s3.trans s4)).tab _ tG
    have gq : ∀ q, q < P.length → P[q]? = some (P.getD q 0) := fun q hq => by
      rw [List.getD_eq_getElem?_getD, List.getElem?_eq_getElem hq]
      rfl
    refine Tg.z_tupD (K := K) (G := fun _ => True) (rs.map rowD) (walk_rangeC (lo := 0) (c := (c : Int)) (n := rs.length)) (by rw [List.length_map]) (by omega) (fun R r => z_rng3 (len := P.length) ppos (by omega) (by omega) (by omega) (by omega) (fun S h => by walk_at "z"; exact h) r) tG4 (fun _ _ => trivial)
      (fun j x dd H5 H6 R hd hj s5 y hR => ?_) fun acc p H5 s5 hl e5 a5 => ?_
    · obtain ⟨rfl, ex⟩ := y
      rw [List.getElem?_map] at hd
      obtain ⟨row, hrow, e⟩ := Option.map_eq_some_iff.mp hd
      subst e
      have ex : x = .int ((j * c : Nat) : Int) := by
        rw [ex]
        show V.int (0 + (j : Int) * (c : Int)) = _
        congr 1
        rw [Int.natCast_mul]
        omega
      subst ex
      have hjc : j * c + c ≤ P.length := by
        rw [fl, ← Nat.succ_mul]
        exact Nat.mul_le_mul_right c hj
      refine z_gName ⟨rfl, ?_⟩
      walk_at "z"
      refine ⟨_, rfl, ?_⟩
      walk_at "z"
      refine ⟨_, rfl, ?_⟩
      refine z_slL (.inl (.inl (s5.lst hA4))) (pad_row (by omega) hjc) fun B7 H7 f7 s7 h7 => ?_
      rw [frow j row hrow] at h7
      walk_at "z"
      refine z_tupOf (.inl (.inl h7)) fun B8 H8 f8 s8 h8 => ?_
      exact hR _ H8 (Tg.SameX.of (s7.trans s8)) (dp_row (.inl (.inl h8)))
    · obtain ⟨as, rfl, ra⟩ := dpa_rw a5
      walk_at "z"
      intro r H6 f6 s6 h6
      exact q r p as _ H6 (((Tg.SameX.of (s3.trans s4)).trans s5).th s6) h6 (s6 _ _ e5) (ra.mono s6)
end
def sp_unpacked (K : PySem.W.Frag) (TP : Addr) : Sp := fun vs H Q _ => ∃ (Na : Addr) (rs : List (List Int)) (c : Nat) (w : Int) (x : List Int) (p0 : Int), vs = [.ref Na, .int w, .int (c : Int), .int (rs.length : Int), .int p0] ∧ Kc rs c ∧ c ≤ 48 ∧ rs.length ≤ 48 ∧ 0 ≤ w ∧ w ≤ 14 ∧ rs[0]? = some x ∧ x[0]? = some p0 ∧ H Na = some (.lst ((packN w rs).map V.int)) ∧ GxR.TabG H TP ∧ RetR K H Q rs
section
theorem ok_unpacked {P : Program} {w : World} {K : PySem.W.Frag} {mg : Str → Option Value} {base : Heap} {A : Nat → Addr} {D : Nat → FuncData} (T : Txt K mg A D base) : FnOk P w K mg base (L2.CX P w) 7 (A 7) (D 7) ["nybbles", "way", "columns", "count", "first_pixel"] (sp_unpacked K (A 34)) := by
  refine T.F_unpacked.okX sc_unpacked (fun vs H Q E h => ?_) (fun cdv A' outer s H vs Q E hr h => ?_)
  · obtain ⟨Na, rs, c, w, x, p0, rfl, _⟩ := h
    rfl
  obtain ⟨Na, rs, c, w, x, p0, rfl, kc, c48, n48, w0, w14, h0, hx, hN, tG, q⟩ := h
  refine ⟨_, (pss_cons (ps_if (pt_cmpR op_eq (pv 1) (Z.pe_globE T.c_BITS_WAY) (nomark _))
  (pss_one (ps_ret (pe_call (ok_unpacked_bits T) (hr.mono (by decide)) (by rfl) T.m_unpacked_bits T.F_unpacked_bits.kp T.b_unpacked_bits .nil (passes_call (takes_of rfl rfl rfl rfl) (fun _ _ _ _ h => h)) (pa_cons (pv 0) (pa_cons (pv 2) (pa_cons (pv 3) pa_nil))))))
  pss_nil)
  (pss_cons (ps_set (i := 5) sc_unpacked.nd rfl (.inl rfl) (pe_make T.M_Unpacker (ok_Unpacker___init__ T) (hr.mono (by decide)) (by rfl) T.g_Unpacker T.b_Unpacker___init__ .nil (passes_call (takes_of rfl rfl rfl rfl) (fun _ _ _ _ h => h)) (pa_cons (pv 0) (pa_cons (pv 1) (pa_cons (pv 2) (pa_cons (pv 3) pa_nil))))))
  (pss_cons (ps_set (i := 6) sc_unpacked.nd rfl (.inl rfl) (pv 4))
  (pss_cons (ps_while (passes_of rfl) (pt_not (pt_val (pe_meth0 (pv 5) T.q_Unpacker T.m_Unpacker_is_done (ok_Unpacker_is_done T) (hr.mono (by decide)) T.b_Unpacker_is_done .nil (passes_call (takes_of rfl rfl rfl rfl) (fun _ _ _ _ h => h)))))
  (pss_cons (ps_expr (pe_meth (pv 5) T.q_Unpacker T.m_Unpacker_read_run (ok_Unpacker_read_run T) (hr.mono (by decide)) T.b_Unpacker_read_run .nil (passes_call (takes_of rfl rfl rfl rfl) (fun _ _ _ _ h => h)) (pa_cons (pv 6) pa_nil)))
  (pss_one (ps_set (i := 6) sc_unpacked.nd rfl (.inl rfl) (pe_op op_sub pe_int (pv 6))))))
  (pss_one (ps_ret (pe_meth0 (pv 5) T.q_Unpacker T.m_Unpacker_result (ok_Unpacker_result T) (hr.mono (by decide)) T.b_Unpacker_result .nil (passes_call (takes_of rfl rfl rfl rfl) (fun _ _ _ _ h => h))))))))), ?_⟩
  walk_at "z"
  unfold packN at hN
  refine z_if (fun c14 => ?_) (fun c14 => ?_)
  · rw [if_pos c14] at hN
    walk_at "z"
    exact ⟨Na, rs, c, rfl, kc, c48, n48, hN, tG, q⟩
  rw [if_neg c14] at hN
  have w13 : w ≤ 13 := by omega
  have d := dec_of kc h0 hx
  have rw' : Rows rs := ⟨n48, fun y hy => by rw [kc.len y hy]; exact c48, kc.b⟩
  obtain ⟨rb, rlen⟩ := rw'.ks.runs
  have reps48 := rw'.reps
  have exl := ex_groups rs
  have fb : ((groups rs).map Prod.fst).flatten.length ≤ 2304 := rw'.ks.flat.1
  unfold packR at hN
  have mixL := ec_mem w ((groups rs).map Prod.snd)
  generalize hreps : (groups rs).map Prod.snd = reps at *
  generalize runsN ((groups rs).map Prod.fst) = rl at *
  generalize ((groups rs).map Prod.fst).flatten = F at *
  generalize groups rs = gr at *
  walk_at "z"
  intro u dx fu fdx ndu
  refine ⟨u, dx, Na, w, c, rs.length, rfl, upd_same, fun H1 D L k1 e1 fD fL nDL hD hL => ⟨rfl, ?_⟩⟩
  walk_at "z"
  have s1 : Same H H1 := fun b o e => by
    have nb : b ≠ u := ne_of_none e fu
    exact k1 b o nb (by rw [upd_ne nb, upd_ne (ne_of_none e fdx)]; exact e)
  have fD0 : H D = none := by
    cases e : H D with
    | none => rfl
    | some o =>
      have nb : D ≠ u := ne_of_none e fu
      rw [upd_ne nb, upd_ne (ne_of_none e fdx), e] at fD
      cases fD
  have fL0 : H L = none := by
    cases e : H L with
    | none => rfl
    | some o =>
      have nb : L ≠ u := ne_of_none e fu
      rw [upd_ne nb, upd_ne (ne_of_none e fdx), e] at fL
      cases fL
  have c0 := kc.c0
  have S1 : UnS (A 0) K H H1 u Na (EC w reps rl).1 w c rs.length 0 [] [] none := ⟨s1, fu, hN, dx, D, L, [], e1, fD0, fL0, nDL, hD, trivial, hL⟩
  refine Li.z_whileW (fun m σ' H' => ∃ i, i ≤ rl.length ∧ m = rl.length - i ∧ σ' = [some (.ref Na), some (.int w), some (.int (c : Int)), some (.int (rs.length : Int)), some (.int p0), some (.ref u), some (.int (colN p0 i))] ∧ UnS (A 0) K H H' u Na (EC w reps rl).1 w c rs.length (EC w reps (rl.take i)).1.length (dDone gr c (tot (rl.take i))) (dLine F c (tot (rl.take i))) (dRep gr rl c i (tot (rl.take i)))) rl.length ⟨0, Nat.zero_le _, rfl, rfl, ?_⟩ ?_
  · have z1 : dDone gr c (tot (rl.take 0)) = [] := by
      show ex (gr.take (0 / c)) = []
      rw [Nat.zero_div]
      rfl
    have z2 : dLine F c (tot (rl.take 0)) = [] := by
      show (F.take 0).drop _ = []
      simp
    have z3 : dRep gr rl c 0 (tot (rl.take 0)) = none := by
      unfold dRep
      exact if_neg fun z => by
        have := z.2
        simp at this
    rw [z1, z2, z3]
    exact S1
  rintro m σ' H2 ⟨i, hi, rfl, rfl, S2⟩
  obtain ⟨dx2, D2, L2, ds2, g1, _⟩ := S2.st
  walk_at "z"
  refine Cw.z_meth g1 (lk_no (by decide +kernel)) ?_
  walk_at "z"
  refine ⟨H, u, Na, _, w, c, rs.length, _, _, _, _, rfl, S2, ?_⟩
  walk_at "z"
  by_cases hlt : i < rl.length
  · obtain ⟨⟨r, l⟩, hrl⟩ : ∃ y, rl[i]? = some y := ⟨_, List.getElem?_eq_getElem hlt⟩
    have more := d.more hrl
    have room := d.room hrl
    have cur := d.cur w hrl
    obtain ⟨er, l1, hF, _⟩ := d.at_ hrl
    obtain ⟨⟨zr, hdr⟩, hl2⟩ := ec_at w reps hrl
    have ts := tot_succ hrl
    have rbi := rb _ (List.mem_of_getElem? hrl)
    rw [exl] at more room
    rw [hreps] at cur
    dsimp only at cur rbi ts
    have kb : (EC w reps (rl.take i)).2.getD r 0 ≤ 2304 := by
      rw [List.getD_eq_getElem?_getD]
      cases e : (EC w reps (rl.take i)).2[r]? with
      | none => exact Nat.zero_le _
      | some x =>
        rcases mixL (rl.take i) x (List.mem_of_getElem? e) with z | z
        · show x ≤ 2304
          omega
        · have := reps48 x z
          show x ≤ 2304
          omega
    have dll : ∀ q, q ≤ F.length → (dLine F c q).length ≤ 100 := fun q hq => by
      rw [d.line_len hq]
      have := Nat.mod_lt q c0
      omega
    have e14 : dRep gr rl c (i + 1) (tot (rl.take i)) = (if (EC w reps (rl.take i)).2.getD r 0 ≠ 0 then some ((EC w reps (rl.take i)).2.getD r 0) else dRep gr rl c i (tot (rl.take i))) := by
      rcases cur with ⟨z, e⟩ | ⟨z, e, e2, _⟩
      · rw [if_neg (fun y => y z)]
        exact e
      · rw [if_pos z]
        exact e2
    rw [decide_eq_false (by omega)]
    refine Li.z_wwT ?_
    walk_at "z"
    refine Cw.z_meth g1 (lk_no (by decide +kernel)) ?_
    walk_at "z"
    have lln : (dLine F c (tot (rl.take i))).length = tot (rl.take i) % c := d.line_len (by omega)
    refine ⟨H, u, Na, _, w, c, rs.length, _, _, _, _, colN p0 i, (EC w reps (rl.take i)).2.getD r 0, l, zr, fun j => dDone gr c (tot (rl.take i) + j), fun j => dLine F c (tot (rl.take i) + j), fun j => dRep gr rl c (i + 1) (tot (rl.take i) + j), rfl, S2, ⟨w0, w13, by omega, by omega⟩, kb, by omega, by omega, hdr, ?_, rfl, rfl, e14, ?_, ?_, ?_, ?_⟩
    · intro k0
      rcases cur with ⟨z, _⟩ | ⟨_, e, e2, xx, hgr⟩
      · exact absurd z k0
      · refine ⟨e, ?_⟩
        rw [e2] at room
        have r1 := room.1
        rw [Option.getD_some] at r1
        omega
    · show (dDone gr c (tot (rl.take i))).length + (dRep gr rl c (i + 1) (tot (rl.take i))).getD 0 ≤ rs.length
      omega
    · show l + (dLine F c (tot (rl.take i))).length ≤ (rs.length - (dDone gr c (tot (rl.take i))).length - (dRep gr rl c (i + 1) (tot (rl.take i))).getD 0) * c
      rw [lln]
      exact room.2
    · intro j hj
      obtain ⟨_, px⟩ := d.pix hrl (q := tot (rl.take i) + j) (by omega) (by omega)
      have dn : (dDone gr c (tot (rl.take i) + j)).length + (dRep gr rl c (i + 1) (tot (rl.take i) + j)).getD 0 ≤ 900 := by
        have hD : (dDone gr c (tot (rl.take i) + j)).length ≤ 48 := by
          unfold dDone
          have e : ex gr = ex (gr.take ((tot (rl.take i) + j) / c)) ++ ex (gr.drop ((tot (rl.take i) + j) / c)) := by rw [← ex_app, List.take_append_drop]
          have := congrArg List.length e
          rw [List.length_append, exl] at this
          omega
        have hR : (dRep gr rl c (i + 1) (tot (rl.take i) + j)).getD 0 ≤ 48 := by
          unfold dRep
          split
          · rw [List.getD_eq_getElem?_getD]
            cases e : gr[(tot (rl.take i) + j) / c]? with
            | none => exact Nat.zero_le _
            | some y => exact reps48 y.2 (by rw [← hreps]; exact List.mem_map_of_mem (List.mem_of_getElem? e))
          · exact Nat.zero_le _
        omega
      exact ⟨dll _ (by omega), dn, px⟩
    · intro H3 S3
      walk_at "z"
      refine ⟨rl.length - (i + 1), by omega, i + 1, hlt, rfl, rfl, ?_⟩
      rw [hl2, ts]
      exact S3
  · obtain rfl : i = rl.length := by omega
    have fin : dDone gr c (tot (rl.take rl.length)) = rs := by
      rw [List.take_length, d.tt, d.fin, exl]
    rw [fin] at S2 ⊢
    rw [decide_eq_true (Nat.le_refl _)]
    refine Li.z_wwF ?_
    walk_at "z"
    refine Cw.z_meth g1 (lk_no (by decide +kernel)) ?_
    walk_at "z"
    exact ⟨H, u, Na, _, w, c, rs.length, _, _, _, _, rfl, S2, fun r d ds H3 s3 hr hd ra => q r d ds _ H3 (Tg.SameX.of (S2.same.trans s3)) hr hd ra⟩
end
/-- a list of lists of numbers -/
def LlAt (H : Hp) (D : Addr) (bs : List Addr) (rs : List (List Int)) : Prop := H D = some (.lst (bs.map V.ref)) ∧ bs.length = rs.length ∧ ∀ i b, bs[i]? = some b → H b = some (.lst ((rs.getD i []).map V.int))
theorem LlAt.mono {H H' : Hp} {D : Addr} {bs : List Addr} {rs : List (List Int)} (s : Same H H') (h : LlAt H D bs rs) : LlAt H' D bs rs := ⟨s _ _ h.1, h.2.1, fun i b e => s _ _ (h.2.2 i b e)⟩
theorem getD_at {rs : List (List Int)} {i : Nat} {x : List Int} (h : rs[i]? = some x) : rs.getD i [] = x := by
  rw [List.getD_eq_getElem?_getD, h]
  rfl
theorem LlAt.rows {K : PySem.W.Frag} {H : Hp} {D : Addr} {bs : List Addr} {rs : List (List Int)} (h : LlAt H D bs rs) : RowsIn K H D rs := ⟨bs, .inr (.inl (.inl h.1)), h.2.1, fun i a ha => by
  have hi := (List.getElem?_eq_some_iff.mp ha).1
  obtain ⟨x, hx⟩ : ∃ x, rs[i]? = some x := ⟨_, List.getElem?_eq_getElem (by have := h.2.1; omega)⟩
  have := h.2.2 i a ha
  rw [getD_at hx] at this
  exact ⟨x, hx, .inr (.inl (.inl this))⟩⟩
theorem RwAt.rows {K : PySem.W.Frag} {H : Hp} {t : Addr} {as : List Addr} {rs : List (List Int)} (ht : SqT K H t (as.map V.ref)) (ra : RwAt K H as rs) : RowsIn K H t rs := ⟨as, .inl ht, ra.len, fun i a ha => by
  obtain ⟨x, hx, h⟩ := ra.get ha
  exact ⟨x, hx, .inl h⟩⟩
def llD (rs : List (List Int)) : PyData := .list (rs.map fun x => .list (x.map .int))
theorem fl_ll (rs : List (List Int)) : Fl 2 (llD rs) := fl_list fun d hd => by
  obtain ⟨x, _, rfl⟩ := List.mem_map.mp hd
  exact fl_ints x
theorem dpa_ll {K : PySem.W.Frag} {H : Hp} : ∀ {bs : List Addr} {rs : List (List Int)}, bs.length = rs.length → (∀ i b, bs[i]? = some b → H b = some (.lst ((rs.getD i []).map V.int))) → DpAll K H (bs.map V.ref) (rs.map fun x => .list (x.map .int))
  | [], [], _, _ => .nil
  | b :: bs, x :: rs, l, h => .cons (dp_ints (h 0 b rfl)) (dpa_ll (by simpa using l) fun i c e => h (i + 1) c e)
  | [], _ :: _, l, _ => by simp at l
  | _ :: _, [], l, _ => by simp at l
theorem LlAt.dp {K : PySem.W.Frag} {H : Hp} {D : Addr} {bs : List Addr} {rs : List (List Int)} (h : LlAt H D bs rs) : Dp K H (.ref D) (llD rs) := .lst (.inl (.inl h.1)) (dpa_ll h.2.1 h.2.2)
theorem z_lists {K : PySem.W.Frag} {H : Hp} {Q : VK} {t : Addr} {as : List Addr} {rs : List (List Int)} {σ : L2.St} {j k : Nat} {vs : List Nat} (ht : SqT K H t (as.map V.ref)) (ra : RwAt K H as rs) (hn : rs.length ≤ 1000) (hj : σ[j]? = some (some (.ref t)))
    (hw : ∀ x, wipe ((wipe σ vs).set k (some x)) vs = wipe σ vs) (hk : ∀ v, ((wipe σ vs).set k (some v))[k]? = some (some v)) (q : ∀ D bs H', H D = none → Same H H' → LlAt H' D bs rs → Q (.ref D) H') :
    tLc (iTup K (tVar j)) (gName k) tYes (tCB (rListOf K) (tCons (tVar k) tNil)) vs σ H Q := by
  have la := ra.len
  refine Cw.z_objsW (ob := fun i => .lst ((rs.getD i []).map V.int)) (walk_tup (K := K) (a := t) (xs := as.map V.ref)) (by rw [List.length_map]; omega) (fun R h => ⟨_, hj, t, rfl, ⟨_, ht⟩, h⟩) (fun H' s => seqT_tk (TK.of s) ht) ?_ ?_
  · rintro i x H' H2 R hi s' ⟨rfl, hx⟩ k'
    rw [List.getElem?_map] at hx
    obtain ⟨a, ha, e⟩ := Option.map_eq_some_iff.mp hx
    cases e
    obtain ⟨y, hy, hay⟩ := ra.get ha
    refine z_gName ⟨hw _, z_cb (z_cons (z_var (hk _) (z_nil (z_listOfT (seqT_tk (TK.of s') hay) fun a H3 f3 s3 h3 => k' a H3 f3 s3 (by rw [getD_at hy]; exact h3)))))⟩
  · intro D H' bs fD s hD lb _ _ hb
    exact q D bs H' fD s ⟨hD, by rw [lb, List.length_map, la], fun i b e => (hb i b e).2⟩
theorem packN_nil (w : Int) : packN w [] = [] := by
  unfold packN
  split <;> rfl
def sp_unpack (K : PySem.W.Frag) (TP : Addr) : Sp := fun vs H Q _ => ∃ (Na : Addr) (rs : List (List Int)) (c : Nat) (w : Int) (x : List Int) (p0 : Int), vs = [.ref Na, .int w, .int (c : Int), .int (rs.length : Int), .int p0] ∧ Kc rs c ∧ c ≤ 48 ∧ rs.length ≤ 48 ∧ 0 ≤ w ∧ w ≤ 14 ∧ rs[0]? = some x ∧ x[0]? = some p0 ∧ H Na = some (.lst ((packN w rs).map V.int)) ∧ GxR.TabG H TP ∧
  ∀ d ds H', Tg.SameX H H' → H' d = some (.tup (ds.map V.ref)) → RwAt K H' ds rs → Q (.ref d) H'
section
theorem ok_unpack {P : Program} {w : World} {K : PySem.W.Frag} {mg : Str → Option Value} {base : Heap} {A : Nat → Addr} {D : Nat → FuncData} (T : Txt K mg A D base) : FnOk P w K mg base (L2.CX P w) 8 (A 21) (D 21) ["nybbles", "way", "columns", "count", "first_pixel"] (sp_unpack K (A 34)) := by
  refine T.F_unpack.okX sc_unpack (fun vs H Q E h => ?_) (fun cdv A' outer s H vs Q E hr h => ?_)
  · obtain ⟨Na, rs, c, w, x, p0, rfl, _⟩ := h
    rfl
  obtain ⟨Na, rs, c, w, x, p0, rfl, kc, c48, n48, w0, w14, h0, hx, hN, tG, q⟩ := h
  refine ⟨_, (pss_one (ps_ret (pe_ix ix_tup (pe_call (ok_unpacked T) (hr.mono (by decide)) (by rfl) T.m_unpacked T.F_unpacked.kp T.b_unpacked .nil (passes_call (takes_of rfl rfl rfl rfl) (fun _ _ _ _ h => h)) (pa_cons (pv 0) (pa_cons (pv 1) (pa_cons (pv 2) (pa_cons (pv 3) (pa_cons (pv 4) pa_nil)))))) pe_int (fun _ _ => rfl)))), ?_⟩
  walk_at "z"
  refine ⟨Na, rs, c, w, x, p0, rfl, kc, c48, n48, w0, w14, h0, hx, hN, tG, fun r d ds t H1 s1 hr hd ra => ?_⟩
  walk_at "z"
  exact q d ds H1 s1 hd ra
end
theorem RowsIn.mono {K : PySem.W.Frag} {H H' : Hp} {p : Addr} {rs : List (List Int)} (s : Same H H') (h : RowsIn K H p rs) : RowsIn K H' p rs := by
  obtain ⟨as, h1, h2, h3⟩ := h
  have sT : ∀ {a : Addr} {xs : List V}, SqT K H a xs → SqT K H' a xs := fun h => seqT_tk (TK.of s) h
  refine ⟨as, h1.elim (fun h => .inl (sT h)) (fun h => .inr (s.seq h)), h2, fun i a ha => ?_⟩
  obtain ⟨x, hx, h⟩ := h3 i a ha
  exact ⟨x, hx, h.elim (fun h => .inl (sT h)) (fun h => .inr (s.seq h))⟩
/-- the lowest of the ways with the fewest nybbles -/
def Best (rs : List (List Int)) (m b : Nat) : Prop := b < m ∧ (∀ v, v < m → (packN (b : Nat) rs).length ≤ (packN (v : Nat) rs).length) ∧ ∀ v, v < b → (packN (b : Nat) rs).length < (packN (v : Nat) rs).length
def sp_best_way (K : PySem.W.Frag) : Sp := fun vs H Q _ => ∃ (p : Addr) (rs : List (List Int)), vs = [.ref p] ∧ RowsIn K H p rs ∧ Rows rs ∧ ∀ b H', Same H H' → Best rs 15 b → Q (.int (b : Nat)) H'
section
theorem ok_best_way {P : Program} {w : World} {K : PySem.W.Frag} {mg : Str → Option Value} {base : Heap} {A : Nat → Addr} {D : Nat → FuncData} (T : Txt K mg A D base) : FnOk P w K mg base (L2.CX P w) 6 (A 20) (D 20) ["rows"] (sp_best_way K) := by
  refine T.F_best_way.okX sc_best_way (fun vs H Q E h => ?_) (fun cdv A' outer s H vs Q E hr h => ?_)
  · obtain ⟨p, rs, rfl, _⟩ := h
    rfl
  obtain ⟨p, rs, rfl, ri, rw', q⟩ := h
  refine ⟨_, (pss_cons (ps_set (i := 1) sc_best_way.nd rfl (.inl rfl) pe_int)
  (pss_cons (ps_set (i := 2) sc_best_way.nd rfl (.inl rfl) (pe_callB Z.c_len (by rfl) T.z_len (by decide +kernel) (pa_cons (pe_call (ok_pack T) (hr.mono (by decide)) (by rfl) T.m_pack T.F_pack.kp T.b_pack .nil (passes_call (takes_of rfl rfl rfl rfl) (fun _ _ _ _ h => h)) (pa_cons (pv 0) (pa_cons pe_int pa_nil))) pa_nil)))
  (pss_cons (ps_for (passes_of rfl) rfl (pi_range2 (by rfl) T.z_range (pa_cons pe_int (pa_cons (pe_op op_add (Z.pe_globE T.c_BITS_WAY) pe_int) pa_nil))) (pg_name (i := 3) sc_best_way.nd rfl (.inl rfl))
  (pss_cons (ps_set (i := 4) sc_best_way.nd rfl (.inl rfl) (pe_callB Z.c_len (by rfl) T.z_len (by decide +kernel) (pa_cons (pe_call (ok_pack T) (hr.mono (by decide)) (by rfl) T.m_pack T.F_pack.kp T.b_pack .nil (passes_call (takes_of rfl rfl rfl rfl) (fun _ _ _ _ h => h)) (pa_cons (pv 0) (pa_cons (pv 3) pa_nil))) pa_nil)))
  (pss_one (ps_if (pt_cmpR op_lt (pv 4) (pv 2) (nomark _))
  (pss_cons (ps_set (i := 1) sc_best_way.nd rfl (.inl rfl) (pv 3))
  (pss_one (ps_set (i := 2) sc_best_way.nd rfl (.inl rfl) (pv 4))))
  pss_nil))))
  (pss_one (ps_ret (pv 1)))))), ?_⟩
  walk_at "z"
  refine ⟨p, rs, 0, rfl, ri, rw', by omega, by omega, fun a H1 f1 s1 h1 => ?_⟩
  walk_at "z"
  rw [List.length_map]
  refine z_forR2 1 14 ⟨by decide, by decide⟩ (by decide) (fun R q => by walk_at "z"; exact q) (fun i σ' H' => Same H H' ∧ ∃ (b : Nat) (u3 u4 : Option V), σ' = [some (.ref p), some (.int (b : Int)), some (.int ((packN (b : Nat) rs).length : Nat)), u3, u4] ∧ Best rs (i + 1) b) ⟨s1, 0, _, _, rfl, by decide, fun v hv => by rw [show v = 0 by omega]; exact Nat.le_refl _, fun v hv => absurd hv (by omega)⟩ ?_ ?_
  · rintro i σ' H2 hi ⟨s2, b, u3, u4, rfl, hb1, hb2, hb3⟩
    walk_at "z"
    rw [show (1 : Int) + (i : Int) = ((i + 1 : Nat) : Int) by omega]
    refine ⟨p, rs, ((i + 1 : Nat) : Int), rfl, ri.mono s2, rw', by omega, by omega, fun a2 H3 f3 s3 h3 => ?_⟩
    walk_at "z"
    rw [List.length_map]
    refine z_if (fun c => ?_) (fun c => ?_)
    · walk_at "z"
      refine ⟨s2.trans s3, i + 1, _, _, rfl, by omega, fun v hv => ?_, fun v hv => ?_⟩
      · rcases Nat.lt_or_ge v (i + 1) with h | h
        · have := hb2 v h
          omega
        · rw [show v = i + 1 by omega]
          exact Nat.le_refl _
      · have := hb2 v hv
        omega
    · walk_at "z"
      refine ⟨s2.trans s3, b, _, _, rfl, by omega, fun v hv => ?_, hb3⟩
      rcases Nat.lt_or_ge v (i + 1) with h | h
      · exact hb2 v h
      · rw [show v = i + 1 by omega]
        omega
  · rintro σ' H2 ⟨s2, b, u3, u4, rfl, hb⟩
    walk_at "z"
    exact q b H2 s2 hb
end
theorem sx_put {H H' : Hp} {Z : Addr} {o : HO} (s : Tg.SameX H H') (f : H Z = none) : Tg.SameX H (upd H' Z o) where
  keep := fun b x n h => by
    rw [upd_ne (ne_of_none h f)]
    exact s.keep b x n h
  tab := fun P hP => by
    obtain ⟨ps, h, t⟩ := hP
    obtain ⟨ps', h', t'⟩ := s.tab P ⟨ps, h, t⟩
    exact ⟨ps', by rw [upd_ne (ne_of_none h f)]; exact h', t'⟩
theorem fl_rows (rs : List (List Int)) : Fl 2 (.tuple (rs.map rowD)) := fl_tup fun d hd => by
  obtain ⟨x, _, rfl⟩ := List.mem_map.mp hd
  exact fl_row x
theorem dpa_rows {K : PySem.W.Frag} {H : Hp} : ∀ {as : List Addr} {rs : List (List Int)}, RwAt K H as rs → DpAll K H (as.map V.ref) (rs.map rowD)
  | [], [], _ => .nil
  | _ :: _, _ :: _, h => .cons (dp_row h.1) (dpa_rows h.2)
  | [], _ :: _, h => h.elim
  | _ :: _, [], h => h.elim
theorem dp_rows {K : PySem.W.Frag} {H : Hp} {t : Addr} {as : List Addr} {rs : List (List Int)} (ht : SqT K H t (as.map V.ref)) (ra : RwAt K H as rs) : Dp K H (.ref t) (.tuple (rs.map rowD)) := .tup ht (dpa_rows ra)
/-- how many nybbles each way has -/
def szs (rs : List (List Int)) (m : Nat) : List Int := (List.range m).map fun v => ((packN (v : Nat) rs).length : Int)
theorem szs_succ (rs : List (List Int)) (m : Nat) : szs rs (m + 1) = szs rs m ++ [((packN (m : Nat) rs).length : Int)] := by
  unfold szs
  rw [List.range_succ, List.map_append]
  rfl
theorem szs_at (rs : List (List Int)) {m v : Nat} (h : v < m) : (szs rs m)[v]? = some ((packN (v : Nat) rs).length : Int) := by
  unfold szs
  rw [List.getElem?_map, List.getElem?_range h]
  rfl
def sp_law (K : PySem.W.Frag) (TP : Addr) : Sp := fun vs H Q _ => ∃ (a : Addr) (ns : List Int), vs = [.ref a] ∧ SqL K H a (ns.map V.int) ∧ ns.length ≤ 63 ∧ GxR.TabG H TP ∧ ∀ H', Q (.bl true) H'
section
theorem ok_law {P : Program} {w : World} {K : PySem.W.Frag} {mg : Str → Option Value} {base : Heap} {A : Nat → Addr} {D : Nat → FuncData} (T : Txt K mg A D base) : FnOk P w K mg base CX0 9 (A 32) (D 32) ["script"] (sp_law K (A 34)) := by
  refine T.F_law.ok sc_law (fun vs H Q E h => ?_) (fun cdv A' outer s H vs Q E hr h => ?_)
  · obtain ⟨l, ns, rfl, _⟩ := h
    rfl
  obtain ⟨l, ns, rfl, hS, _, tG, q⟩ := h
  refine ⟨_, (pss_cons (ps_set (i := 1) sc_law.nd rfl (.inl rfl) (pe_call (ok__law_rows T) (hr.mono (by decide)) (by rfl) T.m__law_rows T.F__law_rows.kp T.b__law_rows .nil passL (pa_cons (pe_call (ok__law_stream T) (hr.mono (by decide)) (by rfl) T.m__law_stream T.F__law_stream.kp T.b__law_stream .nil passL (pa_cons (pe_call (ok__law_cell T) (hr.mono (by decide)) (by rfl) T.m__law_cell T.F__law_cell.kp T.b__law_cell .nil passL (pa_cons (pv 0) (pa_cons pe_int pa_nil))) pa_nil)) pa_nil)))
  (pss_cons (ps_set (i := 2) sc_law.nd rfl (.inl rfl) (pe_lst pa_nil))
  (pss_cons (ps_for PassesOwn.never rfl (pi_range1 (by rfl) T.z_range (pa_cons pe_int pa_nil)) (pg_name (i := 3) sc_law.nd rfl (.inl rfl))
  (pss_cons (ps_set (i := 4) sc_law.nd rfl (.inl rfl) (pe_call (ok_pack T) (hr.mono (by decide)) (by rfl) T.m_pack T.F_pack.kp T.b_pack .nil passL (pa_cons (pv 1) (pa_cons (pv 3) pa_nil))))
  (pss_cons (ps_expr (pe_bm PySem.F.plainAttrs_list PySem.F.slot_list_append PySem.F.type_list_append mt_append (pv 2) (pa_cons (pe_callB Z.c_len (by rfl) T.z_len (by decide +kernel) (pa_cons (pv 4) pa_nil)) pa_nil)))
  (pss_cons (ps_set (i := 5) sc_law.nd rfl (.inl rfl) (pe_callTy Z.c_listOf (by rfl) T.z_list (by decide +kernel) (pa_cons (pv 4) pa_nil)))
  (pss_cons (ps_set (i := 6) sc_law.nd rfl (.inl rfl) (pe_call (ok_unpack T) (hr.mono (by decide)) (by rfl) T.m_unpack T.F_unpack.kp T.b_unpack .nil passL (pa_cons (pv 5) (pa_cons (pv 3) (pa_cons (pe_callB Z.c_len (by rfl) T.z_len (by decide +kernel) (pa_cons (pe_ix ix_tup (pv 1) pe_int (fun _ _ => rfl)) pa_nil)) (pa_cons (pe_callB Z.c_len (by rfl) T.z_len (by decide +kernel) (pa_cons (pv 1) pa_nil)) (pa_cons (pe_ix ix_tup (pe_ix ix_tup (pv 1) pe_int (fun _ _ => rfl)) pe_int (fun _ _ => rfl)) pa_nil)))))))
  (pss_cons (ps_if (PW.pt (pw_or (pt_not (pt_val (pe_callB call_isi (by rfl) T.z_isinstance (by decide +kernel) (pa_cons (pv 6) (pa_cons (pe_bltn (v := .ty "tuple") (by rfl) T.z_tuple (by decide +kernel) rfl) pa_nil))))) (pw_or (pt_cmpR (op_neD hr.units) (pv 6) (pv 1) (nomark _)) (pw_or1 (pt_cmpR (op_neD hr.units) (pv 5) (pv 4) (nomark _))))))
  (pss_one (ps_ret pe_bl))
  pss_nil)
  (pss_one (ps_for PassesOwn.never rfl (pi_tup (pv 6)) (pg_name (i := 7) sc_law.nd rfl (.inl rfl))
  (pss_one (ps_for PassesOwn.never rfl (pi_tup (pv 7)) (pg_name (i := 8) sc_law.nd rfl (.inl rfl))
  (pss_one (ps_if (pt_not (pt_val (pe_call (ok__law_is_integer T) (hr.mono (by decide)) (by rfl) T.m__law_is_integer T.F__law_is_integer.kp T.b__law_is_integer .nil passL (pa_cons (pv 8) pa_nil))))
  (pss_one (ps_ret pe_bl))
  pss_nil))))))))))))
  (pss_cons (ps_set (i := 9) sc_law.nd rfl (.inl rfl) (pe_call (ok_best_way T) (hr.mono (by decide)) (by rfl) T.m_best_way T.F_best_way.kp T.b_best_way .nil passL (pa_cons (pv 1) pa_nil)))
  (pss_cons (ps_if (PW.pt (pw_or (pt_not (pt_val (pe_call (ok__law_is_integer T) (hr.mono (by decide)) (by rfl) T.m__law_is_integer T.F__law_is_integer.kp T.b__law_is_integer .nil passL (pa_cons (pv 9) pa_nil)))) (pw_or (pt_cmpR op_lt (pv 9) pe_int (nomark _)) (pw_or (pt_cmpR op_gt (pv 9) pe_int (nomark _)) (pw_or1 (pt_cmpR op_ne (pe_ix ix_list (pv 2) (pv 9) (fun _ _ => rfl)) (pe_callB (cr_min rfl) (by rfl) T.z_min (by decide +kernel) (pa_cons (pv 2) pa_nil)) (nomark _)))))))
  (pss_one (ps_ret pe_bl))
  pss_nil)
  (pss_cons (ps_setLc (i := 10) (own := [("row", 7)]) (g := gName 7) (tt := tYes) rfl sc_law.nd rfl rfl (sw_true rfl rfl rfl (by decide +kernel)) (pi_tup (pv 1)) (blkOk_by (N := ["script", "rows", "sizes", "way", "nybbles", "handed", "actual", "row", "pixel", "best", "listed"]) (sc := defScope s_law) (by decide +kernel)) (fun _ _ _ _ _ => pg_name (i := 7) sc_law.nd rfl (Or.inl rfl)) (fun _ _ _ _ _ => pts_nil) (fun _ _ _ _ _ => (pe_callTy (show CallR _ (.type "list") (Z.rListOf K) from Z.c_listOf) (by rfl) T.z_list (by decide +kernel) (pa_cons (pv 7) pa_nil))))
  (pss_cons (ps_if (PW.pt (pw_or (pt_cmpR op_ne (pe_call (ok_best_way T) (hr.mono (by decide)) (by rfl) T.m_best_way T.F_best_way.kp T.b_best_way .nil passL (pa_cons (pv 10) pa_nil)) (pv 9) (nomark _)) (pw_or1 (pt_cmpR (op_neD hr.units) (pv 10) (pe_lc (own := [("row", 7)]) (g := gName 7) (tt := tYes) rfl sc_law.nd (pi_tup (pv 1)) (blkOk_by (N := ["script", "rows", "sizes", "way", "nybbles", "handed", "actual", "row", "pixel", "best", "listed"]) (sc := defScope s_law) (by decide +kernel)) (fun _ _ _ _ _ => pg_name (i := 7) sc_law.nd rfl (Or.inl rfl)) (fun _ _ _ _ _ => pts_nil) (fun _ _ _ _ _ => (pe_callTy (show CallR _ (.type "list") (Z.rListOf K) from Z.c_listOf) (by rfl) T.z_list (by decide +kernel) (pa_cons (pv 7) pa_nil)))) (nomark _)))))
  (pss_one (ps_ret pe_bl))
  pss_nil)
  (pss_one (ps_ret (pe_and (pe_cmpR op_eq (pv 9) (pe_bm PySem.F.plainAttrs_list PySem.F.slot_list_index PySem.F.type_list_index mt_index (pv 2) (pa_cons (pe_callB (cr_min rfl) (by rfl) T.z_min (by decide +kernel) (pa_cons (pv 2) pa_nil)) pa_nil)) (nomark _)) (pe_one (pe_cmpR op_eq (pe_call (ok_best_way T) (hr.mono (by decide)) (by rfl) T.m_best_way T.F_best_way.kp T.b_best_way .nil passL (pa_cons (pe_tup pa_nil) pa_nil)) pe_int (nomark _))))))))))))), ?_⟩
  walk_at "z"
  refine ⟨l, ns, 0, rfl, hS, fun v => ?_⟩
  walk_at "z"
  refine ⟨v, rfl, fun p H1 i1 j1 m hp s1 h1 => ?_⟩
  have S1 := Sd.mk0 hp s1 h1
  walk_at "z"
  refine ⟨p, H, rfl, S1, fun t as rs c H2 S2 K2 f2 h2 ra rc n1 n2 => ?_⟩
  have rw' := rc.rows n2
  have kc : Kc rs c := ⟨rc.c0, rc.len, rc.b⟩
  have tG2 : GxR.TabG H2 _ := (Tg.SameX.of S2.same).tab _ tG
  have ht2 : SqT K H2 t (as.map V.ref) := .inl (.inl h2)
  have la := ra.len
  obtain ⟨x, hx⟩ : ∃ x, rs[0]? = some x := ⟨_, List.getElem?_eq_getElem (by omega)⟩
  have lx : x.length = c := rc.len x (List.mem_of_getElem? hx)
  obtain ⟨p0, hp0⟩ : ∃ p0, x[0]? = some p0 := ⟨_, List.getElem?_eq_getElem (by rw [lx]; exact rc.c0)⟩
  obtain ⟨a0, ha0⟩ : ∃ a0, as[0]? = some a0 := ⟨_, List.getElem?_eq_getElem (by omega)⟩
  clear S1 h1 s1 hp hS S2 tG K2 f2 h2
  walk_at "z"
  intro Z H3 f3 s3 h3
  walk_at "z"
  refine z_forR1 15 (by decide) (fun R q => by walk_at "z"; exact q) (fun i σ' H' => Tg.SameX H2 H' ∧ H' Z = some (.lst ((szs rs i).map V.int)) ∧ ∃ u3 u4 u5 u6 u7 u8 u9 u10 : Option V, σ' = [some (.ref l), some (.ref t), some (.ref Z), u3, u4, u5, u6, u7, u8, u9, u10]) ⟨Tg.SameX.of s3, h3, _, _, _, _, _, _, _, _, rfl⟩ ?_ ?_
  · rintro i σ' H4 hi ⟨s4, hZ4, u3, u4, u5, u6, u7, u8, u9, u10, rfl⟩
    have ht4 := s4.seqT ht2
    have ra4 := ra.sx s4
    walk_at "z"
    refine ⟨t, rs, (i : Int), rfl, RwAt.rows ht4 ra4, rw', by omega, by omega, fun a H5 f5 s5 h5 => ?_⟩
    walk_at "z"
    have hZ5 := s5 _ _ hZ4
    refine z_bmL (fun R q => by walk_at "z"; exact q) hZ5 ?_
    walk_at "z"
    rw [List.length_map]
    refine z_append hZ5 (by unfold szs; rw [List.length_map, List.length_map, List.length_range]; omega) ?_
    have naZ : a ≠ Z := fun z => by rw [z, hZ4] at f5; cases f5
    have s6 := sx_put (o := .lst ((szs rs i).map V.int ++ [.int ((packN (i : Nat) rs).length : Nat)])) (s4.th s5) f3
    have h6 : upd H5 Z (.lst ((szs rs i).map V.int ++ [.int ((packN (i : Nat) rs).length : Nat)])) a = some (.lst ((packN (i : Nat) rs).map V.int)) := by rw [upd_ne naZ]; exact h5
    have hZ6 : upd H5 Z (.lst ((szs rs i).map V.int ++ [.int ((packN (i : Nat) rs).length : Nat)])) Z = some (.lst ((szs rs (i + 1)).map V.int)) := by rw [upd_same, szs_succ, List.map_append]; rfl
    generalize upd H5 Z (.lst ((szs rs i).map V.int ++ [.int ((packN (i : Nat) rs).length : Nat)])) = H6 at *
    walk_at "z"
    refine z_listOf (.inl (.inl h6)) fun hd H7 f7 s7 h7 => ?_
    have s27 := s6.th s7
    have ht7 := s27.seqT ht2
    have ra7 := ra.sx s27
    have tG7 := s27.tab _ tG2
    have hZ7 := s7 _ _ hZ6
    have h7a := s7 _ _ h6
    have hax : SqT K H7 a0 (x.map V.int) := by
      obtain ⟨x', hx', h⟩ := ra7.get ha0
      rw [hx] at hx'
      cases hx'
      exact h
    have at0 : atI (as.map V.ref) 0 = some (.ref a0) := atI_nat (j := 0) (by rw [List.getElem?_map, ha0]; rfl)
    walk_at "z"
    refine z_ixT ht7 at0 ?_
    walk_at "z"
    refine z_ixT ht7 at0 ?_
    walk_at "z"
    refine z_ixT hax (v := .int p0) (atI_nat (j := 0) (by rw [List.getElem?_map, hp0]; rfl)) ?_
    walk_at "z"
    refine ⟨hd, rs, c, (i : Int), x, p0, by rw [List.length_map, List.length_map, lx, la], kc, rc.c1, n2, by omega, by omega, hx, hp0, h7, tG7, fun d ds H8 s8 hd8 ra8 => ?_⟩
    walk_at "z"
    have ht8 := s8.seqT ht7
    have s28 := s27.trans s8
    refine z_neSame (dp_rows (.inl (.inl hd8)) ra8) (dp_rows ht8 (ra7.sx s8)) (shaped_fl (fl_rows rs)) ?_
    walk_at "z"
    refine z_neInts (s8.lst h7) (s8.lst h7a) ?_
    walk_at "z"
    refine z_if (fun z => absurd rfl z) (fun _ => ?_)
    walk_at "z"
    refine z_forTT (.inl (.inl hd8)) (fun j σ' H' => H' = H8 ∧ ∃ u7 u8 : Option V, σ' = [some (.ref l), some (.ref t), some (.ref Z), some (.int (i : Int)), some (.ref a), some (.ref hd), some (.ref d), u7, u8, u9, u10]) ⟨rfl, _, _, rfl⟩ (fun j σ' H' _ h => by rw [h.1]; exact .inl (.inl hd8)) ?_ ?_
    · rintro j y σ' H9 hy ⟨rfl, u7', u8', rfl⟩
      rw [List.getElem?_map] at hy
      obtain ⟨b, hb, e⟩ := Option.map_eq_some_iff.mp hy
      cases e
      obtain ⟨row, hrow, hbr⟩ := ra8.get hb
      walk_at "z"
      refine z_forTT hbr (fun k σ' H' => H' = H9 ∧ ∃ u8 : Option V, σ' = [some (.ref l), some (.ref t), some (.ref Z), some (.int (i : Int)), some (.ref a), some (.ref hd), some (.ref d), some (.ref b), u8, u9, u10]) ⟨rfl, _, rfl⟩ (fun k σ' H' _ h => by rw [h.1]; exact hbr) ?_ ?_
      · rintro k y σ' H10 hy ⟨rfl, u8'', rfl⟩
        rw [List.getElem?_map] at hy
        obtain ⟨px, hpx, e⟩ := Option.map_eq_some_iff.mp hy
        cases e
        walk_at "z"
        exact ⟨rfl, _, rfl⟩
      · rintro σ' H10 ⟨rfl, u8'', rfl⟩
        exact ⟨rfl, _, _, rfl⟩
    · rintro σ' H9 ⟨rfl, u7', u8', rfl⟩
      exact ⟨s28, s8.lst hZ7, _, _, _, _, _, _, _, _, rfl⟩
  · rintro σ' H4 ⟨s4, hZ4, u3, u4, u5, u6, u7, u8, u9, u10, rfl⟩
    have ht4 := s4.seqT ht2
    have ra4 := ra.sx s4
    walk_at "z"
    refine ⟨t, rs, rfl, RwAt.rows ht4 ra4, rw', fun b H5 s5 hb => ?_⟩
    have b15 := hb.1
    walk_at "z"
    refine z_if (fun z => absurd z (by omega)) (fun _ => ?_)
    walk_at "z"
    have hZ5 := s5 _ _ hZ4
    have lz : (szs rs 15).length = 15 := by unfold szs; rw [List.length_map, List.length_range]
    have minb : ∀ mn, mn ∈ szs rs 15 → (∀ y ∈ szs rs 15, mn ≤ y) → mn = ((packN (b : Nat) rs).length : Int) := fun mn hm hle => by
      have h1 := hle _ (List.mem_of_getElem? (szs_at rs b15))
      obtain ⟨v, hv, e⟩ := List.mem_map.mp hm
      have hv : v < 15 := List.mem_range.mp hv
      have := hb.2.1 v hv
      omega
    refine z_ixL (.inl (.inl hZ5)) (v := .int ((packN (b : Nat) rs).length : Nat)) (atI_nat (by rw [List.getElem?_map, szs_at rs b15]; rfl)) ?_
    walk_at "z"
    refine ⟨Z, szs rs 15, rfl, .inl (.inl hZ5), by omega, fun mn hm hle => ?_⟩
    have em := minb mn hm hle
    subst em
    walk_at "z"
    refine z_if (fun z => absurd rfl z) (fun _ => ?_)
    walk_at "z"
    have ht5 := seqT_tk (TK.of s5) ht4
    have ra5 := ra4.mono s5
    refine z_lists ht5 ra5 (by omega) rfl (fun _ => rfl) (fun _ => rfl) fun D bs H6 fD s6 ll => ?_
    walk_at "z"
    refine ⟨D, rs, rfl, ll.rows, rw', fun b2 H7 s7 hb2 => ?_⟩
    have eb : b2 = b := by
      have h1 := hb.2.2
      have h2 := hb2.2.2
      have h3 := hb.2.1 b2 hb2.1
      have h4 := hb2.2.1 b b15
      rcases Nat.lt_trichotomy b2 b with h | h | h
      · have := h1 b2 h
        omega
      · exact h
      · have := h2 b h
        omega
    subst eb
    walk_at "z"
    refine z_if (fun z => absurd rfl z) (fun _ => ?_)
    walk_at "z"
    have s57 := s6.trans s7
    refine z_lists (seqT_tk (TK.of s57) ht5) (ra5.mono s57) (by omega) rfl (fun _ => rfl) (fun _ => rfl) fun D2 bs2 H8 fD2 s8 ll2 => ?_
    refine z_neSame ((ll.mono s7).mono s8).dp ll2.dp (shaped_fl (fl_ll rs)) ?_
    walk_at "z"
    have hZ8 := (s57.trans s8) _ _ hZ5
    have eqI : ∀ a b : Int, eqV (.int a) (.int b) = decide (a = b) := fun a b => by first | rfl | simp [eqV]
    refine z_bmL (fun R q => by walk_at "z"; exact q) hZ8 ?_
    walk_at "z"
    refine ⟨Z, szs rs 15, rfl, .inl (.inl hZ8), by omega, fun mn hm hle => ?_⟩
    have em := minb mn hm hle
    subst em
    walk_at "z"
    refine ⟨Z, _, _, b2, _, rfl, rfl, .inl (.inl hZ8), rfl, flat_ints _, by rw [List.getElem?_map, szs_at rs b15]; rfl, by rw [eqI, decide_eq_true rfl], fun v z' hv hz => ?_, ?_⟩
    · rw [List.getElem?_map, szs_at rs (by omega)] at hz
      cases hz
      have := hb.2.2 v hv
      rw [eqI, decide_eq_false (by omega)]
    walk_at "z"
    refine z_if (fun _ => ?_) (fun z => absurd rfl z)
    walk_at "z"
    intro e0 H9 f9 s9 h9
    walk_at "z"
    refine ⟨e0, [], rfl, ⟨[], .inl (.inl (.inl h9)), rfl, fun i a h => (by simp at h)⟩, ⟨by decide, fun x h => (nomatch h), fun x h => (nomatch h)⟩, fun b3 H10 s10 hb3 => ?_⟩
    walk_at "z"
    have z3 : b3 = 0 := by
      rcases Nat.eq_zero_or_pos b3 with h | h
      · exact h
      · have := hb3.2.2 0 h
        rw [packN_nil, packN_nil] at this
        exact absurd this (Nat.lt_irrefl _)
    subst z3
    walk_at "z"
    exact q _
end

theorem all_mk {l : PySem.W.OpenLaw} {q : Program} {w : World} {K : PySem.W.Frag} {h : Heap} {mg : Str → Option Value} {fa : Addr} (X : K.In h) (G : h.Ns mainGlobals mg) (hfa : mg "law" = some (.ref fa)) (tabs : Tg.TabAll q K mg h)
    {a1 : Addr} {od1 an1 : Option Addr} {sl1 : Array (Option Value)} {oc1 kV1 dc1 pm1 cd1 ct1 : Value} {a2 : Addr} {od2 an2 : Option Addr} {sl2 : Array (Option Value)} {oc2 kV2 dc2 pm2 cd2 ct2 : Value} {a3 : Addr} {od3 an3 : Option Addr} {sl3 : Array (Option Value)} {oc3 kV3 dc3 pm3 cd3 ct3 : Value} {a4 : Addr} {od4 an4 : Option Addr} {sl4 : Array (Option Value)} {oc4 kV4 dc4 pm4 cd4 ct4 : Value} {a5 : Addr} {od5 an5 : Option Addr} {sl5 : Array (Option Value)} {oc5 kV5 dc5 pm5 cd5 ct5 : Value} {a6 : Addr} {od6 an6 : Option Addr} {sl6 : Array (Option Value)} {oc6 kV6 dc6 pm6 cd6 ct6 : Value} {a7 : Addr} {od7 an7 : Option Addr} {sl7 : Array (Option Value)} {oc7 kV7 dc7 pm7 cd7 ct7 : Value} {a8 : Addr} {od8 an8 : Option Addr} {sl8 : Array (Option Value)} {oc8 kV8 dc8 pm8 ct8 : Value} {cc8 pp8 : Addr} {ce8 : Value} {cf8 : Option Addr} {cv8 : Array Value} {cw8 : Array (Option Value)} {a9 : Addr} {od9 an9 : Option Addr} {sl9 : Array (Option Value)} {oc9 kV9 dc9 pm9 cd9 ct9 : Value} {a10 : Addr} {od10 an10 : Option Addr} {sl10 : Array (Option Value)} {oc10 kV10 dc10 pm10 cd10 ct10 : Value} {a11 : Addr} {od11 an11 : Option Addr} {sl11 : Array (Option Value)} {oc11 kV11 dc11 pm11 cd11 ct11 : Value} {a12 : Addr} {od12 an12 : Option Addr} {sl12 : Array (Option Value)} {oc12 kV12 dc12 pm12 cd12 ct12 : Value} {a13 : Addr} {od13 an13 : Option Addr} {sl13 : Array (Option Value)} {oc13 kV13 dc13 pm13 cd13 ct13 : Value} {a14 : Addr} {od14 an14 : Option Addr} {sl14 : Array (Option Value)} {oc14 kV14 dc14 pm14 cd14 ct14 : Value} {a15 : Addr} {od15 an15 : Option Addr} {sl15 : Array (Option Value)} {oc15 kV15 dc15 pm15 cd15 ct15 : Value} {a16 : Addr} {od16 an16 : Option Addr} {sl16 : Array (Option Value)} {oc16 kV16 dc16 pm16 cd16 ct16 : Value} {a17 : Addr} {od17 an17 : Option Addr} {sl17 : Array (Option Value)} {oc17 kV17 dc17 pm17 cd17 ct17 : Value} {a18 : Addr} {od18 an18 : Option Addr} {sl18 : Array (Option Value)} {oc18 kV18 dc18 pm18 cd18 ct18 : Value} {a19 : Addr} {od19 an19 : Option Addr} {sl19 : Array (Option Value)} {oc19 kV19 dc19 pm19 cd19 ct19 : Value} {a20 : Addr} {od20 an20 : Option Addr} {sl20 : Array (Option Value)} {oc20 kV20 dc20 pm20 cd20 ct20 : Value} {a21 : Addr} {od21 an21 : Option Addr} {sl21 : Array (Option Value)} {oc21 kV21 dc21 pm21 cd21 ct21 : Value} {a22 : Addr} {od22 an22 : Option Addr} {sl22 : Array (Option Value)} {oc22 kV22 dc22 pm22 cd22 ct22 : Value} {a23 : Addr} {od23 an23 : Option Addr} {sl23 : Array (Option Value)} {oc23 kV23 dc23 pm23 cd23 ct23 : Value} {a24 : Addr} {od24 an24 : Option Addr} {sl24 : Array (Option Value)} {oc24 kV24 dc24 pm24 cd24 ct24 : Value} {a25 : Addr} {od25 an25 : Option Addr} {sl25 : Array (Option Value)} {oc25 kV25 dc25 pm25 cd25 ct25 : Value} {a26 : Addr} {od26 an26 : Option Addr} {sl26 : Array (Option Value)} {oc26 kV26 dc26 pm26 cd26 ct26 : Value} {a27 : Addr} {od27 an27 : Option Addr} {sl27 : Array (Option Value)} {oc27 kV27 dc27 pm27 cd27 ct27 : Value} {a28 : Addr} {od28 an28 : Option Addr} {sl28 : Array (Option Value)} {oc28 kV28 dc28 pm28 cd28 ct28 : Value} {a29 : Addr} {od29 an29 : Option Addr} {sl29 : Array (Option Value)} {oc29 kV29 dc29 pm29 cd29 ct29 : Value} {a30 : Addr} {od30 an30 : Option Addr} {sl30 : Array (Option Value)} {oc30 kV30 dc30 pm30 cd30 ct30 : Value} {a31 : Addr} {od31 an31 : Option Addr} {sl31 : Array (Option Value)} {oc31 kV31 dc31 pm31 cd31 ct31 : Value} {a32 : Addr} {od32 an32 : Option Addr} {sl32 : Array (Option Value)} {oc32 kV32 dc32 pm32 cd32 ct32 : Value} {a0 : Addr} {t_LAST_RUN_WAY : Tok} {t_BASE : Tok} {t_FIRST_IN_DIGITS : Tok} {t_BITS_WAY : Tok} {t_NYBBLE_BITS : Tok} {t_MANY_REPEATS : Tok} {t_ONE_REPEAT : Tok} {t_MOST_ZEROS : Tok}
    (n1 : PySem.W.nsIn K mainGlobals "two_nybble_lengths" = some (some (.ref a1)))
    (l1 : K.lookup a1 = some ⟨oc1, od1, .func (PySem.W.fnOf "two_nybble_lengths" "two_nybble_lengths" (defArgs s_two_nybble_lengths) (defBody s_two_nybble_lengths) (defScope s_two_nybble_lengths) .none kV1 dc1 pm1 an1 cd1 ct1), sl1⟩)
    (c1 : PySem.W.codeIn K cd1 "two_nybble_lengths" = true) (k1 : PySem.W.keepIn K (.ref a1) = true)
    (n2 : PySem.W.nsIn K mainGlobals "write_length" = some (some (.ref a2)))
    (l2 : K.lookup a2 = some ⟨oc2, od2, .func (PySem.W.fnOf "write_length" "write_length" (defArgs s_write_length) (defBody s_write_length) (defScope s_write_length) .none kV2 dc2 pm2 an2 cd2 ct2), sl2⟩)
    (c2 : PySem.W.codeIn K cd2 "write_length" = true) (k2 : PySem.W.keepIn K (.ref a2) = true)
    (n3 : PySem.W.nsIn K mainGlobals "written_digits" = some (some (.ref a3)))
    (l3 : K.lookup a3 = some ⟨oc3, od3, .func (PySem.W.fnOf "written_digits" "written_digits" (defArgs s_written_digits) (defBody s_written_digits) (defScope s_written_digits) .none kV3 dc3 pm3 an3 cd3 ct3), sl3⟩)
    (c3 : PySem.W.codeIn K cd3 "written_digits" = true) (k3 : PySem.W.keepIn K (.ref a3) = true)
    (n4 : PySem.W.nsIn K mainGlobals "read_length" = some (some (.ref a4)))
    (l4 : K.lookup a4 = some ⟨oc4, od4, .func (PySem.W.fnOf "read_length" "read_length" (defArgs s_read_length) (defBody s_read_length) (defScope s_read_length) .none kV4 dc4 pm4 an4 cd4 ct4), sl4⟩)
    (c4 : PySem.W.codeIn K cd4 "read_length" = true) (k4 : PySem.W.keepIn K (.ref a4) = true)
    (n5 : PySem.W.nsIn K mainGlobals "zeros_at" = some (some (.ref a5)))
    (l5 : K.lookup a5 = some ⟨oc5, od5, .func (PySem.W.fnOf "zeros_at" "zeros_at" (defArgs s_zeros_at) (defBody s_zeros_at) (defScope s_zeros_at) .none kV5 dc5 pm5 an5 cd5 ct5), sl5⟩)
    (c5 : PySem.W.codeIn K cd5 "zeros_at" = true) (k5 : PySem.W.keepIn K (.ref a5) = true)
    (n6 : PySem.W.nsIn K mainGlobals "length_size" = some (some (.ref a6)))
    (l6 : K.lookup a6 = some ⟨oc6, od6, .func (PySem.W.fnOf "length_size" "length_size" (defArgs s_length_size) (defBody s_length_size) (defScope s_length_size) .none kV6 dc6 pm6 an6 cd6 ct6), sl6⟩)
    (c6 : PySem.W.codeIn K cd6 "length_size" = true) (k6 : PySem.W.keepIn K (.ref a6) = true)
    (n7 : PySem.W.nsIn K mainGlobals "unpacked" = some (some (.ref a7)))
    (l7 : K.lookup a7 = some ⟨oc7, od7, .func (PySem.W.fnOf "unpacked" "unpacked" (defArgs s_unpacked) (defBody s_unpacked) (defScope s_unpacked) .none kV7 dc7 pm7 an7 cd7 ct7), sl7⟩)
    (c7 : PySem.W.codeIn K cd7 "unpacked" = true) (k7 : PySem.W.keepIn K (.ref a7) = true)
    (n8 : PySem.W.nsIn K mainGlobals "unpacked_bits" = some (some (.ref a8)))
    (l8 : K.lookup a8 = some ⟨oc8, od8, .func (PySem.W.fnOf "unpacked_bits" "unpacked_bits" (defArgs s_unpacked_bits) (defBody s_unpacked_bits) (defScope s_unpacked_bits) .none kV8 dc8 pm8 an8 (.ref cc8) ct8), sl8⟩)
    (c8 : PySem.W.codeIn K (.ref cc8) "unpacked_bits" = true) (k8 : PySem.W.keepIn K (.ref a8) = true)
    (tl8 : K.lookup cc8 = some ⟨ce8, cf8, .fields cv8, cw8⟩) (tv8 : cv8[11]? = some (.ref pp8)) (tn8 : K.lookup pp8 = none) (tr8 : ((recsOf q).any fun e => e.name == "unpacked_bits") = true)
    (n9 : PySem.W.findIn K (.ref a0) "__init__" = some (some (.ref a9))) (fn9 : PySem.W.isFn K (.ref a9) = true)
    (l9 : K.lookup a9 = some ⟨oc9, od9, .func (PySem.W.fnOf "__init__" "Unpacker.__init__" (defArgs s_Unpacker___init__) (defBody s_Unpacker___init__) (defScope s_Unpacker___init__) .none kV9 dc9 pm9 an9 cd9 ct9), sl9⟩)
    (c9 : PySem.W.codeIn K cd9 "Unpacker.__init__" = true) (k9 : PySem.W.keepIn K (.ref a9) = true)
    (n10 : PySem.W.findIn K (.ref a0) "is_done" = some (some (.ref a10))) (fn10 : PySem.W.isFn K (.ref a10) = true)
    (l10 : K.lookup a10 = some ⟨oc10, od10, .func (PySem.W.fnOf "is_done" "Unpacker.is_done" (defArgs s_Unpacker_is_done) (defBody s_Unpacker_is_done) (defScope s_Unpacker_is_done) .none kV10 dc10 pm10 an10 cd10 ct10), sl10⟩)
    (c10 : PySem.W.codeIn K cd10 "Unpacker.is_done" = true) (k10 : PySem.W.keepIn K (.ref a10) = true)
    (n11 : PySem.W.findIn K (.ref a0) "result" = some (some (.ref a11))) (fn11 : PySem.W.isFn K (.ref a11) = true)
    (l11 : K.lookup a11 = some ⟨oc11, od11, .func (PySem.W.fnOf "result" "Unpacker.result" (defArgs s_Unpacker_result) (defBody s_Unpacker_result) (defScope s_Unpacker_result) .none kV11 dc11 pm11 an11 cd11 ct11), sl11⟩)
    (c11 : PySem.W.codeIn K cd11 "Unpacker.result" = true) (k11 : PySem.W.keepIn K (.ref a11) = true)
    (n12 : PySem.W.findIn K (.ref a0) "read_run" = some (some (.ref a12))) (fn12 : PySem.W.isFn K (.ref a12) = true)
    (l12 : K.lookup a12 = some ⟨oc12, od12, .func (PySem.W.fnOf "read_run" "Unpacker.read_run" (defArgs s_Unpacker_read_run) (defBody s_Unpacker_read_run) (defScope s_Unpacker_read_run) .none kV12 dc12 pm12 an12 cd12 ct12), sl12⟩)
    (c12 : PySem.W.codeIn K cd12 "Unpacker.read_run" = true) (k12 : PySem.W.keepIn K (.ref a12) = true)
    (n13 : PySem.W.findIn K (.ref a0) "_is_at_repeats" = some (some (.ref a13))) (fn13 : PySem.W.isFn K (.ref a13) = true)
    (l13 : K.lookup a13 = some ⟨oc13, od13, .func (PySem.W.fnOf "_is_at_repeats" "Unpacker._is_at_repeats" (defArgs s_Unpacker__is_at_repeats) (defBody s_Unpacker__is_at_repeats) (defScope s_Unpacker__is_at_repeats) .none kV13 dc13 pm13 an13 cd13 ct13), sl13⟩)
    (c13 : PySem.W.codeIn K cd13 "Unpacker._is_at_repeats" = true) (k13 : PySem.W.keepIn K (.ref a13) = true)
    (n14 : PySem.W.findIn K (.ref a0) "_read_repeats" = some (some (.ref a14))) (fn14 : PySem.W.isFn K (.ref a14) = true)
    (l14 : K.lookup a14 = some ⟨oc14, od14, .func (PySem.W.fnOf "_read_repeats" "Unpacker._read_repeats" (defArgs s_Unpacker__read_repeats) (defBody s_Unpacker__read_repeats) (defScope s_Unpacker__read_repeats) .none kV14 dc14 pm14 an14 cd14 ct14), sl14⟩)
    (c14 : PySem.W.codeIn K cd14 "Unpacker._read_repeats" = true) (k14 : PySem.W.keepIn K (.ref a14) = true)
    (n15 : PySem.W.findIn K (.ref a0) "_read_length" = some (some (.ref a15))) (fn15 : PySem.W.isFn K (.ref a15) = true)
    (l15 : K.lookup a15 = some ⟨oc15, od15, .func (PySem.W.fnOf "_read_length" "Unpacker._read_length" (defArgs s_Unpacker__read_length) (defBody s_Unpacker__read_length) (defScope s_Unpacker__read_length) .none kV15 dc15 pm15 an15 cd15 ct15), sl15⟩)
    (c15 : PySem.W.codeIn K cd15 "Unpacker._read_length" = true) (k15 : PySem.W.keepIn K (.ref a15) = true)
    (n16 : PySem.W.findIn K (.ref a0) "_repeats_ahead" = some (some (.ref a16))) (fn16 : PySem.W.isFn K (.ref a16) = true)
    (l16 : K.lookup a16 = some ⟨oc16, od16, .func (PySem.W.fnOf "_repeats_ahead" "Unpacker._repeats_ahead" (defArgs s_Unpacker__repeats_ahead) (defBody s_Unpacker__repeats_ahead) (defScope s_Unpacker__repeats_ahead) .none kV16 dc16 pm16 an16 cd16 ct16), sl16⟩)
    (c16 : PySem.W.codeIn K cd16 "Unpacker._repeats_ahead" = true) (k16 : PySem.W.keepIn K (.ref a16) = true)
    (n17 : PySem.W.findIn K (.ref a0) "_pixels_ahead" = some (some (.ref a17))) (fn17 : PySem.W.isFn K (.ref a17) = true)
    (l17 : K.lookup a17 = some ⟨oc17, od17, .func (PySem.W.fnOf "_pixels_ahead" "Unpacker._pixels_ahead" (defArgs s_Unpacker__pixels_ahead) (defBody s_Unpacker__pixels_ahead) (defScope s_Unpacker__pixels_ahead) .none kV17 dc17 pm17 an17 cd17 ct17), sl17⟩)
    (c17 : PySem.W.codeIn K cd17 "Unpacker._pixels_ahead" = true) (k17 : PySem.W.keepIn K (.ref a17) = true)
    (n18 : PySem.W.findIn K (.ref a0) "_add_pixel" = some (some (.ref a18))) (fn18 : PySem.W.isFn K (.ref a18) = true)
    (l18 : K.lookup a18 = some ⟨oc18, od18, .func (PySem.W.fnOf "_add_pixel" "Unpacker._add_pixel" (defArgs s_Unpacker__add_pixel) (defBody s_Unpacker__add_pixel) (defScope s_Unpacker__add_pixel) .none kV18 dc18 pm18 an18 cd18 ct18), sl18⟩)
    (c18 : PySem.W.codeIn K cd18 "Unpacker._add_pixel" = true) (k18 : PySem.W.keepIn K (.ref a18) = true)
    (n19 : PySem.W.nsIn K mainGlobals "pack" = some (some (.ref a19)))
    (l19 : K.lookup a19 = some ⟨oc19, od19, .func (PySem.W.fnOf "pack" "pack" (defArgs s_pack) (defBody s_pack) (defScope s_pack) .none kV19 dc19 pm19 an19 cd19 ct19), sl19⟩)
    (c19 : PySem.W.codeIn K cd19 "pack" = true) (k19 : PySem.W.keepIn K (.ref a19) = true)
    (n20 : PySem.W.nsIn K mainGlobals "best_way" = some (some (.ref a20)))
    (l20 : K.lookup a20 = some ⟨oc20, od20, .func (PySem.W.fnOf "best_way" "best_way" (defArgs s_best_way) (defBody s_best_way) (defScope s_best_way) .none kV20 dc20 pm20 an20 cd20 ct20), sl20⟩)
    (c20 : PySem.W.codeIn K cd20 "best_way" = true) (k20 : PySem.W.keepIn K (.ref a20) = true)
    (n21 : PySem.W.nsIn K mainGlobals "unpack" = some (some (.ref a21)))
    (l21 : K.lookup a21 = some ⟨oc21, od21, .func (PySem.W.fnOf "unpack" "unpack" (defArgs s_unpack) (defBody s_unpack) (defScope s_unpack) .none kV21 dc21 pm21 an21 cd21 ct21), sl21⟩)
    (c21 : PySem.W.codeIn K cd21 "unpack" = true) (k21 : PySem.W.keepIn K (.ref a21) = true)
    (n22 : PySem.W.nsIn K mainGlobals "packed_bits" = some (some (.ref a22)))
    (l22 : K.lookup a22 = some ⟨oc22, od22, .func (PySem.W.fnOf "packed_bits" "packed_bits" (defArgs s_packed_bits) (defBody s_packed_bits) (defScope s_packed_bits) .none kV22 dc22 pm22 an22 cd22 ct22), sl22⟩)
    (c22 : PySem.W.codeIn K cd22 "packed_bits" = true) (k22 : PySem.W.keepIn K (.ref a22) = true)
    (n23 : PySem.W.nsIn K mainGlobals "packed_runs" = some (some (.ref a23)))
    (l23 : K.lookup a23 = some ⟨oc23, od23, .func (PySem.W.fnOf "packed_runs" "packed_runs" (defArgs s_packed_runs) (defBody s_packed_runs) (defScope s_packed_runs) .none kV23 dc23 pm23 an23 cd23 ct23), sl23⟩)
    (c23 : PySem.W.codeIn K cd23 "packed_runs" = true) (k23 : PySem.W.keepIn K (.ref a23) = true)
    (n24 : PySem.W.nsIn K mainGlobals "without_repetitions" = some (some (.ref a24)))
    (l24 : K.lookup a24 = some ⟨oc24, od24, .func (PySem.W.fnOf "without_repetitions" "without_repetitions" (defArgs s_without_repetitions) (defBody s_without_repetitions) (defScope s_without_repetitions) .none kV24 dc24 pm24 an24 cd24 ct24), sl24⟩)
    (c24 : PySem.W.codeIn K cd24 "without_repetitions" = true) (k24 : PySem.W.keepIn K (.ref a24) = true)
    (n25 : PySem.W.nsIn K mainGlobals "runs_of" = some (some (.ref a25)))
    (l25 : K.lookup a25 = some ⟨oc25, od25, .func (PySem.W.fnOf "runs_of" "runs_of" (defArgs s_runs_of) (defBody s_runs_of) (defScope s_runs_of) .none kV25 dc25 pm25 an25 cd25 ct25), sl25⟩)
    (c25 : PySem.W.codeIn K cd25 "runs_of" = true) (k25 : PySem.W.keepIn K (.ref a25) = true)
    (n26 : PySem.W.nsIn K mainGlobals "repeat_count" = some (some (.ref a26)))
    (l26 : K.lookup a26 = some ⟨oc26, od26, .func (PySem.W.fnOf "repeat_count" "repeat_count" (defArgs s_repeat_count) (defBody s_repeat_count) (defScope s_repeat_count) .none kV26 dc26 pm26 an26 cd26 ct26), sl26⟩)
    (c26 : PySem.W.codeIn K cd26 "repeat_count" = true) (k26 : PySem.W.keepIn K (.ref a26) = true)
    (n27 : PySem.W.nsIn K mainGlobals "_law_cell" = some (some (.ref a27)))
    (l27 : K.lookup a27 = some ⟨oc27, od27, .func (PySem.W.fnOf "_law_cell" "_law_cell" (defArgs s__law_cell) (defBody s__law_cell) (defScope s__law_cell) .none kV27 dc27 pm27 an27 cd27 ct27), sl27⟩)
    (c27 : PySem.W.codeIn K cd27 "_law_cell" = true) (k27 : PySem.W.keepIn K (.ref a27) = true)
    (n28 : PySem.W.nsIn K mainGlobals "_law_stream" = some (some (.ref a28)))
    (l28 : K.lookup a28 = some ⟨oc28, od28, .func (PySem.W.fnOf "_law_stream" "_law_stream" (defArgs s__law_stream) (defBody s__law_stream) (defScope s__law_stream) .none kV28 dc28 pm28 an28 cd28 ct28), sl28⟩)
    (c28 : PySem.W.codeIn K cd28 "_law_stream" = true) (k28 : PySem.W.keepIn K (.ref a28) = true)
    (n29 : PySem.W.nsIn K mainGlobals "_law_next" = some (some (.ref a29)))
    (l29 : K.lookup a29 = some ⟨oc29, od29, .func (PySem.W.fnOf "_law_next" "_law_next" (defArgs s__law_next) (defBody s__law_next) (defScope s__law_next) .none kV29 dc29 pm29 an29 cd29 ct29), sl29⟩)
    (c29 : PySem.W.codeIn K cd29 "_law_next" = true) (k29 : PySem.W.keepIn K (.ref a29) = true)
    (n30 : PySem.W.nsIn K mainGlobals "_law_is_integer" = some (some (.ref a30)))
    (l30 : K.lookup a30 = some ⟨oc30, od30, .func (PySem.W.fnOf "_law_is_integer" "_law_is_integer" (defArgs s__law_is_integer) (defBody s__law_is_integer) (defScope s__law_is_integer) .none kV30 dc30 pm30 an30 cd30 ct30), sl30⟩)
    (c30 : PySem.W.codeIn K cd30 "_law_is_integer" = true) (k30 : PySem.W.keepIn K (.ref a30) = true)
    (n31 : PySem.W.nsIn K mainGlobals "_law_rows" = some (some (.ref a31)))
    (l31 : K.lookup a31 = some ⟨oc31, od31, .func (PySem.W.fnOf "_law_rows" "_law_rows" (defArgs s__law_rows) (defBody s__law_rows) (defScope s__law_rows) .none kV31 dc31 pm31 an31 cd31 ct31), sl31⟩)
    (c31 : PySem.W.codeIn K cd31 "_law_rows" = true) (k31 : PySem.W.keepIn K (.ref a31) = true)
    (n32 : PySem.W.nsIn K mainGlobals "law" = some (some (.ref a32)))
    (l32 : K.lookup a32 = some ⟨oc32, od32, .func (PySem.W.fnOf "law" "law" (defArgs s_law) (defBody s_law) (defScope s_law) .none kV32 dc32 pm32 an32 cd32 ct32), sl32⟩)
    (c32 : PySem.W.codeIn K cd32 "law" = true) (k32 : PySem.W.keepIn K (.ref a32) = true)
    (ng0 : PySem.W.nsIn K mainGlobals "Unpacker" = some (some (.ref a0)))
    (pg0 : PySem.W.plainGet K a0 Str.empty = true) (hd0 : PySem.W.hasDictIn K a0 = true) (po0 : PySem.W.plainOver K a0 = true) (sa0 : PySem.W.findIn K (.ref a0) "__setattr__" = some (some (.builtin "object.__setattr__"))) (mk0 : PySem.W.makesIn K a0 = true) (kc0 : PySem.W.keepIn K (.ref a0) = true)
    (na0__nybbles : PySem.W.findIn K (.ref a0) "_nybbles" = some none)
    (na0__way : PySem.W.findIn K (.ref a0) "_way" = some none)
    (na0__columns : PySem.W.findIn K (.ref a0) "_columns" = some none)
    (na0__count : PySem.W.findIn K (.ref a0) "_count" = some none)
    (na0__at : PySem.W.findIn K (.ref a0) "_at" = some none)
    (na0__done : PySem.W.findIn K (.ref a0) "_done" = some none)
    (na0__line : PySem.W.findIn K (.ref a0) "_line" = some none)
    (na0__repeats : PySem.W.findIn K (.ref a0) "_repeats" = some none)
    (z_bool : PySem.W.nsIn K mainGlobals "bool" = some none)
    (z_divmod : PySem.W.nsIn K mainGlobals "divmod" = some none)
    (z_enumerate : PySem.W.nsIn K mainGlobals "enumerate" = some none)
    (z_int : PySem.W.nsIn K mainGlobals "int" = some none)
    (z_isinstance : PySem.W.nsIn K mainGlobals "isinstance" = some none)
    (z_len : PySem.W.nsIn K mainGlobals "len" = some none)
    (z_list : PySem.W.nsIn K mainGlobals "list" = some none)
    (z_min : PySem.W.nsIn K mainGlobals "min" = some none)
    (z_range : PySem.W.nsIn K mainGlobals "range" = some none)
    (z_tuple : PySem.W.nsIn K mainGlobals "tuple" = some none)
    (c_LAST_RUN_WAY : PySem.W.nsIn K mainGlobals "LAST_RUN_WAY" = some (some (.int (13) t_LAST_RUN_WAY)))
    (c_BASE : PySem.W.nsIn K mainGlobals "BASE" = some (some (.int (16) t_BASE)))
    (c_FIRST_IN_DIGITS : PySem.W.nsIn K mainGlobals "FIRST_IN_DIGITS" = some (some (.int (16) t_FIRST_IN_DIGITS)))
    (c_BITS_WAY : PySem.W.nsIn K mainGlobals "BITS_WAY" = some (some (.int (14) t_BITS_WAY)))
    (c_NYBBLE_BITS : PySem.W.nsIn K mainGlobals "NYBBLE_BITS" = some (some (.int (4) t_NYBBLE_BITS)))
    (c_MANY_REPEATS : PySem.W.nsIn K mainGlobals "MANY_REPEATS" = some (some (.int (14) t_MANY_REPEATS)))
    (c_ONE_REPEAT : PySem.W.nsIn K mainGlobals "ONE_REPEAT" = some (some (.int (15) t_ONE_REPEAT)))
    (c_MOST_ZEROS : PySem.W.nsIn K mainGlobals "MOST_ZEROS" = some (some (.int (2) t_MOST_ZEROS)))
    : LamX.LawAtS l w K CX0 9 63 "script" mg fa h := by
  have e := hfa.symm.trans (PySem.W.mg_of X G n32)
  cases e
  have F1 := fun_mk (st := s_two_nybble_lengths) l1 c1 k1
  have b1 := F1.binds (ps := ["way"]) fun _ _ _ _ _ _ us hl => match us, hl with | [_], _ => rfl
  have F2 := fun_mk (st := s_write_length) l2 c2 k2
  have b2 := F2.binds (ps := ["n", "way"]) fun _ _ _ _ _ _ us hl => match us, hl with | [_, _], _ => rfl
  have F3 := fun_mk (st := s_written_digits) l3 c3 k3
  have b3 := F3.binds (ps := ["number"]) fun _ _ _ _ _ _ us hl => match us, hl with | [_], _ => rfl
  have F4 := fun_mk (st := s_read_length) l4 c4 k4
  have b4 := F4.binds (ps := ["nybbles", "index", "way"]) fun _ _ _ _ _ _ us hl => match us, hl with | [_, _, _], _ => rfl
  have F5 := fun_mk (st := s_zeros_at) l5 c5 k5
  have b5 := F5.binds (ps := ["nybbles", "index"]) fun _ _ _ _ _ _ us hl => match us, hl with | [_, _], _ => rfl
  have F6 := fun_mk (st := s_length_size) l6 c6 k6
  have b6 := F6.binds (ps := ["nybbles", "index", "way"]) fun _ _ _ _ _ _ us hl => match us, hl with | [_, _, _], _ => rfl
  have F7 := fun_mk (st := s_unpacked) l7 c7 k7
  have b7 := F7.binds (ps := ["nybbles", "way", "columns", "count", "first_pixel"]) fun _ _ _ _ _ _ us hl => match us, hl with | [_, _, _, _, _], _ => rfl
  have F8 := fun_mk (st := s_unpacked_bits) l8 c8 k8
  have b8 := F8.binds (ps := ["nybbles", "columns", "count"]) fun _ _ _ _ _ _ us hl => match us, hl with | [_, _, _], _ => rfl
  have F9 := fun_mk (st := s_Unpacker___init__) l9 c9 k9
  have b9 := F9.binds (ps := ["self", "nybbles", "way", "columns", "count"]) fun _ _ _ _ _ _ us hl => match us, hl with | [_, _, _, _, _], _ => rfl
  have F10 := fun_mk (st := s_Unpacker_is_done) l10 c10 k10
  have b10 := F10.binds (ps := ["self"]) fun _ _ _ _ _ _ us hl => match us, hl with | [_], _ => rfl
  have F11 := fun_mk (st := s_Unpacker_result) l11 c11 k11
  have b11 := F11.binds (ps := ["self"]) fun _ _ _ _ _ _ us hl => match us, hl with | [_], _ => rfl
  have F12 := fun_mk (st := s_Unpacker_read_run) l12 c12 k12
  have b12 := F12.binds (ps := ["self", "pixel"]) fun _ _ _ _ _ _ us hl => match us, hl with | [_, _], _ => rfl
  have F13 := fun_mk (st := s_Unpacker__is_at_repeats) l13 c13 k13
  have b13 := F13.binds (ps := ["self"]) fun _ _ _ _ _ _ us hl => match us, hl with | [_], _ => rfl
  have F14 := fun_mk (st := s_Unpacker__read_repeats) l14 c14 k14
  have b14 := F14.binds (ps := ["self"]) fun _ _ _ _ _ _ us hl => match us, hl with | [_], _ => rfl
  have F15 := fun_mk (st := s_Unpacker__read_length) l15 c15 k15
  have b15 := F15.binds (ps := ["self"]) fun _ _ _ _ _ _ us hl => match us, hl with | [_], _ => rfl
  have F16 := fun_mk (st := s_Unpacker__repeats_ahead) l16 c16 k16
  have b16 := F16.binds (ps := ["self"]) fun _ _ _ _ _ _ us hl => match us, hl with | [_], _ => rfl
  have F17 := fun_mk (st := s_Unpacker__pixels_ahead) l17 c17 k17
  have b17 := F17.binds (ps := ["self"]) fun _ _ _ _ _ _ us hl => match us, hl with | [_], _ => rfl
  have F18 := fun_mk (st := s_Unpacker__add_pixel) l18 c18 k18
  have b18 := F18.binds (ps := ["self", "pixel"]) fun _ _ _ _ _ _ us hl => match us, hl with | [_, _], _ => rfl
  have F19 := fun_mk (st := s_pack) l19 c19 k19
  have b19 := F19.binds (ps := ["rows", "way"]) fun _ _ _ _ _ _ us hl => match us, hl with | [_, _], _ => rfl
  have F20 := fun_mk (st := s_best_way) l20 c20 k20
  have b20 := F20.binds (ps := ["rows"]) fun _ _ _ _ _ _ us hl => match us, hl with | [_], _ => rfl
  have F21 := fun_mk (st := s_unpack) l21 c21 k21
  have b21 := F21.binds (ps := ["nybbles", "way", "columns", "count", "first_pixel"]) fun _ _ _ _ _ _ us hl => match us, hl with | [_, _, _, _, _], _ => rfl
  have F22 := fun_mk (st := s_packed_bits) l22 c22 k22
  have b22 := F22.binds (ps := ["lines"]) fun _ _ _ _ _ _ us hl => match us, hl with | [_], _ => rfl
  have F23 := fun_mk (st := s_packed_runs) l23 c23 k23
  have b23 := F23.binds (ps := ["lines", "way"]) fun _ _ _ _ _ _ us hl => match us, hl with | [_, _], _ => rfl
  have F24 := fun_mk (st := s_without_repetitions) l24 c24 k24
  have b24 := F24.binds (ps := ["lines"]) fun _ _ _ _ _ _ us hl => match us, hl with | [_], _ => rfl
  have F25 := fun_mk (st := s_runs_of) l25 c25 k25
  have b25 := F25.binds (ps := ["lines"]) fun _ _ _ _ _ _ us hl => match us, hl with | [_], _ => rfl
  have F26 := fun_mk (st := s_repeat_count) l26 c26 k26
  have b26 := F26.binds (ps := ["count", "way"]) fun _ _ _ _ _ _ us hl => match us, hl with | [_, _], _ => rfl
  have F27 := fun_mk (st := s__law_cell) l27 c27 k27
  have b27 := F27.binds (ps := ["script", "k"]) fun _ _ _ _ _ _ us hl => match us, hl with | [_, _], _ => rfl
  have F28 := fun_mk (st := s__law_stream) l28 c28 k28
  have b28 := F28.binds (ps := ["cell"]) fun _ _ _ _ _ _ us hl => match us, hl with | [_], _ => rfl
  have F29 := fun_mk (st := s__law_next) l29 c29 k29
  have b29 := F29.binds (ps := ["stream", "size"]) fun _ _ _ _ _ _ us hl => match us, hl with | [_, _], _ => rfl
  have F30 := fun_mk (st := s__law_is_integer) l30 c30 k30
  have b30 := F30.binds (ps := ["actual"]) fun _ _ _ _ _ _ us hl => match us, hl with | [_], _ => rfl
  have F31 := fun_mk (st := s__law_rows) l31 c31 k31
  have b31 := F31.binds (ps := ["stream"]) fun _ _ _ _ _ _ us hl => match us, hl with | [_], _ => rfl
  have F32 := fun_mk (st := s_law) l32 c32 k32
  have b32 := F32.binds (ps := ["script"]) fun _ _ _ _ _ _ us hl => match us, hl with | [_], _ => rfl
  let A : Nat → Addr := fun | 0 => a0 | 1 => a1 | 2 => a2 | 3 => a3 | 4 => a4 | 5 => a5 | 6 => a6 | 7 => a7 | 8 => a8 | 9 => a9 | 10 => a10 | 11 => a11 | 12 => a12 | 13 => a13 | 14 => a14 | 15 => a15 | 16 => a16 | 17 => a17 | 18 => a18 | 19 => a19 | 20 => a20 | 21 => a21 | 22 => a22 | 23 => a23 | 24 => a24 | 25 => a25 | 26 => a26 | 27 => a27 | 28 => a28 | 29 => a29 | 30 => a30 | 31 => a31 | 32 => fa | 33 => cc8 | 34 => pp8 | _ => 0
  let D : Nat → FuncData := fun | 1 => PySem.W.fnOf "two_nybble_lengths" "two_nybble_lengths" (defArgs s_two_nybble_lengths) (defBody s_two_nybble_lengths) (defScope s_two_nybble_lengths) .none kV1 dc1 pm1 an1 cd1 ct1 | 2 => PySem.W.fnOf "write_length" "write_length" (defArgs s_write_length) (defBody s_write_length) (defScope s_write_length) .none kV2 dc2 pm2 an2 cd2 ct2 | 3 => PySem.W.fnOf "written_digits" "written_digits" (defArgs s_written_digits) (defBody s_written_digits) (defScope s_written_digits) .none kV3 dc3 pm3 an3 cd3 ct3 | 4 => PySem.W.fnOf "read_length" "read_length" (defArgs s_read_length) (defBody s_read_length) (defScope s_read_length) .none kV4 dc4 pm4 an4 cd4 ct4 | 5 => PySem.W.fnOf "zeros_at" "zeros_at" (defArgs s_zeros_at) (defBody s_zeros_at) (defScope s_zeros_at) .none kV5 dc5 pm5 an5 cd5 ct5 | 6 => PySem.W.fnOf "length_size" "length_size" (defArgs s_length_size) (defBody s_length_size) (defScope s_length_size) .none kV6 dc6 pm6 an6 cd6 ct6 | 7 => PySem.W.fnOf "unpacked" "unpacked" (defArgs s_unpacked) (defBody s_unpacked) (defScope s_unpacked) .none kV7 dc7 pm7 an7 cd7 ct7 | 8 => PySem.W.fnOf "unpacked_bits" "unpacked_bits" (defArgs s_unpacked_bits) (defBody s_unpacked_bits) (defScope s_unpacked_bits) .none kV8 dc8 pm8 an8 (.ref cc8) ct8 | 9 => PySem.W.fnOf "__init__" "Unpacker.__init__" (defArgs s_Unpacker___init__) (defBody s_Unpacker___init__) (defScope s_Unpacker___init__) .none kV9 dc9 pm9 an9 cd9 ct9 | 10 => PySem.W.fnOf "is_done" "Unpacker.is_done" (defArgs s_Unpacker_is_done) (defBody s_Unpacker_is_done) (defScope s_Unpacker_is_done) .none kV10 dc10 pm10 an10 cd10 ct10 | 11 => PySem.W.fnOf "result" "Unpacker.result" (defArgs s_Unpacker_result) (defBody s_Unpacker_result) (defScope s_Unpacker_result) .none kV11 dc11 pm11 an11 cd11 ct11 | 12 => PySem.W.fnOf "read_run" "Unpacker.read_run" (defArgs s_Unpacker_read_run) (defBody s_Unpacker_read_run) (defScope s_Unpacker_read_run) .none kV12 dc12 pm12 an12 cd12 ct12 | 13 => PySem.W.fnOf "_is_at_repeats" "Unpacker._is_at_repeats" (defArgs s_Unpacker__is_at_repeats) (defBody s_Unpacker__is_at_repeats) (defScope s_Unpacker__is_at_repeats) .none kV13 dc13 pm13 an13 cd13 ct13 | 14 => PySem.W.fnOf "_read_repeats" "Unpacker._read_repeats" (defArgs s_Unpacker__read_repeats) (defBody s_Unpacker__read_repeats) (defScope s_Unpacker__read_repeats) .none kV14 dc14 pm14 an14 cd14 ct14 | 15 => PySem.W.fnOf "_read_length" "Unpacker._read_length" (defArgs s_Unpacker__read_length) (defBody s_Unpacker__read_length) (defScope s_Unpacker__read_length) .none kV15 dc15 pm15 an15 cd15 ct15 | 16 => PySem.W.fnOf "_repeats_ahead" "Unpacker._repeats_ahead" (defArgs s_Unpacker__repeats_ahead) (defBody s_Unpacker__repeats_ahead) (defScope s_Unpacker__repeats_ahead) .none kV16 dc16 pm16 an16 cd16 ct16 | 17 => PySem.W.fnOf "_pixels_ahead" "Unpacker._pixels_ahead" (defArgs s_Unpacker__pixels_ahead) (defBody s_Unpacker__pixels_ahead) (defScope s_Unpacker__pixels_ahead) .none kV17 dc17 pm17 an17 cd17 ct17 | 18 => PySem.W.fnOf "_add_pixel" "Unpacker._add_pixel" (defArgs s_Unpacker__add_pixel) (defBody s_Unpacker__add_pixel) (defScope s_Unpacker__add_pixel) .none kV18 dc18 pm18 an18 cd18 ct18 | 19 => PySem.W.fnOf "pack" "pack" (defArgs s_pack) (defBody s_pack) (defScope s_pack) .none kV19 dc19 pm19 an19 cd19 ct19 | 20 => PySem.W.fnOf "best_way" "best_way" (defArgs s_best_way) (defBody s_best_way) (defScope s_best_way) .none kV20 dc20 pm20 an20 cd20 ct20 | 21 => PySem.W.fnOf "unpack" "unpack" (defArgs s_unpack) (defBody s_unpack) (defScope s_unpack) .none kV21 dc21 pm21 an21 cd21 ct21 | 22 => PySem.W.fnOf "packed_bits" "packed_bits" (defArgs s_packed_bits) (defBody s_packed_bits) (defScope s_packed_bits) .none kV22 dc22 pm22 an22 cd22 ct22 | 23 => PySem.W.fnOf "packed_runs" "packed_runs" (defArgs s_packed_runs) (defBody s_packed_runs) (defScope s_packed_runs) .none kV23 dc23 pm23 an23 cd23 ct23 | 24 => PySem.W.fnOf "without_repetitions" "without_repetitions" (defArgs s_without_repetitions) (defBody s_without_repetitions) (defScope s_without_repetitions) .none kV24 dc24 pm24 an24 cd24 ct24 | 25 => PySem.W.fnOf "runs_of" "runs_of" (defArgs s_runs_of) (defBody s_runs_of) (defScope s_runs_of) .none kV25 dc25 pm25 an25 cd25 ct25 | 26 => PySem.W.fnOf "repeat_count" "repeat_count" (defArgs s_repeat_count) (defBody s_repeat_count) (defScope s_repeat_count) .none kV26 dc26 pm26 an26 cd26 ct26 | 27 => PySem.W.fnOf "_law_cell" "_law_cell" (defArgs s__law_cell) (defBody s__law_cell) (defScope s__law_cell) .none kV27 dc27 pm27 an27 cd27 ct27 | 28 => PySem.W.fnOf "_law_stream" "_law_stream" (defArgs s__law_stream) (defBody s__law_stream) (defScope s__law_stream) .none kV28 dc28 pm28 an28 cd28 ct28 | 29 => PySem.W.fnOf "_law_next" "_law_next" (defArgs s__law_next) (defBody s__law_next) (defScope s__law_next) .none kV29 dc29 pm29 an29 cd29 ct29 | 30 => PySem.W.fnOf "_law_is_integer" "_law_is_integer" (defArgs s__law_is_integer) (defBody s__law_is_integer) (defScope s__law_is_integer) .none kV30 dc30 pm30 an30 cd30 ct30 | 31 => PySem.W.fnOf "_law_rows" "_law_rows" (defArgs s__law_rows) (defBody s__law_rows) (defScope s__law_rows) .none kV31 dc31 pm31 an31 cd31 ct31 | _ => PySem.W.fnOf "law" "law" (defArgs s_law) (defBody s_law) (defScope s_law) .none kV32 dc32 pm32 an32 cd32 ct32
  have q8 := tabs "unpacked_bits" a8 cc8 pp8 _ _ _ _ _ _ tr8 (PySem.W.mg_of X G n8) l8 rfl rfl tl8 tv8
  have T : ∀ base : Heap, (∀ p ∈ [(cc8, pp8)], GxR.TabB base mg p.1 p.2) → Txt K mg A D base := fun base TB =>
    {F_two_nybble_lengths := F1,
     m_two_nybble_lengths := PySem.W.mg_of X G n1,
     b_two_nybble_lengths := b1,
     F_write_length := F2,
     m_write_length := PySem.W.mg_of X G n2,
     b_write_length := b2,
     F_written_digits := F3,
     m_written_digits := PySem.W.mg_of X G n3,
     b_written_digits := b3,
     F_read_length := F4,
     m_read_length := PySem.W.mg_of X G n4,
     b_read_length := b4,
     F_zeros_at := F5,
     m_zeros_at := PySem.W.mg_of X G n5,
     b_zeros_at := b5,
     F_length_size := F6,
     m_length_size := PySem.W.mg_of X G n6,
     b_length_size := b6,
     F_unpacked := F7,
     m_unpacked := PySem.W.mg_of X G n7,
     b_unpacked := b7,
     F_unpacked_bits := F8,
     m_unpacked_bits := PySem.W.mg_of X G n8,
     b_unpacked_bits := b8,
     k_unpacked_bits := rfl,
     t_unpacked_bits := TB (cc8, pp8) (.head _),
     F_Unpacker___init__ := F9,
     b_Unpacker___init__ := b9,
     F_Unpacker_is_done := F10,
     m_Unpacker_is_done := ⟨n10, fn10, k10⟩,
     b_Unpacker_is_done := b10,
     F_Unpacker_result := F11,
     m_Unpacker_result := ⟨n11, fn11, k11⟩,
     b_Unpacker_result := b11,
     F_Unpacker_read_run := F12,
     m_Unpacker_read_run := ⟨n12, fn12, k12⟩,
     b_Unpacker_read_run := b12,
     F_Unpacker__is_at_repeats := F13,
     m_Unpacker__is_at_repeats := ⟨n13, fn13, k13⟩,
     b_Unpacker__is_at_repeats := b13,
     F_Unpacker__read_repeats := F14,
     m_Unpacker__read_repeats := ⟨n14, fn14, k14⟩,
     b_Unpacker__read_repeats := b14,
     F_Unpacker__read_length := F15,
     m_Unpacker__read_length := ⟨n15, fn15, k15⟩,
     b_Unpacker__read_length := b15,
     F_Unpacker__repeats_ahead := F16,
     m_Unpacker__repeats_ahead := ⟨n16, fn16, k16⟩,
     b_Unpacker__repeats_ahead := b16,
     F_Unpacker__pixels_ahead := F17,
     m_Unpacker__pixels_ahead := ⟨n17, fn17, k17⟩,
     b_Unpacker__pixels_ahead := b17,
     F_Unpacker__add_pixel := F18,
     m_Unpacker__add_pixel := ⟨n18, fn18, k18⟩,
     b_Unpacker__add_pixel := b18,
     F_pack := F19,
     m_pack := PySem.W.mg_of X G n19,
     b_pack := b19,
     F_best_way := F20,
     m_best_way := PySem.W.mg_of X G n20,
     b_best_way := b20,
     F_unpack := F21,
     m_unpack := PySem.W.mg_of X G n21,
     b_unpack := b21,
     F_packed_bits := F22,
     m_packed_bits := PySem.W.mg_of X G n22,
     b_packed_bits := b22,
     F_packed_runs := F23,
     m_packed_runs := PySem.W.mg_of X G n23,
     b_packed_runs := b23,
     F_without_repetitions := F24,
     m_without_repetitions := PySem.W.mg_of X G n24,
     b_without_repetitions := b24,
     F_runs_of := F25,
     m_runs_of := PySem.W.mg_of X G n25,
     b_runs_of := b25,
     F_repeat_count := F26,
     m_repeat_count := PySem.W.mg_of X G n26,
     b_repeat_count := b26,
     F__law_cell := F27,
     m__law_cell := PySem.W.mg_of X G n27,
     b__law_cell := b27,
     F__law_stream := F28,
     m__law_stream := PySem.W.mg_of X G n28,
     b__law_stream := b28,
     F__law_next := F29,
     m__law_next := PySem.W.mg_of X G n29,
     b__law_next := b29,
     F__law_is_integer := F30,
     m__law_is_integer := PySem.W.mg_of X G n30,
     b__law_is_integer := b30,
     F__law_rows := F31,
     m__law_rows := PySem.W.mg_of X G n31,
     b__law_rows := b31,
     F_law := F32,
     m_law := PySem.W.mg_of X G n32,
     b_law := b32,
     q_Unpacker := ⟨pg0, hd0, po0, sa0⟩,
     g_Unpacker := PySem.W.mg_of X G ng0,
     M_Unpacker := ⟨mk0, n9, fn9, kc0⟩,
     nf_Unpacker__nybbles := na0__nybbles,
     nf_Unpacker__way := na0__way,
     nf_Unpacker__columns := na0__columns,
     nf_Unpacker__count := na0__count,
     nf_Unpacker__at := na0__at,
     nf_Unpacker__done := na0__done,
     nf_Unpacker__line := na0__line,
     nf_Unpacker__repeats := na0__repeats,
     z_bool := PySem.W.mg_none_of X G z_bool,
     z_divmod := PySem.W.mg_none_of X G z_divmod,
     z_enumerate := PySem.W.mg_none_of X G z_enumerate,
     z_int := PySem.W.mg_none_of X G z_int,
     z_isinstance := PySem.W.mg_none_of X G z_isinstance,
     z_len := PySem.W.mg_none_of X G z_len,
     z_list := PySem.W.mg_none_of X G z_list,
     z_min := PySem.W.mg_none_of X G z_min,
     z_range := PySem.W.mg_none_of X G z_range,
     z_tuple := PySem.W.mg_none_of X G z_tuple,
     c_LAST_RUN_WAY := ⟨_, PySem.W.mg_of X G c_LAST_RUN_WAY, _, rfl⟩,
     c_BASE := ⟨_, PySem.W.mg_of X G c_BASE, _, rfl⟩,
     c_FIRST_IN_DIGITS := ⟨_, PySem.W.mg_of X G c_FIRST_IN_DIGITS, _, rfl⟩,
     c_BITS_WAY := ⟨_, PySem.W.mg_of X G c_BITS_WAY, _, rfl⟩,
     c_NYBBLE_BITS := ⟨_, PySem.W.mg_of X G c_NYBBLE_BITS, _, rfl⟩,
     c_MANY_REPEATS := ⟨_, PySem.W.mg_of X G c_MANY_REPEATS, _, rfl⟩,
     c_ONE_REPEAT := ⟨_, PySem.W.mg_of X G c_ONE_REPEAT, _, rfl⟩,
     c_MOST_ZEROS := ⟨_, PySem.W.mg_of X G c_MOST_ZEROS, _, rfl⟩}
  exact ⟨_, [(cc8, pp8)], sp_law K pp8, (List.forall_mem_cons.mpr ⟨q8.1, fun _ h => nomatch h⟩), (List.forall_mem_cons.mpr ⟨tn8, fun _ h => nomatch h⟩), (List.forall_mem_cons.mpr ⟨q8.2, fun _ h => nomatch h⟩), fun s v => .of_eq rfl, fun H a ns hl _ hH hS => ⟨a, ns, rfl, hS, hl, ⟨#[], hH (cc8, pp8) (.head _), by simp [TriplesOk]⟩, fun _ => rfl⟩, fun base _ _ TB => ok_law (T base fun p hp => ⟨(TB p hp).1, (TB p hp).2, (TB p hp).3⟩)⟩
end G
open PySem PySem.W PyProof.Rows
set_option maxRecDepth 100000 in
set_option maxHeartbeats 0 in
theorem PySem.Challenge.cw_fontwinding_k68_whole_each_way_there_and_holds : PySem.Challenge.rw_fontwinding_k68_whole_each_way_there_and.Holds := by
  w_on; o_law; k_head; (case hw => w_witness2)
  k_fill
  refine Tg.walk_tabs (l := PySem.Challenge.rw_fontwinding_k68_whole_each_way_there_and) (n := 63) (k := 9) (x := "script") (CX := fun _ => L2.CX0) rfl (by decide) rfl ⟨rfl, by decide, by decide⟩ (fun w h Y => PySem.W.kIn_of Y) ?F (fun _ _ _ _ _ h => h)
  case F =>
    intro w mg fa h KX G0 hmg tabs
    refine' G.all_mk KX G0 hmg tabs ?n1 ?l1 ?c1 ?k1 ?n2 ?l2 ?c2 ?k2 ?n3 ?l3 ?c3 ?k3 ?n4 ?l4 ?c4 ?k4 ?n5 ?l5 ?c5 ?k5 ?n6 ?l6 ?c6 ?k6 ?n7 ?l7 ?c7 ?k7 ?n8 ?l8 ?c8 ?k8 ?tl8 ?tv8 ?tn8 ?tr8 ?n9 ?fn9 ?l9 ?c9 ?k9 ?n10 ?fn10 ?l10 ?c10 ?k10 ?n11 ?fn11 ?l11 ?c11 ?k11 ?n12 ?fn12 ?l12 ?c12 ?k12 ?n13 ?fn13 ?l13 ?c13 ?k13 ?n14 ?fn14 ?l14 ?c14 ?k14 ?n15 ?fn15 ?l15 ?c15 ?k15 ?n16 ?fn16 ?l16 ?c16 ?k16 ?n17 ?fn17 ?l17 ?c17 ?k17 ?n18 ?fn18 ?l18 ?c18 ?k18 ?n19 ?l19 ?c19 ?k19 ?n20 ?l20 ?c20 ?k20 ?n21 ?l21 ?c21 ?k21 ?n22 ?l22 ?c22 ?k22 ?n23 ?l23 ?c23 ?k23 ?n24 ?l24 ?c24 ?k24 ?n25 ?l25 ?c25 ?k25 ?n26 ?l26 ?c26 ?k26 ?n27 ?l27 ?c27 ?k27 ?n28 ?l28 ?c28 ?k28 ?n29 ?l29 ?c29 ?k29 ?n30 ?l30 ?c30 ?k30 ?n31 ?l31 ?c31 ?k31 ?n32 ?l32 ?c32 ?k32 ?ng0 ?pg0 ?hd0 ?po0 ?sa0 ?mk0 ?kc0 ?na0__nybbles ?na0__way ?na0__columns ?na0__count ?na0__at ?na0__done ?na0__line ?na0__repeats ?z_bool ?z_divmod ?z_enumerate ?z_int ?z_isinstance ?z_len ?z_list ?z_min ?z_range ?z_tuple ?c_LAST_RUN_WAY ?c_BASE ?c_FIRST_IN_DIGITS ?c_BITS_WAY ?c_NYBBLE_BITS ?c_MANY_REPEATS ?c_ONE_REPEAT ?c_MOST_ZEROS
    (case ng0 => k_is)
    (case n1 => k_is)
    (case l1 => k_is)
    (case c1 => k_is)
    (case k1 => k_is)
    (case n2 => k_is)
    (case l2 => k_is)
    (case c2 => k_is)
    (case k2 => k_is)
    (case n3 => k_is)
    (case l3 => k_is)
    (case c3 => k_is)
    (case k3 => k_is)
    (case n4 => k_is)
    (case l4 => k_is)
    (case c4 => k_is)
    (case k4 => k_is)
    (case n5 => k_is)
    (case l5 => k_is)
    (case c5 => k_is)
    (case k5 => k_is)
    (case n6 => k_is)
    (case l6 => k_is)
    (case c6 => k_is)
    (case k6 => k_is)
    (case n7 => k_is)
    (case l7 => k_is)
    (case c7 => k_is)
    (case k7 => k_is)
    (case n8 => k_is)
    (case l8 => k_is)
    (case c8 => k_is)
    (case k8 => k_is)
    (case tl8 => k_is)
    (case tv8 => exact rfl)
    (case tn8 => kernel_rfl)
    (case tr8 => kernel_rfl)
    (case n9 => k_is)
    (case fn9 => k_is)
    (case l9 => k_is)
    (case c9 => k_is)
    (case k9 => k_is)
    (case n10 => k_is)
    (case fn10 => k_is)
    (case l10 => k_is)
    (case c10 => k_is)
    (case k10 => k_is)
    (case n11 => k_is)
    (case fn11 => k_is)
    (case l11 => k_is)
    (case c11 => k_is)
    (case k11 => k_is)
    (case n12 => k_is)
    (case fn12 => k_is)
    (case l12 => k_is)
    (case c12 => k_is)
    (case k12 => k_is)
    (case n13 => k_is)
    (case fn13 => k_is)
    (case l13 => k_is)
    (case c13 => k_is)
    (case k13 => k_is)
    (case n14 => k_is)
    (case fn14 => k_is)
    (case l14 => k_is)
    (case c14 => k_is)
    (case k14 => k_is)
    (case n15 => k_is)
    (case fn15 => k_is)
    (case l15 => k_is)
    (case c15 => k_is)
    (case k15 => k_is)
    (case n16 => k_is)
    (case fn16 => k_is)
    (case l16 => k_is)
    (case c16 => k_is)
    (case k16 => k_is)
    (case n17 => k_is)
    (case fn17 => k_is)
    (case l17 => k_is)
    (case c17 => k_is)
    (case k17 => k_is)
    (case n18 => k_is)
    (case fn18 => k_is)
    (case l18 => k_is)
    (case c18 => k_is)
    (case k18 => k_is)
    (case n19 => k_is)
    (case l19 => k_is)
    (case c19 => k_is)
    (case k19 => k_is)
    (case n20 => k_is)
    (case l20 => k_is)
    (case c20 => k_is)
    (case k20 => k_is)
    (case n21 => k_is)
    (case l21 => k_is)
    (case c21 => k_is)
    (case k21 => k_is)
    (case n22 => k_is)
    (case l22 => k_is)
    (case c22 => k_is)
    (case k22 => k_is)
    (case n23 => k_is)
    (case l23 => k_is)
    (case c23 => k_is)
    (case k23 => k_is)
    (case n24 => k_is)
    (case l24 => k_is)
    (case c24 => k_is)
    (case k24 => k_is)
    (case n25 => k_is)
    (case l25 => k_is)
    (case c25 => k_is)
    (case k25 => k_is)
    (case n26 => k_is)
    (case l26 => k_is)
    (case c26 => k_is)
    (case k26 => k_is)
    (case n27 => k_is)
    (case l27 => k_is)
    (case c27 => k_is)
    (case k27 => k_is)
    (case n28 => k_is)
    (case l28 => k_is)
    (case c28 => k_is)
    (case k28 => k_is)
    (case n29 => k_is)
    (case l29 => k_is)
    (case c29 => k_is)
    (case k29 => k_is)
    (case n30 => k_is)
    (case l30 => k_is)
    (case c30 => k_is)
    (case k30 => k_is)
    (case n31 => k_is)
    (case l31 => k_is)
    (case c31 => k_is)
    (case k31 => k_is)
    (case n32 => k_is)
    (case l32 => k_is)
    (case c32 => k_is)
    (case k32 => k_is)
    (case pg0 => k_is)
    (case hd0 => k_is)
    (case po0 => k_is)
    (case sa0 => k_is)
    (case mk0 => k_is)
    (case kc0 => k_is)
    (case na0__nybbles => k_is)
    (case na0__way => k_is)
    (case na0__columns => k_is)
    (case na0__count => k_is)
    (case na0__at => k_is)
    (case na0__done => k_is)
    (case na0__line => k_is)
    (case na0__repeats => k_is)
    (case z_bool => k_is)
    (case z_divmod => k_is)
    (case z_enumerate => k_is)
    (case z_int => k_is)
    (case z_isinstance => k_is)
    (case z_len => k_is)
    (case z_list => k_is)
    (case z_min => k_is)
    (case z_range => k_is)
    (case z_tuple => k_is)
    (case c_LAST_RUN_WAY => k_is)
    (case c_BASE => k_is)
    (case c_FIRST_IN_DIGITS => k_is)
    (case c_BITS_WAY => k_is)
    (case c_NYBBLE_BITS => k_is)
    (case c_MANY_REPEATS => k_is)
    (case c_ONE_REPEAT => k_is)
    (case c_MOST_ZEROS => k_is)
