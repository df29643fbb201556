import PyProof.Rows.All
import Wide.All
import OpenK.AllK
import Wide.FinOn
import HandS.GenOver
import HandS.GenList
import HandS.Zip
import HandS.ForMost
import HandS.ForExc
import HandS.Wide
import HandS.Gcd
import HandS.IsInst
import HandS.ExcIs
import HandS.TryMany
import HandS.Evl
import HandS.Style
import HandS.SetBool
import HandS.Strs
import HandS.SortInts
import PyProof.ListIndex
import PyProof.ListIndexNeg
import HandS.TupSets
import HandS.SortRule
import HandS.TupLe
import HandS.Deep
import HandS.More
import HandS.Defaults
import HandS.MakeKwOnly
import HandS.Property
import HandS.Walk
import HandS.CallSlots
import HandS.Comp
import HandS.AnyAll
import PyProof.TupleOfGen
import HandS.EndOwn
import HandS.WordsExc
import HandS.TupAny
import HandS.FStr
import HandS.RaiseMore
import HandS.Dict
import HandS.Conv
import HandS.TupLen
import HandS.WideBits
import KE.KAssignIn
import HandS.IterVal
import HandS.DictComp
import PyProof.InstSpecial
import PyProof.TupleIter
import PySem.Challenge.RW_fontwinding_k65_widths_and_positions
set_option Elab.async false
set_option linter.all false
set_option maxRecDepth 100000
set_option maxHeartbeats 4000000
/-! Sw: what runs while generators sleep leaves them as they are. Each sleeper is put in the place of one that cannot be woken; a run that ends there has woken none, so it ends alike with the sleepers themselves. -/
namespace Sw
open PySem
open Sem (wp)
/-- asleep, and without a way on -/
def St (x : GenState) : Prop := ∃ (w : String) (l : List Value) (c : Code) (p : Pos) (fs : List Frame) (cl : Bool), x = .suspended (fun _ => .unsupported w) l c p fs cl
def NG (x : GenState) : Prop := ∀ k l c p fs cl, x = .suspended k l c p fs cl → splitAtGen fs = none
def Rl (x y : GenState) : Prop := (x = y ∧ NG x) ∨ (St x ∧ x.seen = y.seen ∧ x.bare = y.bare)
structure GR (a b : Array GenState) : Prop where
  sz : b.size = a.size
  rl : ∀ (i : Nat) x y, a[i]? = some x → b[i]? = some y → Rl x y
structure Kp (a b c d : Array GenState) : Prop where
  kp : ∀ (i : Nat) x, a[i]? = some x → St x → c[i]? = some x ∧ d[i]? = b[i]?
theorem st_fresh {c : Code} : ¬ St (.fresh c) := by rintro ⟨_, _, _, _, _, _, e⟩; cases e
theorem st_run : ¬ St .running := by rintro ⟨_, _, _, _, _, _, e⟩; cases e
theorem st_fin : ¬ St .finished := by rintro ⟨_, _, _, _, _, _, e⟩; cases e
theorem rl_self {x : GenState} (h : NG x) : Rl x x := .inl ⟨rfl, h⟩
theorem ng_run : NG .running := by intro _ _ _ _ _ _ e; cases e
theorem ng_fin : NG .finished := by intro _ _ _ _ _ _ e; cases e
theorem ng_fresh {c : Code} : NG (.fresh c) := by intro _ _ _ _ _ _ e; cases e
variable {a b c d e f : Array GenState} {g : Nat} {x y : GenState}
theorem GR.get (h : GR a b) (e : a[g]? = some x) : ∃ y, b[g]? = some y ∧ Rl x y := by
  have hg : g < a.size := (Array.getElem?_eq_some_iff.mp e).1
  have hb : g < b.size := by rw [h.sz]; exact hg
  exact ⟨b[g], Array.getElem?_eq_getElem hb, h.rl g x _ e (Array.getElem?_eq_getElem hb)⟩
theorem GR.awake (h : GR a b) (e : a[g]? = some x) (n : ¬ St x) : b[g]? = some x ∧ NG x := by
  obtain ⟨y, hy, r⟩ := h.get e
  rcases r with ⟨rfl, ng⟩ | ⟨s, _⟩
  · exact ⟨hy, ng⟩
  · exact absurd s n
theorem get_set {i : Nat} : (a.setIfInBounds g x)[i]? = if i = g then (if g < a.size then some x else none) else a[i]? := by
  by_cases h : i = g
  · subst h
    rw [if_pos rfl]
    by_cases h2 : i < a.size
    · rw [if_pos h2]; simp [h2]
    · rw [if_neg h2]; simp [h2]
  · rw [if_neg h, Array.getElem?_setIfInBounds_ne (Ne.symm h)]
theorem GR.set (h : GR a b) (r : Rl x y) : GR (a.setIfInBounds g x) (b.setIfInBounds g y) := by
  refine ⟨by rw [Array.size_setIfInBounds, Array.size_setIfInBounds, h.sz], fun i u v e1 e2 => ?_⟩
  rw [get_set] at e1 e2
  by_cases z : i = g
  · rw [if_pos z] at e1 e2
    rw [h.sz] at e2
    by_cases z2 : g < a.size
    · rw [if_pos z2] at e1 e2
      cases e1; cases e2; exact r
    · rw [if_neg z2] at e1
      cases e1
  · rw [if_neg z] at e1 e2
    exact h.rl i u v e1 e2
theorem GR.push (h : GR a b) (r : Rl x y) : GR (a.push x) (b.push y) := by
  refine ⟨by rw [Array.size_push, Array.size_push, h.sz], fun i u v e1 e2 => ?_⟩
  rw [Array.getElem?_push] at e1 e2
  rw [h.sz] at e2
  split at e1
  · rename_i z
    rw [if_pos z] at e2
    cases e1; cases e2; exact r
  · rename_i z
    rw [if_neg z] at e2
    exact h.rl i u v e1 e2
theorem Kp.refl : Kp a b a b := ⟨fun _ _ e _ => ⟨e, rfl⟩⟩
theorem Kp.trans (h : Kp a b c d) (k : Kp c d e f) : Kp a b e f := ⟨fun i x ex sx => by
  obtain ⟨h1, h2⟩ := h.kp i x ex sx
  obtain ⟨k1, k2⟩ := k.kp i x h1 sx
  exact ⟨k1, k2.trans h2⟩⟩
theorem Kp.pushed (h : GR a b) : Kp a b (a.push x) (b.push y) := ⟨fun i u e _ => by
  have hi : i < a.size := (Array.getElem?_eq_some_iff.mp e).1
  rw [Array.getElem?_push, Array.getElem?_push, if_neg (by omega), if_neg (by rw [h.sz]; omega)]
  exact ⟨e, rfl⟩⟩
/-- one that is awake is set -/
theorem Kp.setr (k : Kp a b c d) (n : ∀ z, a[g]? = some z → ¬ St z) : Kp a b (c.setIfInBounds g x) (d.setIfInBounds g y) := ⟨fun i u e su => by
  have hne : i ≠ g := fun z => n u (by rw [← z]; exact e) su
  obtain ⟨h1, h2⟩ := k.kp i u e su
  rw [get_set, get_set, if_neg hne, if_neg hne]
  exact ⟨h1, h2⟩⟩
theorem Kp.setl (k : Kp (a.setIfInBounds g x) (b.setIfInBounds g y) c d) (n : ∀ z, a[g]? = some z → ¬ St z) : Kp a b c d := ⟨fun i u e su => by
  have hne : i ≠ g := fun z => n u (by rw [← z]; exact e) su
  obtain ⟨h1, h2⟩ := k.kp i u (by rw [get_set, if_neg hne]; exact e) su
  rw [get_set, if_neg hne] at h2
  exact ⟨h1, h2⟩⟩
theorem split_ret {k : Result → Sem Fin} {h : Option Value} {g : Bool} {l : List Value} {c : Code} {p : Pos} {kp : List Value} {fs : List Frame} (e : splitAtGen (.ret k h g l c p kp :: fs) = none) : splitAtGen fs = none := by
  have e : (splitAtGen fs).map _ = none := e
  cases q : splitAtGen fs with
  | none => rfl
  | some z => rw [q] at e; cases e
theorem split_gen {n : Nat} {k : GenResult → Sem Fin} {l : List Value} {c : Code} {p : Pos} {fs : List Frame} (e : splitAtGen (.gen n k l c p :: fs) = none) : False := by
  cases (show some _ = none from e)
theorem split_app : ∀ {fs gs : List Frame}, splitAtGen fs = none → splitAtGen gs = none → splitAtGen (fs ++ gs) = none
  | [], _, _, h => h
  | .gen .. :: _, _, h, _ => (split_gen h).elim
  | .ret k h g l c p kp :: fs, gs, h1, h2 => by
    show (splitAtGen (fs ++ gs)).map _ = none
    rw [split_app (split_ret h1) h2]
    rfl
def NGE : End → Prop
  | .ret _ => True
  | .susp _ _ _ _ _ _ fs => splitAtGen fs = none
theorem nge_gen {e : End} (h : NGE e) : NG e.genState := by
  cases e with
  | ret r => exact ng_fin
  | susp v g l k c p fs =>
    intro k' l' c' p' fs' cl' q
    cases q
    exact h
/-- nothing that cannot go on ends -/
theorem no_run {M : Model} {Γ : Ctx} {p : Pos} {t : Sem Fin} {fs : List Frame} {s s' : Shared} {e : End} (h : Runs M Γ p t fs s e s') : ∀ w, t ≠ .unsupported w := by
  induction h with
  | segRet _ _ ih _ => exact ih
  | segGen _ _ ih _ => exact ih
  | segSuspOut _ _ ih => exact ih
  | segSuspGen _ _ _ _ ih _ => exact ih
  | _ => intro w z; cases z
theorem not_st {M : Model} {Γ : Ctx} {p : Pos} {r : Resume} {k : Resume → Sem Fin} {l : List Value} {c : Code} {p0 : Pos} {fs : List Frame} {cl : Bool} {s s' : Shared} {e : End} (h : Runs M Γ p (k r) fs s e s') : ¬ St (.suspended k l c p0 fs cl) := by
  rintro ⟨w, _, _, _, _, _, z⟩
  cases z
  exact no_run h w rfl
theorem runs_sw {M : Model} {Γ : Ctx} {p : Pos} {t : Sem Fin} {fs : List Frame} {s s' : Shared} {e : End} (h : Runs M Γ p t fs s e s') : splitAtGen fs = none → ∀ G, GR s.gens G →
    ∃ G', Runs M Γ p t fs { s with gens := G } e { s' with gens := G' } ∧ GR s'.gens G' ∧ NGE e ∧ Kp s.gens G s'.gens G' := by
  induction h with
  | done => intro _ G hG; exact ⟨G, .done, hG, trivial, .refl⟩
  | raise => intro _ G hG; exact ⟨G, .raise, hG, trivial, .refl⟩
  | again q _ ih => intro hf G hG; obtain ⟨G', r, a1, a2, a3⟩ := ih hf G hG; exact ⟨G', .again q r, a1, a2, a3⟩
  | rule _ ih => intro hf G hG; obtain ⟨G', r, a1, a2, a3⟩ := ih hf G hG; exact ⟨G', .rule r, a1, a2, a3⟩
  | «at» _ ih => intro hf G hG; obtain ⟨G', r, a1, a2, a3⟩ := ih hf G hG; exact ⟨G', .at r, a1, a2, a3⟩
  | load q _ ih => intro hf G hG; obtain ⟨G', r, a1, a2, a3⟩ := ih hf G hG; exact ⟨G', .load q r, a1, a2, a3⟩
  | update q _ ih => intro hf G hG; obtain ⟨G', r, a1, a2, a3⟩ := ih hf G hG; exact ⟨G', .update q r, a1, a2, a3⟩
  | loadIfAlive _ ih => intro hf G hG; obtain ⟨G', r, a1, a2, a3⟩ := ih hf G hG; exact ⟨G', .loadIfAlive r, a1, a2, a3⟩
  | point _ ih => intro hf G hG; obtain ⟨G', r, a1, a2, a3⟩ := ih hf G hG; exact ⟨G', .point r, a1, a2, a3⟩
  | alloc _ ih => intro hf G hG; obtain ⟨G', r, a1, a2, a3⟩ := ih hf G hG; exact ⟨G', .alloc r, a1, a2, a3⟩
  | fresh _ ih => intro hf G hG; obtain ⟨G', r, a1, a2, a3⟩ := ih hf G hG; exact ⟨G', .fresh r, a1, a2, a3⟩
  | ask _ ih => intro hf G hG; obtain ⟨G', r, a1, a2, a3⟩ := ih hf G hG; exact ⟨G', .ask r, a1, a2, a3⟩
  | choose q _ ih => intro hf G hG; obtain ⟨G', r, a1, a2, a3⟩ := ih hf G hG; exact ⟨G', .choose q r, a1, a2, a3⟩
  | os _ ih => intro hf G hG; obtain ⟨G', r, a1, a2, a3⟩ := ih hf G hG; exact ⟨G', .os r, a1, a2, a3⟩
  | handled _ ih => intro hf G hG; obtain ⟨G', r, a1, a2, a3⟩ := ih hf G hG; exact ⟨G', .handled r, a1, a2, a3⟩
  | genState q _ ih =>
    intro hf G hG
    obtain ⟨G', r, a1, a2, a3⟩ := ih hf G hG
    obtain ⟨y, hy, rl⟩ := hG.get q
    rcases rl with ⟨rfl, _⟩ | ⟨_, z, _⟩
    · exact ⟨G', .genState hy r, a1, a2, a3⟩
    · rw [z] at r
      exact ⟨G', .genState hy r, a1, a2, a3⟩
  | stack _ ih => intro hf G hG; obtain ⟨G', r, a1, a2, a3⟩ := ih hf G hG; exact ⟨G', .stack r, a1, a2, a3⟩
  | thread _ ih => intro hf G hG; obtain ⟨G', r, a1, a2, a3⟩ := ih hf G hG; exact ⟨G', .thread r, a1, a2, a3⟩
  | newGen _ ih =>
    intro hf G hG
    obtain ⟨G', r, a1, a2, a3⟩ := ih hf _ (hG.push (rl_self ng_fresh))
    rw [← hG.sz] at r
    exact ⟨G', .newGen r, a1, a2, (Kp.pushed hG).trans a3⟩
  | call _ _ ih1 ih2 =>
    intro hf G hG
    obtain ⟨G1, r1, a1, a2, a3⟩ := ih1 rfl G hG
    obtain ⟨G2, r2, b1, b2, b3⟩ := ih2 rfl G1 a1
    exact ⟨G2, .call r1 r2, b1, b2, a3.trans b3⟩
  | callSusp _ ih =>
    intro hf G hG
    obtain ⟨G1, r1, a1, a2, a3⟩ := ih rfl G hG
    exact ⟨G1, .callSusp r1, a1, split_app a2 rfl, a3⟩
  | yield => intro hf G hG; exact ⟨G, .yield, hG, rfl, .refl⟩
  | @resumeFresh Γ p g l k s c e1 s1 e s' q _ hq _ ih1 ih2 =>
    intro hf G hG
    obtain ⟨hy, _⟩ := hG.awake q st_fresh
    have na : ∀ z, s.gens[g]? = some z → ¬ St z := fun z hz => by rw [q] at hz; cases hz; exact st_fresh
    obtain ⟨G1, r1, a1, a2, a3⟩ := ih1 rfl _ (hG.set (g := g) (rl_self ng_run))
    obtain ⟨G2, r2, b1, b2, b3⟩ := ih2 hf _ (a1.set (g := g) (rl_self (nge_gen a2)))
    exact ⟨G2, .resumeFresh hy r1 hq r2, b1, b2, ((Kp.setl a3 na).setr na).trans b3⟩
  | @resumeSuspended Γ p g r l k s k0 l0 c0 p0 fs cl e1 s1 e s' q h1 hq _ ih1 ih2 =>
    intro hf G hG
    obtain ⟨hy, ng⟩ := hG.awake q (not_st h1)
    have na : ∀ z, s.gens[g]? = some z → ¬ St z := fun z hz => by rw [q] at hz; cases hz; exact not_st h1
    obtain ⟨G1, r1, a1, a2, a3⟩ := ih1 (ng _ _ _ _ _ _ rfl) _ (hG.set (g := g) (rl_self ng_run))
    obtain ⟨G2, r2, b1, b2, b3⟩ := ih2 hf _ (a1.set (g := g) (rl_self (nge_gen a2)))
    exact ⟨G2, .resumeSuspended hy r1 hq r2, b1, b2, ((Kp.setl a3 na).setr na).trans b3⟩
  | resumeJustStarted q n _ ih =>
    intro hf G hG
    obtain ⟨hy, _⟩ := hG.awake q st_fresh
    obtain ⟨G', r, a1, a2, a3⟩ := ih hf G hG
    exact ⟨G', .resumeJustStarted hy n r, a1, a2, a3⟩
  | resumeThrowFresh q _ ih =>
    intro hf G hG
    obtain ⟨hy, _⟩ := hG.awake q st_fresh
    obtain ⟨G', r, a1, a2, a3⟩ := ih hf _ (hG.set (rl_self ng_fin))
    exact ⟨G', .resumeThrowFresh hy r, a1, a2, Kp.setl a3 (fun z hz => by rw [q] at hz; cases hz; exact st_fresh)⟩
  | resumeRunning q _ ih =>
    intro hf G hG
    obtain ⟨hy, _⟩ := hG.awake q st_run
    obtain ⟨G', r, a1, a2, a3⟩ := ih hf G hG
    exact ⟨G', .resumeRunning hy r, a1, a2, a3⟩
  | resumeFinished q _ ih =>
    intro hf G hG
    obtain ⟨hy, _⟩ := hG.awake q st_fin
    obtain ⟨G', r, a1, a2, a3⟩ := ih hf G hG
    exact ⟨G', .resumeFinished hy r, a1, a2, a3⟩
  | segRet _ _ ih1 ih2 =>
    intro hf G hG
    obtain ⟨G1, r1, a1, a2, a3⟩ := ih1 rfl G hG
    obtain ⟨G2, r2, b1, b2, b3⟩ := ih2 (split_ret hf) G1 a1
    exact ⟨G2, .segRet r1 r2, b1, b2, a3.trans b3⟩
  | segGen _ _ _ _ => intro hf; exact (split_gen hf).elim
  | segSuspOut q _ ih =>
    intro hf G hG
    obtain ⟨G1, r1, a1, a2, a3⟩ := ih rfl G hG
    exact ⟨G1, .segSuspOut q r1, a1, split_app a2 q, a3⟩
  | segSuspGen q _ _ _ _ _ => intro hf; rw [hf] at q; cases q
theorem returns_sw {M : Model} {Γ : Ctx} {p : Pos} {s s' : Shared} {r : Result} (h : Returns M Γ p s r s') {G : Array GenState} (hG : GR s.gens G) :
    ∃ G', Returns M Γ p { s with gens := G } r { s' with gens := G' } ∧ GR s'.gens G' ∧ Kp s.gens G s'.gens G' := by
  obtain ⟨G', a, b, _, d⟩ := runs_sw h rfl G hG
  exact ⟨G', a, b, d⟩
theorem wakes_sw {M : Model} {Γ : Ctx} {p : Pos} {g : Nat} {r : Resume} {s s' : Shared} {res : GenResult} (h : Wakes M Γ p g r s res s') {G : Array GenState} (hG : GR s.gens G) :
    ∃ G', Wakes M Γ p g r { s with gens := G } res { s' with gens := G' } ∧ GR s'.gens G' ∧ Kp s.gens G s'.gens G' := by
  unfold Wakes at h
  split at h
  · exact h.elim
  · rename_i c q
    obtain ⟨hy, _⟩ := hG.awake q st_fresh
    have na : ∀ z, s.gens[g]? = some z → ¬ St z := fun z hz => by rw [q] at hz; cases hz; exact st_fresh
    split at h
    · obtain ⟨e1, s1, hr, hq, rfl, rfl⟩ := h
      obtain ⟨G1, r1, a1, a2, a3⟩ := runs_sw hr rfl _ (hG.set (g := g) (rl_self ng_run))
      refine ⟨G1.setIfInBounds g e1.genState, ?_, a1.set (rl_self (nge_gen a2)), (Kp.setl a3 na).setr na⟩
      unfold Wakes
      rw [show ({ s with gens := G } : Shared).gens[g]? = some (.fresh c) from hy]
      exact ⟨e1, _, r1, hq, rfl, rfl⟩
    · obtain ⟨rfl, rfl⟩ := h
      refine ⟨G, ?_, hG, .refl⟩
      unfold Wakes
      rw [show ({ s' with gens := G } : Shared).gens[g]? = some (.fresh c) from hy]
      rename_i v hv
      cases v <;> first | exact ⟨rfl, rfl⟩ | exact absurd rfl hv
    · obtain ⟨rfl, rfl⟩ := h
      refine ⟨G.setIfInBounds g .finished, ?_, hG.set (rl_self ng_fin), (Kp.refl).setr na⟩
      unfold Wakes
      rw [show ({ s with gens := G } : Shared).gens[g]? = some (.fresh c) from hy]
      exact ⟨rfl, rfl⟩
  · rename_i k0 l0 c0 p0 fs cl q
    obtain ⟨e1, s1, hr, hq, rfl, rfl⟩ := h
    obtain ⟨hy, ng⟩ := hG.awake q (not_st hr)
    have na : ∀ z, s.gens[g]? = some z → ¬ St z := fun z hz => by rw [q] at hz; cases hz; exact not_st hr
    obtain ⟨G1, r1, a1, a2, a3⟩ := runs_sw hr (ng _ _ _ _ _ _ rfl) _ (hG.set (g := g) (rl_self ng_run))
    refine ⟨G1.setIfInBounds g e1.genState, ?_, a1.set (rl_self (nge_gen a2)), (Kp.setl a3 na).setr na⟩
    unfold Wakes
    rw [show ({ s with gens := G } : Shared).gens[g]? = _ from hy]
    exact ⟨e1, _, r1, hq, rfl, rfl⟩
  · rename_i q
    obtain ⟨rfl, rfl⟩ := h
    obtain ⟨hy, _⟩ := hG.awake q st_run
    refine ⟨G, ?_, hG, .refl⟩
    unfold Wakes
    rw [show ({ s' with gens := G } : Shared).gens[g]? = _ from hy]
    exact ⟨rfl, rfl⟩
  · rename_i q
    obtain ⟨rfl, rfl⟩ := h
    obtain ⟨hy, _⟩ := hG.awake q st_fin
    refine ⟨G, ?_, hG, .refl⟩
    unfold Wakes
    rw [show ({ s' with gens := G } : Shared).gens[g]? = _ from hy]
    exact ⟨rfl, rfl⟩
/-- how the run with the sleepers stands to the run without them -/
def SW (a b : Array GenState) (s0 s' : Shared) : Prop := ∃ G', s' = { s0 with gens := G' } ∧ GR s0.gens G' ∧ Kp a b s0.gens G'
theorem SW.pre {a b c d : Array GenState} {s0 s' : Shared} (k : Kp a b c d) (h : SW c d s0 s') : SW a b s0 s' := by
  obtain ⟨G', e, r, k'⟩ := h
  exact ⟨G', e, r, k.trans k'⟩
theorem wp_sw {α : Type} (M : Model) (Γ : Ctx) (t : Sem α) : ∀ (Q : α → Pos → Shared → Prop) (E : Value → Pos → Shared → Prop) (p : Pos) (s : Shared) (G : Array GenState), GR s.gens G → wp M Γ t Q E p s →
    wp M Γ t (fun a p' s' => ∃ s0, SW s.gens G s0 s' ∧ Q a p' s0) (fun e p' s' => ∃ s0, SW s.gens G s0 s' ∧ E e p' s0) p { s with gens := G } := by
  have fin : ∀ {s : Shared} {G : Array GenState}, GR s.gens G → SW s.gens G s { s with gens := G } := fun h => ⟨_, rfl, h, .refl⟩
  induction t with
  | pure a => intro Q E p s G hG h; exact ⟨s, fin hG, h⟩
  | raise e => intro Q E p s G hG h; exact ⟨s, fin hG, h⟩
  | unsupported _ => intro Q E p s G _ h; exact h
  | finish _ => intro Q E p s G _ h; exact h
  | rule _ k ih => intro Q E p s G hG h; exact ih () Q E p s G hG h
  | «at» p' k ih => intro Q E p s G hG h; exact ih () Q E p' s G hG h
  | load a _ k ih => intro Q E p s G hG h; obtain ⟨o, ho, h⟩ := h; exact ⟨o, ho, ih o Q E p s G hG h⟩
  | update a _ f k ih => intro Q E p s G hG h; exact ⟨h.1, ih () Q E p { s with heap := s.heap.update a f } G hG h.2⟩
  | loadIfAlive a k ih => intro Q E p s G hG h; exact ih _ Q E p s G hG h
  | point _ k ih => intro Q E p s G hG h; exact ih () Q E p s G hG h
  | register _ _ => intro Q E p s G _ h; exact h
  | alloc o k ih => intro Q E p s G hG h; exact ih _ Q E p { s with heap := s.heap.push o } G hG h
  | fresh k ih => intro Q E p s G hG h; exact ih _ Q E p { s with toks := s.toks + 1 } G hG h
  | ask k ih => intro Q E p s G hG h; exact ih _ Q E p s G hG h
  | choose src m k ih => intro Q E p s G hG h; exact ⟨h.1, ih _ Q E p { s with drawn := s.drawn.bump src } G hG h.2⟩
  | os q _ k ih => intro Q E p s G hG h; exact ih _ Q E p { s with os := (Os.step s.os q).1 } G hG h
  | call c hd _ _ k ih =>
    intro Q E p s G hG h
    obtain ⟨r, s', hr, h⟩ := h
    obtain ⟨G1, r1, a1, a2⟩ := returns_sw hr hG
    exact ⟨r, _, r1, Sem.wp_mono M Γ _ (fun _ _ _ ⟨s0, w, q⟩ => ⟨s0, w.pre a2, q⟩) (fun _ _ _ ⟨s0, w, q⟩ => ⟨s0, w.pre a2, q⟩) p _ (ih r Q E p s' G1 a1 h)⟩
  | handled own k ih => intro Q E p s G hG h; exact ih _ Q E p s G hG h
  | genState g k ih =>
    intro Q E p s G hG h
    obtain ⟨st, hs, h⟩ := h
    obtain ⟨y, hy, rl⟩ := hG.get hs
    have es : st.seen = y.seen := by
      rcases rl with ⟨rfl, _⟩ | ⟨_, z, _⟩
      · rfl
      · exact z
    refine ⟨y, hy, ?_⟩
    rw [← es]
    exact ih _ Q E p s G hG h
  | newGen c k ih =>
    intro Q E p s G hG h
    have k1 : Kp s.gens G (s.gens.push (.fresh c)) (G.push (.fresh c)) := .pushed hG
    have e := ih _ Q E p { s with gens := s.gens.push (.fresh c) } (G.push (.fresh c)) (hG.push (rl_self ng_fresh)) h
    have e2 : wp M Γ (k s.gens.size) (fun a p' s' => ∃ s0, SW s.gens G s0 s' ∧ Q a p' s0) (fun x p' s' => ∃ s0, SW s.gens G s0 s' ∧ E x p' s0) p { s with gens := G.push (.fresh c) } :=
      Sem.wp_mono M Γ _ (fun _ _ _ ⟨s0, w, q⟩ => ⟨s0, w.pre k1, q⟩) (fun _ _ _ ⟨s0, w, q⟩ => ⟨s0, w.pre k1, q⟩) p _ e
    show wp M Γ (k ({ s with gens := G } : Shared).gens.size) _ _ p _
    rw [show ({ s with gens := G } : Shared).gens.size = s.gens.size from hG.sz]
    exact e2
  | resume g r _ k ih =>
    intro Q E p s G hG h
    obtain ⟨res, s', hw, h⟩ := h
    obtain ⟨G1, r1, a1, a2⟩ := wakes_sw hw hG
    exact ⟨res, _, r1, Sem.wp_mono M Γ _ (fun _ _ _ ⟨s0, w, q⟩ => ⟨s0, w.pre a2, q⟩) (fun _ _ _ ⟨s0, w, q⟩ => ⟨s0, w.pre a2, q⟩) p _ (ih res Q E p s' G1 a1 h)⟩
  | yield _ _ _ _ => intro Q E p s G _ h; exact h
  | stack k ih => intro Q E p s G hG h; exact ih _ Q E p s G hG h
  | fork _ _ => intro Q E p s G _ h; exact h
  | thread k ih => intro Q E p s G hG h; exact ih _ Q E p s G hG h
  | await _ _ _ _ _ => intro Q E p s G _ h; exact h
/-- the sleepers cannot be woken -/
def lull : GenState → GenState
  | .suspended _ l c p fs cl => .suspended (fun _ => .unsupported "") l c p fs cl
  | x => x
theorem rl_lull (x : GenState) : Rl (lull x) x := by
  cases x with
  | suspended k l c p fs cl => exact .inr ⟨⟨_, _, _, _, _, _, rfl⟩, rfl, rfl⟩
  | fresh c => exact rl_self ng_fresh
  | running => exact rl_self ng_run
  | finished => exact rl_self ng_fin
def lulled (s : Shared) : Shared := { s with gens := s.gens.map lull }
theorem gr_lull (s : Shared) : GR (lulled s).gens s.gens := by
  refine ⟨by show s.gens.size = (s.gens.map lull).size; rw [Array.size_map], fun i x y e1 e2 => ?_⟩
  have e1 : (s.gens.map lull)[i]? = some x := e1
  rw [Array.getElem?_map, e2] at e1
  cases e1
  exact rl_lull y
theorem bare_lull (x : GenState) : (lull x).bare = x.bare := by cases x <;> rfl
theorem allBare_lull {s : Shared} (h : PyProof.Rows.AllBare s.gens) : PyProof.Rows.AllBare (lulled s).gens := fun y hy => by
  obtain ⟨x, hx, rfl⟩ := Array.mem_map.mp (show y ∈ s.gens.map lull from hy)
  rw [bare_lull]
  exact h x hx
/-- behind the run: the sleepers of before sleep on -/
structure Back (s s0 s' : Shared) : Prop where
  eq : ∃ G, s0 = { s' with gens := G }
  bare : PyProof.Rows.AllBare s0.gens → PyProof.Rows.AllBare s'.gens
  sleep : ∀ (i : Nat) k l c p fs cl, s.gens[i]? = some (.suspended k l c p fs cl) → s'.gens[i]? = s.gens[i]?
theorem Back.of {s s0 s' : Shared} (h : SW (lulled s).gens s.gens s0 s') : Back s s0 s' := by
  obtain ⟨G', rfl, r, k⟩ := h
  refine ⟨⟨s0.gens, rfl⟩, fun hb y hy => ?_, fun i kk l c p fs cl e => ?_⟩
  · obtain ⟨i, hi, rfl⟩ := Array.mem_iff_getElem.mp (show y ∈ G' from hy)
    have hi2 : i < s0.gens.size := by rw [← r.sz]; exact hi
    have rl := r.rl i s0.gens[i] G'[i] (Array.getElem?_eq_getElem hi2) (Array.getElem?_eq_getElem hi)
    have hb2 := hb _ (Array.getElem_mem hi2)
    rcases rl with ⟨z, _⟩ | ⟨_, _, z⟩
    · show (G'[i]).bare = true
      rw [← z]; exact hb2
    · show (G'[i]).bare = true
      rw [← z]; exact hb2
  · have e1 : (lulled s).gens[i]? = some (lull (.suspended kk l c p fs cl)) := by
      show (s.gens.map lull)[i]? = _
      rw [Array.getElem?_map, e]
      rfl
    exact (k.kp i _ e1 ⟨_, _, _, _, _, _, rfl⟩).2
/-- THE RULE -/
theorem wpAny_sw {α : Type} {M : Model} {A : Around} {t : Sem α} {Q : α → Shared → Prop} {E : Value → Shared → Prop} {s : Shared} (h : wpAny M A t Q E (lulled s)) :
    wpAny M A t (fun a s' => ∃ s0, Back s s0 s' ∧ Q a s0) (fun e s' => ∃ s0, Back s s0 s' ∧ E e s0) s := fun Γ p hΓ =>
  Sem.wp_mono M Γ t (fun _ _ _ ⟨s0, w, q⟩ => ⟨s0, .of w, q⟩) (fun _ _ _ ⟨s0, w, q⟩ => ⟨s0, .of w, q⟩) p s (wp_sw M Γ t _ _ p (lulled s) s.gens (gr_lull s) (h Γ p hΓ))
end Sw

/-! Gl: loops over a generator of the program's own that hands out what a zip gives. -/
namespace Gl
open PySem PySem.Spec PyProof.Rows L2 GenW
/-! ### a run up to its next stop, whatever is wanted there -/
def Sg (M : Model) (A : Around) (Φ : End → Shared → Prop) (c : Code) (t : Sem PySem.Fin) (fs : List Frame) (s : Shared) : Prop :=
  ∀ Γ p, Γ.code = c → Γ.Woken A → ∃ e s', Runs M Γ p t fs s e s' ∧ Φ e s'
section
variable {M : Model} {A : Around} {Φ : End → Shared → Prop} {c : Code} {fs : List Frame} {s : Shared}
theorem sg_wrap {α : Type} {m : Sem α} {K : α → Sem PySem.Fin} {J : Value → Sem PySem.Fin} {gd lv} (h : wpAny M (A.over c fs) m (fun a s' => Sg M A Φ c (K a) fs s') (fun x s' => Sg M A Φ c (J x) fs s') s) : Sg M A Φ c (m.wrap K J gd lv) fs s := by
  rintro Γ p rfl hΓ
  refine runs_wrap_of_wp K J gd lv m (h (Γ.over fs) p (hΓ.over fs)) ?_ ?_
  · intro a p' s' h'
    exact h' Γ p' rfl hΓ
  · intro x p' s' h'
    exact h' Γ p' rfl hΓ
theorem sg_bind {α : Type} {m : Sem α} {K : α → Sem PySem.Fin} (h : wpAny M (A.over c fs) m (fun a s' => Sg M A Φ c (K a) fs s') (fun x s' => Sg M A Φ c (.raise x) fs s') s) : Sg M A Φ c (m >>= K) fs s := by
  rw [Sem.bind_eq_wrap']
  exact sg_wrap h
theorem sg_at {p' : Pos} {k : Unit → Sem PySem.Fin} (h : Sg M A Φ c (k ()) fs s) : Sg M A Φ c (.at p' k) fs s :=
  sg_wrap (m := standAt p') (K := k) (J := .raise) (gd := id) (lv := id) (wpAny_standAt h)
theorem sg_point {l : List Value} {k : Unit → Sem PySem.Fin} (h : Sg M A Φ c (k ()) fs s) : Sg M A Φ c (.point l k) fs s :=
  sg_wrap (m := point) (K := k) (J := .raise) (gd := id) (lv := fun _ => l) (wpAny_point h)
theorem sg_call {c' : Code} {h g l} {k : Result → Sem PySem.Fin} (hc : ∀ p, Sg M A Φ c' (M.den c') (.ret k h g l c p [] :: fs) s) : Sg M A Φ c (.call c' h g l k) fs s := by
  rintro Γ p rfl hΓ
  obtain ⟨e, s', hr, he⟩ := hc p (Γ.goto c') p rfl (hΓ.goto c')
  exact ⟨e, s', runs_call_seg hr, he⟩
theorem sg_leaf {k h g l c₁ p₁ kp} (r : Result) (hk : Sg M A Φ c₁ (k r) fs s) : Sg M A Φ c (leafOf r) (.ret k h g l c₁ p₁ kp :: fs) s := by
  rintro Γ p rfl hΓ
  obtain ⟨e, s', hr, he⟩ := hk (Γ.goto c₁) p₁ rfl (hΓ.goto c₁)
  exact ⟨e, s', Runs.pop r hr, he⟩
theorem sg_again {c' : Code} (hq : c'.quiet = true) (hc : Sg M A Φ c' (M.den c') fs s) : Sg M A Φ c (.pure (.again c')) fs s := by
  rintro Γ p rfl hΓ
  obtain ⟨e, s', hr, he⟩ := hc (Γ.goto c') p rfl (hΓ.goto c')
  exact ⟨e, s', Runs.head (c₁ := c') (fun _ _ x => .again hq x) hr, he⟩
theorem sg_end (r : Result) (h : Φ (.ret r) s) : Sg M A Φ c (leafOf r) [] s := by
  rintro Γ p rfl _
  exact ⟨.ret r, s, Runs.leaf r, h⟩
theorem sg_yield {v g l} {k : Resume → Sem PySem.Fin} (hfs : splitAtGen fs = none) (h : ∀ p, Φ (.susp v g l k c p fs) s) : Sg M A Φ c (.yield v g l k) fs s := by
  rintro Γ p rfl _
  exact ⟨_, s, Runs.yield' fs hfs, h p⟩
end
/-! ### a heap up to L -/
def cut (h : Heap) (L : Nat) : Heap := ⟨h.objs.extract 0 L, h.life⟩
theorem cut_size {h : Heap} {L : Nat} (hl : L ≤ h.objs.size) : (cut h L).objs.size = L := by
  show (h.objs.extract 0 L).size = L
  rw [Array.size_extract]
  omega
theorem cut_lt {h : Heap} {L b : Nat} (hb : b < L) : (cut h L).get? b = h.get? b := by
  have e : (h.objs.extract 0 L)[b]? = h.objs[b]? := by
    rw [Array.getElem?_extract]
    by_cases hs : b < h.objs.size
    · rw [if_pos (by omega)]
      simp
    · rw [if_neg (by omega)]
      simp [hs]
  show (match (h.objs.extract 0 L)[b]? with | some ⟨_, _, .freed, _⟩ => none | o => o) = _
  rw [e]
  rfl
theorem cut_some {h : Heap} {L b : Nat} {o : Obj} (hl : L ≤ h.objs.size) (e : (cut h L).get? b = some o) : b < L ∧ h.get? b = some o := by
  have hb : b < L := by
    have := Heap.lt_size e
    rwa [cut_size hl] at this
  rw [cut_lt hb] at e
  exact ⟨hb, e⟩
theorem cut_funs {h base : Heap} {L : Nat} : ∀ {l : List Env}, h.FunFrames base l → (∀ b ∈ frs l, b < L) → (cut h L).FunFrames base l
  | [], _, _ => trivial
  | env :: l, ⟨hk, ⟨a, o, hf, hn, ho, hd⟩, hr⟩, hb => by
    have e : frs (env :: l) = a :: frs l := by
      show List.filterMap _ _ = _
      rw [List.filterMap_cons, hf]
      rfl
    rw [e] at hb
    exact ⟨hk, ⟨a, o, hf, hn, by rw [cut_lt (hb a List.mem_cons_self)]; exact ho, hd⟩, cut_funs hr fun b hm => hb b (List.mem_cons_of_mem _ hm)⟩
/-! ### all that stands, as it stands -/
/-- an object that is a list of these -/
def IsL (o : Obj) (xs : List V) : Prop := xs.length ≤ sizeLine ∧ ∃ (its : List Value) (n : Nat), Vals xs its ∧ o = { cls := .type "list", data := .seq its.toArray n }
def Fz (h base : Heap) (fs pr : List Addr) (ls : Addr → Option (List V)) : Hp := fun b =>
  if b ∈ pr then none else if b ∈ fs then none else if (base.get? b).isSome then none else
    match h.get? b with
    | none => none
    | some o => match ls b with
      | some xs => some (.frz o (.lst xs))
      | none => some (.frz o (.own 0))
section
variable {h base : Heap} {fs pr : List Addr} {ls : Addr → Option (List V)} {P : Program} {w : World}
theorem fz_pr {b : Addr} (hb : b ∈ pr) : Fz h base fs pr ls b = none := if_pos hb
theorem fz_fs {b : Addr} (hb : b ∈ fs) : Fz h base fs pr ls b = none := by
  unfold Fz
  by_cases hp : b ∈ pr
  · rw [if_pos hp]
  · rw [if_neg hp, if_pos hb]
theorem fz_base {b : Addr} {o : Obj} (hb : base.get? b = some o) : Fz h base fs pr ls b = none := by
  unfold Fz
  by_cases hp : b ∈ pr
  · rw [if_pos hp]
  by_cases hf : b ∈ fs
  · rw [if_neg hp, if_pos hf]
  · rw [if_neg hp, if_neg hf, if_pos (by rw [hb]; rfl)]
theorem fz_new {b : Addr} (hb : h.get? b = none) : Fz h base fs pr ls b = none := by
  unfold Fz
  by_cases hp : b ∈ pr
  · rw [if_pos hp]
  by_cases hf : b ∈ fs
  · rw [if_neg hp, if_pos hf]
  by_cases hz : (base.get? b).isSome = true
  · rw [if_neg hp, if_neg hf, if_pos hz]
  · rw [if_neg hp, if_neg hf, if_neg hz, hb]
/-- whatever else stands is locked -/
theorem fz_get {b : Addr} {o : Obj} (hb : h.get? b = some o) (h1 : b ∉ pr) (h2 : b ∉ fs) (h3 : base.get? b = none) : ∃ u, Fz h base fs pr ls b = some (.frz o u) := by
  unfold Fz
  rw [if_neg h1, if_neg h2, if_neg (by rw [h3]; exact Bool.false_ne_true), hb]
  cases ls b with
  | none => exact ⟨_, rfl⟩
  | some xs => exact ⟨_, rfl⟩
theorem fz_lst {b : Addr} {o : Obj} {xs : List V} (hb : h.get? b = some o) (h1 : b ∉ pr) (h2 : b ∉ fs) (h3 : base.get? b = none) (hl : ls b = some xs) : Fz h base fs pr ls b = some (.frz o (.lst xs)) := by
  unfold Fz
  rw [if_neg h1, if_neg h2, if_neg (by rw [h3]; exact Bool.false_ne_true), hb]
  simp only [hl]
theorem fz_inv {b : Addr} {u : HO} (e : Fz h base fs pr ls b = some u) : ∃ o, h.get? b = some o ∧ b ∉ pr ∧ b ∉ fs ∧ base.get? b = none ∧ ((∃ xs, ls b = some xs ∧ u = .frz o (.lst xs)) ∨ u = .frz o (.own 0)) := by
  unfold Fz at e
  by_cases hp : b ∈ pr
  · rw [if_pos hp] at e; cases e
  by_cases hf : b ∈ fs
  · rw [if_neg hp, if_pos hf] at e; cases e
  by_cases hz : (base.get? b).isSome = true
  · rw [if_neg hp, if_neg hf, if_pos hz] at e; cases e
  rw [if_neg hp, if_neg hf, if_neg hz] at e
  have hb : base.get? b = none := by
    cases q : base.get? b with
    | none => rfl
    | some o => rw [q] at hz; exact absurd rfl hz
  cases q : h.get? b with
  | none => rw [q] at e; cases e
  | some o =>
    rw [q] at e
    cases q2 : ls b with
    | none =>
      simp only [q2] at e
      cases e
      exact ⟨o, rfl, hp, hf, hb, .inr rfl⟩
    | some xs =>
      simp only [q2] at e
      cases e
      exact ⟨o, rfl, hp, hf, hb, .inl ⟨xs, rfl, rfl⟩⟩
theorem fz_hok (hl : ∀ b xs, ls b = some xs → ∃ o, h.get? b = some o ∧ IsL o xs) : HOk P w (Fz h base fs pr ls) h := fun b u e => by
  obtain ⟨o, ho, _, _, _, hu⟩ := fz_inv e
  rcases hu with ⟨xs, hx, rfl⟩ | rfl
  · obtain ⟨o', ho', z, its, n, r, eo⟩ := hl b xs hx
    rw [ho] at ho'
    cases ho'
    exact ⟨ho, z, its, n, r, by rw [ho, eo]⟩
  · exact ⟨ho, o, ho⟩
end
/-! ### the generator's own context -/
def gX (P : Program) (w : World) (K : PySem.W.Frag) (mg : Str → Option Value) (base : Heap) (N : List Str) (A : Around) (env : Env) (outer : List Env) (s0 : Shared) (H0 : Hp) : Cx where
  prog := P
  w := w
  K := K
  mg := mg
  base := base
  A := A
  N := N
  s_0 := s0
  H_0 := H0
  env := env
  outer := outer
  stack := env :: outer
  ex := []
  calm := true
  fn := fun _ => true
  pn := []
  xe := fun _ _ => False
/-- a generator def's frame, without cells -/
structure GEnv (env : Env) : Prop where
  kind : env.scope.kind = .function
  glob : env.globals = mainGlobals
  blt : env.builtins = builtinsNs
  fr : env.frame = some env.locals
  cells : env.cells = []
  nc : ∀ x, env.kindOf x ≠ some .cell ∧ env.kindOf x ≠ some .free
  co : env.scope.isCoroutine = false
section
variable {P : Program} {w : World} {K : PySem.W.Frag} {mg : Str → Option Value} {base : Heap} {N : List Str} {A : Around} {env : Env} {outer : List Env} {s : Shared} {H : Hp} {pr : List Addr} {ls : Addr → Option (List V)} {σ : L2.St}
/-- where a turn of the generator begins: all else is locked -/
abbrev Hz (env : Env) (base : Heap) (outer : List Env) (s : Shared) (pr : List Addr) (ls : Addr → Option (List V)) : Hp := Fz s.heap base (frs outer) (env.locals :: pr) ls
abbrev Xz (P : Program) (w : World) (K : PySem.W.Frag) (mg : Str → Option Value) (base : Heap) (N : List Str) (A : Around) (env : Env) (outer : List Env) (s : Shared) (pr : List Addr) (ls : Addr → Option (List V)) : Cx :=
  gX P w K mg base N A env outer { s with heap := cut s.heap env.locals } (Hz env base outer s pr ls)
theorem inv_fz (G : GEnv env) (e0 : Env0 P w K mg base A outer s H) (hfr : ∀ b ∈ frs outer, b < env.locals) (hbl : base.objs.size ≤ env.locals) (hd : A.handled = none) {A' : Around} (hA : A'.frames = some (env :: outer)) (hd' : A'.handled = none)
    (hls : ∀ b xs, ls b = some xs → ∃ o, s.heap.get? b = some o ∧ IsL o xs) (hlen : σ.length = N.length)
    (hns : ∃ m, s.heap.Ns env.locals m ∧ ∀ (i : Nat) (x : Str) (v : V), N[i]? = some x → σ[i]? = some (some v) → Vis env.scope x → ∃ u, RelV v u ∧ env.kindOf x = some .local ∧ m x = some u) :
    Inv (Xz P w K mg base N A' env outer s pr ls) [] σ (Hz env base outer s pr ls) s := by
  obtain ⟨m, hm, hv⟩ := hns
  have hL : env.locals < s.heap.objs.size := hm.lt
  have hL' : env.locals ≤ s.heap.objs.size := Nat.le_of_lt hL
  have ncl : ∀ y c, env.cells.lookup y ≠ some c := fun y c z => by rw [G.cells] at z; cases z
  refine ⟨⟨e0.mod, G.kind, G.glob, G.blt, ?_, fun x y c z => (ncl x c z).elim, fun x z => ?_, fun y c _ z => (ncl y c z).elim, fun _ => hd', hA, .inr ⟨rfl, G.fr⟩, fun b z => ?_, fun b o e => ?_, ?_, fun b _ _ z => ?_, fun b z => ?_, cut_funs e0.funs hfr, fun b hb => fz_fs hb⟩,
    rfl, e0.bare, ⟨fun b o e n _ _ => (cut_some hL' e).2, fun b o e _ _ _ => ⟨o.slots, (cut_some hL' e).2⟩, fun b o _ n _ => n, fun b o e _ => ⟨o, (cut_some hL' e).2⟩, fun b xs e => e, fun b o u e => e, fun b ps e => ⟨#[], by rw [Array.append_empty]; exact e⟩⟩,
    ⟨m, hm, fun i x v h1 h2 h3 => ?_⟩, fun y c z => (ncl y c z).elim, fz_pr List.mem_cons_self, fun y c z => (ncl y c z).elim, fun p hp => ?_, fz_hok hls, hlen⟩
  · show (cut s.heap env.locals).objs.size ≤ env.locals
    rw [cut_size hL']
    exact Nat.le_refl _
  · rcases z with z | z
    · exact absurd z (G.nc x).1
    · exact absurd z (G.nc x).2
  · exact absurd (show b ∈ ([] : List Addr) from z) (by simp)
  · obtain ⟨q1, _⟩ := e0.bs b o e
    exact ⟨by show (cut s.heap env.locals).get? b = _; rw [cut_lt (Nat.lt_of_lt_of_le (Heap.lt_size e) hbl)]; exact q1, fz_base e⟩
  · show base.objs.size ≤ (cut s.heap env.locals).objs.size
    rw [cut_size hL']
    exact hbl
  · exact absurd (show b ∈ ([] : List Addr) from z) (by simp)
  · exact absurd (show b ∈ ([] : List Addr) from z) (by simp)
  · obtain ⟨u, q1, q2, q3⟩ := hv i x v h1 h2 h3
    exact ⟨u, q1, .inl ⟨q2, q3⟩⟩
  · exact absurd (show p ∈ ([] : List (Addr × Obj)) from hp) (by simp)
/-- what a stretch of the generator's run leaves of the heap of before -/
structure Eff (base : Heap) (outer : List Env) (pr : List Addr) (s s' : Shared) : Prop where
  os : s'.os = s.os
  bare : AllBare s'.gens
  keep : ∀ b o, s.heap.get? b = some o → b ∉ pr → b ∉ frs outer → s'.heap.get? b = some o
  slot : ∀ b o, s.heap.get? b = some o → b ∈ frs outer → ∃ sl, s'.heap.get? b = some { o with slots := sl }
theorem eff_of {A' : Around} {pins : List (Addr × Obj)} {H1 : Hp} {s1 : Shared} (e0 : Env0 P w K mg base A outer s H) (hfr : ∀ b ∈ frs outer, b < env.locals) (hbl : base.objs.size ≤ env.locals)
    (I : Inv (Xz P w K mg base N A' env outer s pr ls) pins σ H1 s1) : Eff base outer (env.locals :: pr) s s1 := by
  refine ⟨I.os, I.bare, fun b o e n nf => ?_, fun b o e hb => ?_⟩
  · cases q : base.get? b with
    | some o' =>
      have hb : b < env.locals := Nat.lt_of_lt_of_le (Heap.lt_size q) hbl
      exact I.base.keep b o (by show (cut s.heap env.locals).get? b = _; rw [cut_lt hb]; exact e) (fz_base q) nf (fun z => by cases z)
    | none =>
      obtain ⟨u, hu⟩ := fz_get (base := base) (fs := frs outer) (pr := env.locals :: pr) (ls := ls) e n nf q
      exact (I.hok b _ (I.base.frzs b o u hu)).1
  · have hl := hfr b hb
    exact I.base.slot b o (by show (cut s.heap env.locals).get? b = _; rw [cut_lt hl]; exact e) (fz_fs hb) hb (fun z => by cases z)
end
end Gl
namespace Gl
open PySem PySem.Spec PyProof.Rows L2 GenW
section
variable {M : Model} {A : Around} {Φ : End → Shared → Prop} {c : Code} {fs : List Frame} {s : Shared}
theorem sg_bindw {α β : Type} {m : Sem α} {f : α → Sem β} {K : β → Sem PySem.Fin} {J : Value → Sem PySem.Fin} {gd : Bool → Bool} {lv : List Value → List Value}
    (h : wpAny M (A.over c fs) m (fun a s' => Sg M A Φ c ((f a).wrap K J gd lv) fs s') (fun x s' => Sg M A Φ c (J x) fs s') s) : Sg M A Φ c ((m >>= f).wrap K J gd lv) fs s := by
  rw [Sem.bind_eq_wrap' m f, Sem.wrap_wrap]
  exact sg_wrap h
/-- what a generator does when it is woken -/
def Wk (M : Model) (A : Around) (Φ : End → Shared → Prop) (gs : GenState) (s : Shared) : Prop :=
  match gs with
  | .fresh c => Sg M A Φ c (M.den c) [] s
  | .suspended k _ c _ fs _ => Sg M A Φ c (k (.send .none)) fs s
  | _ => False
theorem wpAny_wake {α : Type} {g : Nat} {gs : GenState} {E : Value → Shared → Prop} {l : List Value} {k : GenResult → Sem α} {Q : α → Shared → Prop} (hg : s.gens[g]? = some gs) (hgo : Wk M A Φ gs (s.setGen g .running))
    (hΦ : ∀ e s1, Φ e s1 → e.quiet = true ∧ wpAny M A (k e.result) Q E (s1.setGen g e.genState)) : wpAny M A (.resume g (.send .none) l k) Q E s := by
  intro Γ p hΓ
  rw [Sem.wp_resume]
  cases gs with
  | fresh c =>
    obtain ⟨e, s1, hr, he⟩ := hgo (Γ.wake c p) p rfl (hΓ.wake c p)
    obtain ⟨q1, q2⟩ := hΦ e s1 he
    refine ⟨_, _, ?_, q2 Γ p hΓ⟩
    unfold Wakes
    rw [hg]
    exact ⟨e, s1, hr, q1, rfl, rfl⟩
  | suspended k0 l0 c0 p0 fs0 cl =>
    obtain ⟨e, s1, hr, he⟩ := hgo (Γ.wake c0 p) p0 rfl (hΓ.wake c0 p)
    obtain ⟨q1, q2⟩ := hΦ e s1 he
    refine ⟨_, _, ?_, q2 Γ p hΓ⟩
    unfold Wakes
    rw [hg]
    exact ⟨e, s1, hr, q1, rfl, rfl⟩
  | running => exact hgo.elim
  | finished => exact hgo.elim
end
section
variable {P : Program} {w : World} {A : Around} {E : Value → Shared → Prop} {s : Shared}
/-- the next item of a generator: what it hands out, or its end without a value -/
theorem next_gl {a : Addr} {g : Nat} {gs : GenState} {Φ : End → Shared → Prop} {Q : Option Value → Shared → Prop} (hh : A.handled = none) (hl : s.heap.NoLimit) (hroom : A.depth < recursionLimit) (hg : s.heap.IsGen a g) (hgs : s.gens[g]? = some gs)
    (hgo : Wk (model P w) A.in1 Φ gs (s.setGen g .running))
    (hΦ : ∀ e s1, Φ e s1 → (∃ v l k c p fs, e = .susp v false l k c p fs ∧ fs.any Frame.guarded = false ∧ Q (some v) (s1.setGen g e.genState)) ∨
      (e = .ret (.ok (.ret .none)) ∧ ∀ h', (∀ b o, s1.heap.get? b = some o → h'.get? b = some o) → Q none { s1.setGen g .finished with heap := h' })) : wpAny (model P w) A (pyNext (.ref a)) Q E s := by
  unfold pyNext
  apply wpAny_bind
  apply wpAny_attempt
  refine wpAny_callSpecial?_slot (name := Str.ofString "__next__") hg.typeIs slot_gen_next ?_
  refine wpAny_call_entry slot_gen_next hg.typeIs entry_gen_next ?_ (args_gen_next _)
  show wpAny _ A.in1 (Builtin.Generator.genWake (.ref a) (.send .none)) _ _ s
  unfold Builtin.Generator.genWake
  refine wpAny_bind (wpAny_holding (wpAny_genNumber hg ?_))
  refine wpAny_bind (wpAny_genState hgs ?_)
  have fin : ∀ e s1, Φ e s1 → e.quiet = true := fun e s1 h => by
    rcases hΦ e s1 h with ⟨v, l, k, c, p, fs, rfl, hfs, _⟩ | ⟨rfl, _⟩
    · show (!(false || fs.any Frame.guarded)) = true
      rw [hfs]
      rfl
    · rfl
  cases gs with
  | running => exact hgo.elim
  | finished => exact hgo.elim
  | fresh c0 =>
    apply wpAny_bind
    refine wpAny_roomToWake hl hroom ?_
    show wpAny (model P w) A.in1 (.resume g (.send .none) [] _) _ _ s
    refine wpAny_wake hgs hgo fun e s1 he => ⟨fin e s1 he, ?_⟩
    rcases hΦ e s1 he with ⟨v, l, k, c, p, fs, rfl, _, q⟩ | ⟨rfl, q⟩
    · exact wpAny_pure ⟨v, rfl, wpAny_pure q⟩
    · show wpAny (model P w) A.in1 (newExc (.type "StopIteration") [] >>= _) _ _ _
      apply wpAny_bind
      simp only [newExc, newTuple]
      apply wpAny_bind
      refine wpAny_newObj_type ?_ (by size_fits)
      refine wpAny_bind (m := firstArgMember _ _) (wpAny_of_eq (a := Value.none) ?_ ?_)
      · first
          | rfl
          | (simp only [firstArgMember]; rfl)
      refine wpAny_newObj_type ?_ (by size_fits)
      simp only [raiseNew]
      refine wpAny_bind (wpAny_bind (wpAny_handled ?_))
      rw [show A.in1.handled = none from hh]
      refine wpAny_throw (wpAny_bind ?_)
      refine wpAny_isInstance (T := "StopIteration") (b := true) ⟨_, Heap.get?_push_size _ rfl, rfl⟩ isSubtype_stop ?_
      exact wpAny_pure (q _ fun b o hb => Heap.get?_push_of_some _ (Heap.get?_push_of_some _ hb))
  | suspended k0 l0 c0 p0 fs0 cl =>
    apply wpAny_bind
    refine wpAny_roomToWake hl hroom ?_
    show wpAny (model P w) A.in1 (.resume g (.send .none) [] _) _ _ s
    refine wpAny_wake hgs hgo fun e s1 he => ⟨fin e s1 he, ?_⟩
    rcases hΦ e s1 he with ⟨v, l, k, c, p, fs, rfl, _, q⟩ | ⟨rfl, q⟩
    · exact wpAny_pure ⟨v, rfl, wpAny_pure q⟩
    · show wpAny (model P w) A.in1 (newExc (.type "StopIteration") [] >>= _) _ _ _
      apply wpAny_bind
      simp only [newExc, newTuple]
      apply wpAny_bind
      refine wpAny_newObj_type ?_ (by size_fits)
      refine wpAny_bind (m := firstArgMember _ _) (wpAny_of_eq (a := Value.none) ?_ ?_)
      · first
          | rfl
          | (simp only [firstArgMember]; rfl)
      refine wpAny_newObj_type ?_ (by size_fits)
      simp only [raiseNew]
      refine wpAny_bind (wpAny_bind (wpAny_handled ?_))
      rw [show A.in1.handled = none from hh]
      refine wpAny_throw (wpAny_bind ?_)
      refine wpAny_isInstance (T := "StopIteration") (b := true) ⟨_, Heap.get?_push_size _ rfl, rfl⟩ isSubtype_stop ?_
      exact wpAny_pure (q _ fun b o hb => Heap.get?_push_of_some _ (Heap.get?_push_of_some _ hb))
end
end Gl

namespace Gl
open PySem PySem.Spec PyProof.Rows L2 GenW
section
variable {P : Program} {w : World} {K : PySem.W.Frag} {mg : Str → Option Value} {base : Heap} {N : List Str} {A A' : Around} {env : Env} {outer : List Env} {s : Shared} {pr : List Addr} {ls : Addr → Option (List V)} {σ : L2.St}
variable {tg e : Expr} {yp ypos : Pos} {it : Addr} {fp : List Addr} {tn : Nat → Heap → Prop} {J : It} {g : TG} {te : TE} {i : Nat} {Φ : End → Shared → Prop} {fs : List Frame}
abbrev gBody (e : Expr) (yp ypos : Pos) : List Stmt := [.Expr (.Yield (some e) yp) ypos]
abbrev gLoop (tg e : Expr) (yp ypos : Pos) (it : Addr) (env : Env) : Code := .forLoop tg (.ref it) (gBody e yp ypos) [] env
/-- woken, the loop goes on -/
def Again (P : Program) (w : World) (A : Around) (c : Code) (fs : List Frame) (k : Resume → Sem PySem.Fin) : Prop :=
  ∀ Φ s, Sg (model P w) A Φ c ((model P w).den c) fs s → Sg (model P w) A Φ c (k (.send .none)) fs s
/-- the loop's end is the generator's end -/
def Ends (P : Program) (w : World) (A : Around) (fs : List Frame) : Prop :=
  ∀ Φ c s, Φ (.ret (.ok (.ret .none))) s → Sg (model P w) A Φ c (.pure (.done .next)) fs s
theorem sg_item (hA : A.over (gLoop tg e yp ypos it env) fs = A') (hsp : splitAtGen fs = none) (hgu : fs.any Frame.guarded = false) (hco : env.scope.isCoroutine = false) (hi : interactive env = false)
    (hg : ∀ s0 H0, PG (gX P w K mg base N A' env outer s0 H0) tg g) (he : ∀ s0 H0, PE (gX P w K mg base N A' env outer s0 H0) e te) (T : Turn P w K tg J fp it tn)
    {s0 : Shared} {H0 H : Hp} (I : Inv (gX P w K mg base N A' env outer s0 H0) [] σ H s) (hf : ∀ b ∈ fp, FpOk (gX P w K mg base N A' env outer s0 H0) [] H b) (st : tn i s.heap) (go : J.go i H) {Post : V → Hp → Prop}
    (step : ∀ x H', J.yld i H x H' → g x σ H' fun σ2 H2 => te σ2 H2 fun y H3 => Post y H3)
    (hΦ : ∀ v y σ1 pins H3 s1, Inv (gX P w K mg base N A' env outer s0 H0) pins σ1 H3 s1 → tn (i + 1) s1.heap → (∀ b ∈ fp, H3 b = none) → RelV y v → Post y H3 → ∀ k l p, Again P w A (gLoop tg e yp ypos it env) fs k → Φ (.susp v false l k (gLoop tg e yp ypos it env) p fs) s1) :
    Sg (model P w) A Φ (gLoop tg e yp ypos it env) ((model P w).den (gLoop tg e yp ypos it env)) fs s := by
  show Sg _ A Φ _ ((forTurn tg (.ref it) (gBody e yp ypos) [] env).onRaise _) fs s
  rw [Sem.onRaise_eq_wrap]
  unfold forTurn
  refine sg_bindw (wpAny_standAt ?_)
  refine sg_bindw (wpAny_onRaise ?_)
  rw [hA]
  refine wpAny_mono (T.item _ rfl rfl rfl rfl i [] s σ H (fun _ _ => False) I hf st go) (fun r s1 hr => ?_) fun _ _ z => z.elim
  obtain ⟨u, rfl, hu⟩ := hr
  refine sg_bindw ?_
  rw [hA]
  refine wpAny_mono hu (fun _ s2 h2 => ?_) fun _ _ z => z.elim
  obtain ⟨x, H2, I2, rx, yx, st2, fr2⟩ := h2
  have I2' := I2.pinned (fun b hb => ⟨fr2 b hb, (hf b hb).2⟩) (T.obj _ _ st2)
  refine sg_bindw ?_
  rw [hA]
  refine wpAny_mono ((hg s0 H0).run _ s2 σ H2 x u _ I2' rx (step x H2 yx)) (fun _ s3 h3 => ?_) fun _ _ z => z.elim
  obtain ⟨σ3, H3, I3, q3⟩ := h3
  rw [Sem.bind_eq_wrap' (execs _ _) _, Sem.wrap_wrap]
  rw [execs_cons_wrap]
  rw [exec_Expr env _ ypos hi rfl]
  show Sg _ A Φ _ (.at ypos fun _ => Sem.wrap _ _ _ _ ((eval e env >>= fun v => standAt yp >>= fun _ => yieldOut env v) >>= fun x => dropValue (.Yield (some e) yp) ypos x)) fs s3
  refine sg_at ?_
  rw [Sem.bind_eq_wrap' (eval e env >>= _) _]
  rw [Sem.wrap_wrap]
  refine sg_bindw ?_
  rw [hA]
  refine wpAny_mono ((he s0 H0).run _ s3 σ3 H3 _ I3 q3) (fun v s4 h4 => ?_) fun _ _ z => z.elim
  obtain ⟨y, H4, I4, ry, q4⟩ := h4
  refine sg_bindw (wpAny_standAt ?_)
  have hy : yieldOut env v = yieldValue v := by
    simp only [yieldOut, hco]
    exact if_neg Bool.false_ne_true
  rw [hy]
  have keepT : tn (i + 1) s4.heap := T.keep _ _ _ st2 fun b hb o q => (I4.pin (b, o) (List.mem_append_right _ (List.mem_append_right _ (mem_pinsAt hb q)))).1
  have frT : ∀ b ∈ fp, H4 b = none := fun b hb => by
    obtain ⟨o, q, _⟩ := T.obj _ _ st2 b hb
    exact (I4.pin (b, o) (List.mem_append_right _ (List.mem_append_right _ (mem_pinsAt hb q)))).2.1
  refine sg_yield hsp fun p => ?_
  exact hΦ v y σ3 _ H4 s4 I4 keepT frT ry q4 _ _ p fun Φ' s' h' => sg_again rfl h'
/-- nothing is left -/
theorem sg_stop (hA : A.over (gLoop tg e yp ypos it env) fs = A') (T : Turn P w K tg J fp it tn)
    {s0 : Shared} {H0 H : Hp} (I : Inv (gX P w K mg base N A' env outer s0 H0) [] σ H s) (hf : ∀ b ∈ fp, FpOk (gX P w K mg base N A' env outer s0 H0) [] H b) (st : tn i s.heap) (stop : J.stop i H) (hE : Ends P w A fs)
    (hΦ : ∀ s1, Inv (gX P w K mg base N A' env outer s0 H0) [] σ H s1 → Φ (.ret (.ok (.ret .none))) s1) :
    Sg (model P w) A Φ (gLoop tg e yp ypos it env) ((model P w).den (gLoop tg e yp ypos it env)) fs s := by
  show Sg _ A Φ _ ((forTurn tg (.ref it) (gBody e yp ypos) [] env).onRaise _) fs s
  rw [Sem.onRaise_eq_wrap]
  unfold forTurn
  refine sg_bindw (wpAny_standAt ?_)
  refine sg_bindw (wpAny_onRaise ?_)
  rw [hA]
  refine wpAny_mono (T.done _ rfl rfl rfl rfl i [] s σ H (fun _ _ => False) I hf st stop) (fun r s1 hr => ?_) fun _ _ z => z.elim
  obtain ⟨rfl, I1⟩ := hr
  refine sg_again (c' := .block [] env) rfl ?_
  show Sg _ A Φ _ (.pure (.done .next)) fs s1
  exact hE Φ _ s1 (hΦ s1 I1)
theorem sg_first {iter : Expr} {fpos : Pos} {wi : TI} {s0 : Shared} {H0 H : Hp} {R : It → Hp → Prop} (hs : ∀ x, foldedSetIterable iter env x = pure x)
    (I : Inv (gX P w K mg base N (A.deeper env) env outer s0 H0) [] σ H s) (hi : PI (gX P w K mg base N (A.deeper env) env outer s0 H0) tg iter wi) (hw : wi σ H R)
    (hl : ∀ it fp tn J H1 s1, Inv (gX P w K mg base N (A.deeper env) env outer s0 H0) [] σ H1 s1 → Turn P w K tg J fp it tn → tn 0 s1.heap → (∀ b ∈ fp, FpOk (gX P w K mg base N (A.deeper env) env outer s0 H0) [] H1 b) → R J H1 →
      ∀ fs, splitAtGen fs = none → fs.any Frame.guarded = false → Ends P w A fs → A.over (gLoop tg e yp ypos it env) fs = A.deeper env → Sg (model P w) A Φ (gLoop tg e yp ypos it env) ((model P w).den (gLoop tg e yp ypos it env)) fs s1) :
    Sg (model P w) A Φ (.func [.For tg iter (gBody e yp ypos) [] fpos] env) ((model P w).den (.func [.For tg iter (gBody e yp ypos) [] fpos] env)) [] s := by
  have ov : A.over (.func [.For tg iter (gBody e yp ypos) [] fpos] env) [] = A.deeper env := over_func
  show Sg _ A Φ _ (.point [] fun _ => ((execs [.For tg iter (gBody e yp ypos) [] fpos] env).onRaise (leaving env)) >>= _) [] s
  refine sg_point ?_
  rw [Sem.onRaise_eq_wrap]
  rw [Sem.bind_eq_wrap' (Sem.wrap _ _ _ _ _) _]
  rw [Sem.wrap_wrap]
  rw [execs_cons_wrap]
  rw [arm_exec_For]
  refine sg_bindw (wpAny_standAt ?_)
  refine sg_bindw ?_
  rw [ov]
  refine wpAny_mono (hi.run [] s σ H R I hw) (fun v s1 h1 => ?_) fun _ _ z => z.elim
  refine sg_bindw ?_
  refine wpAny_of_eq (hs v) ?_
  refine sg_bindw (wpAny_standAt ?_)
  refine sg_bindw ?_
  refine wpAny_holding ?_
  rw [ov]
  refine wpAny_mono h1 (fun itv s2 h2 => ?_) fun _ _ z => z.elim
  obtain ⟨it, fp, tn, J, H2, rfl, I2, T, st, hf, q⟩ := h2
  refine sg_call fun p => ?_
  refine hl it fp tn J H2 s2 I2 T st hf q _ rfl rfl ?_ ?_
  · intro Φ' c s' h'
    refine sg_leaf (.ok .next) ?_
    exact sg_end (.ok (.ret .none)) h'
  · rw [← ov]
    exact over_loop rfl rfl
end
end Gl

namespace Gl
open PySem PySem.Spec PyProof.Rows L2 GenW
theorem cells_nil : ∀ {ns : List (Str × NameKind)} {n : Nat}, (∀ y ∈ ns, y.2 ≠ .cell ∧ y.2 ≠ .free) → cellsFrom n ns [] = []
  | [], _, _ => rfl
  | (x, k) :: ns, n, h => by
    have hk : k ≠ .cell ∧ k ≠ .free := h (x, k) List.mem_cons_self
    have ih : cellsFrom n ns [] = [] := cells_nil fun y hy => h y (List.mem_cons_of_mem _ hy)
    cases k with
    | cell => exact absurd rfl hk.1
    | free => exact absurd rfl hk.2
    | _ => exact ih
/-- a generator def of one parameter, its names all local -/
structure GDef (K : PySem.W.Frag) (x qual : Str) (st : Stmt) (f : Addr) (fd : FuncData) (N : List Str) (p0 : Str) : Prop where
  F : Fun K x qual st f fd
  kind : (defScope st).kind = .function
  co : (defScope st).isCoroutine = false
  gen : (defScope st).isGenerator = true
  nd : N.Nodup
  pre : N.take 1 = [p0]
  par : (defScope st).names.lookup p0 = some .local
  loc : ∀ y ∈ (defScope st).names, y.2 ≠ .cell ∧ y.2 ≠ .free
section
variable {x qual : Str} {st : Stmt} {f : Addr} {fd : FuncData} {N : List Str} {p0 : Str} {K : PySem.W.Frag}
theorem lookup_loc {ns : List (Str × NameKind)} (h : ∀ y ∈ ns, y.2 ≠ .cell ∧ y.2 ≠ .free) {y : Str} {k : NameKind} (e : ns.lookup y = some k) : k ≠ .cell ∧ k ≠ .free := h (y, k) (PySem.mem_of_lookup e)
theorem genv (D : GDef K x qual st f fd N p0) (L : Addr) (cd : Value) : GEnv (envOfC qual (defScope st) L f cd) where
  kind := D.kind
  glob := rfl
  blt := rfl
  fr := rfl
  cells := cells_nil D.loc
  nc := fun y => by
    refine ⟨fun z => ?_, fun z => ?_⟩
    · exact (lookup_loc D.loc (show (defScope st).names.lookup y = some .cell from z)).1 rfl
    · exact (lookup_loc D.loc (show (defScope st).names.lookup y = some .free from z)).2 rfl
  co := D.co
/-- what a call of the generator def leaves -/
structure New (qual : Str) (st : Stmt) (f : Addr) (cd : Value) (p0 : Str) (u : Value) (s : Shared) (a : Addr) (g : Nat) (s' : Shared) : Prop where
  gen : s'.heap.IsGen a g
  at_ : s'.gens[g]? = some (.fresh (.func (defBody st) (envOfC qual (defScope st) s.heap.objs.size f cd)))
  le : s.heap.objs.size < a
  os : s'.os = s.os
  bare : AllBare s'.gens
  keep : ∀ b o, s.heap.get? b = some o → s'.heap.get? b = some o
  ns : ∃ m, s'.heap.Ns s.heap.objs.size m ∧ m p0 = some u
theorem made {X : Cx} {k : Nat} {pins : List (Addr × Obj)} {σ : L2.St} {H : Hp} {s : Shared} {u : Value} {E : Value → Shared → Prop} (D : GDef X.K x qual st f fd N p0) (hr : Room k X.A) (I : Inv X pins σ H s) (hb : Binds X.K fd [p0] []) :
    wpAny (model X.prog X.w) X.A (call (.ref f) [u]) (fun r s' => ∃ a g cd, r = .ref a ∧ New qual st f cd p0 u s a g s') E s := by
  obtain ⟨oc, od, kV, doc, pm, an, cdv, ct, osl, rfl, lk, hcd⟩ := D.F.ex
  have KX := I.kIn
  have lim := I.nolimit
  have hkind : ∀ y ∈ [p0].zip [u], (defScope st).names.lookup y.1 = some .local ∨ ((defScope st).names.lookup y.1 = some .cell ∧ ((cellsFrom (s.heap.objs.size + 1) (defScope st).names []).lookup y.1).isSome = true) := fun y hy => by
    rw [List.mem_singleton.mp (show y ∈ [(p0, u)] from hy)]
    exact .inl D.par
  refine wpAny_call ?_
  refine codeAny_call_generator (by have := hr.dp; omega) (KX _ _ lk) rfl D.co D.gen rfl (PySem.W.codeRec_of KX hcd) (hb s [u] KX rfl _ _ _ _ ?_)
  refine wpAny_newFunctionEnv_cells D.kind hkind fun env he s1 q => ?_
  subst he
  refine ⟨lim.keeps q.toInCall.keep, ?_⟩
  obtain ⟨h1, tk, es1, hk1⟩ := q.done
  have gen1 : s1.gens = s.gens := by rw [es1]
  have lt1 : s.heap.objs.size < s1.heap.objs.size := q.toInCall.ns.lt
  refine ⟨s1.heap.objs.size, s1.gens.size, cdv, rfl, ⟨_, _, _, Heap.get?_push_size _ rfl, rfl, rfl, rfl⟩, Array.getElem?_push_size .., lt1, by rw [es1], ?_, fun b o e => Heap.get?_push_of_some _ (q.toInCall.keep b o e), ?_⟩
  · exact AllBare.push (by rw [gen1]; exact I.bare) rfl
  · obtain ⟨o, es, ep, ho, r⟩ := q.toInCall.ns
    refine ⟨_, ⟨o, es, ep, Heap.get?_push_of_some _ ho, r⟩, ?_⟩
    exact bindL_get (List.nodup_cons.mpr ⟨by simp, List.nodup_nil⟩) (show ([p0] : List Str)[0]? = some p0 from rfl) (show ([u] : List Value)[0]? = some u from rfl) D.par
end
end Gl

namespace Gl
open PySem PySem.Spec PyProof.Rows L2 GenW
section
variable {X : Cx} {pins : List (Addr × Obj)} {σ : L2.St} {H : Hp} {s : Shared}
theorem inv_gens {s0 s' : Shared} (I : Inv X pins σ H s0) (e : ∃ G, s0 = { s' with gens := G }) (hb : AllBare s'.gens) : Inv X pins σ H s' := by
  obtain ⟨G, rfl⟩ := e
  exact ⟨I.ok, I.os, hb, I.base, I.loc, I.cell, I.free, I.freeC, I.pin, I.hok, I.len⟩
/-- an address of the generator's own -/
structure Own (X : Cx) (pins : List (Addr × Obj)) (H : Hp) (b : Addr) : Prop where
  un : H b = none
  loc : b ≠ X.env.locals
  fs : b ∉ X.fs
  cell : ∀ x c, X.env.cells.lookup x = some c → c ≠ b
  pin : ∀ p ∈ X.pn ++ pins, p.1 ≠ b
theorem back_any {ch : List Addr} {s4 s5 : Shared} {H' : Hp} (I : Inv X pins σ H s) (Ef : Eff X.base X.stack ch s s4) (k5 : ∀ b o, s4.heap.get? b = some o → s5.heap.get? b = some o) (os5 : s5.os = s4.os) (b5 : AllBare s5.gens)
    (hch : ∀ b ∈ ch, Own X pins H b ∧ X.s_0.heap.objs.size ≤ b) (hH : ∀ b o, s.heap.get? b = some o → H' b = H b) (hsub : ∀ b u, H b = some u → H' b = some u)
    (new : ∀ b u, H' b = some u → H b = none → ObjOk X.prog X.w H' s5.heap b u) : Inv X pins σ H' s5 := by
  have nfr : ∀ b u, H b = some u → b ∉ frs X.stack := fun b u e hm => by
    have := I.stkFree b hm
    rw [e] at this; cases this
  have nch : ∀ b u, H b = some u → b ∉ ch := fun b u e hm => by
    have := (hch b hm).1.un
    rw [e] at this; cases this
  refine I.call' (ch := ch) (os5.trans Ef.os) ⟨fun b o e n nf nx => k5 b o (Ef.keep b o e nx nf), fun b o e n hb _ => ?_, fun b o e n _ => ?_, fun b o e nx => ?_, fun b ys e => hsub b _ e, fun b o u e => hsub b _ e, fun b ps e => ⟨#[], by rw [Array.append_empty]; exact hsub b _ e⟩⟩ (fun b u e => ?_) b5 fun b hb => ?_
  · obtain ⟨sl, q⟩ := Ef.slot b o e hb
    exact ⟨sl, k5 b _ q⟩
  · rw [hH b o e]; exact n
  · by_cases hf : b ∈ frs X.stack
    · obtain ⟨sl, q⟩ := Ef.slot b o e hf
      exact ⟨_, k5 b _ q⟩
    · exact ⟨o, k5 b o (Ef.keep b o e nx hf)⟩
  · cases q : H b with
    | none => exact new b u e q
    | some u' =>
      have e2 := hsub b u' q
      rw [e] at e2
      cases e2
      refine (I.hok b u q).stay (fun c v hc hv => ?_) (fun c hc => hsub c _ hc) fun c ys hc => hsub c _ hc
      have hu : ∃ u2, H c = some u2 := by
        rcases hc with rfl | hc
        · exact ⟨u, q⟩
        · exact ⟨_, hc⟩
      obtain ⟨u2, hu⟩ := hu
      exact k5 c v (Ef.keep c v hv (nch c u2 hu) (nfr c u2 hu))
  · obtain ⟨o1, o2⟩ := hch b hb
    exact ⟨.inr o2, o1.loc, o1.cell, o1.pin⟩
end
/-- the text of a generator def whose loop goes over zip(x, x[1:]) and hands out the pairs -/
structure GT (P : Program) (w : World) (K : PySem.W.Frag) (mg : Str → Option Value) (base : Heap) (x qual : Str) (st : Stmt) (f : Addr) (fd : FuncData) (N : List Str) (p0 : Str) (tg iter e : Expr) (yp ypos fpos : Pos) (g : TG) (te : TE) (wi : TI) : Prop where
  D : GDef K x qual st f fd N p0
  body : defBody st = [.For tg iter (gBody e yp ypos) [] fpos]
  hs : ∀ env v, foldedSetIterable iter env v = pure v
  int : ∀ L cd, interactive (envOfC qual (defScope st) L f cd) = false
  hg : ∀ A' L cd outer s0 H0, PG (gX P w K mg base N A' (envOfC qual (defScope st) L f cd) outer s0 H0) tg g
  he : ∀ A' L cd outer s0 H0, PE (gX P w K mg base N A' (envOfC qual (defScope st) L f cd) outer s0 H0) e te
  hi : ∀ A' L cd outer s0 H0, PI (gX P w K mg base N A' (envOfC qual (defScope st) L f cd) outer s0 H0) tg iter wi
  r1 : ∀ (H : Hp) (lo : Addr) (xs : List V) (R : It → Hp → Prop), SqL K H lo xs → (∀ sl, H sl = none → R (Itz K lo sl) (upd H sl (.lst (xs.drop 1)))) → wi (some (.ref lo) :: List.replicate (N.length - 1) none) H R
  r2 : ∀ (σ : L2.St) (H : Hp) (T : Addr) (a b : V) (R : VK), σ.length = N.length → H T = none → (∀ p, upd H T (.tup [a, b]) p = none → R (.ref p) (upd (upd H T (.tup [a, b])) p (.tup [a, b]))) → g (.ref T) σ (upd H T (.tup [a, b])) fun σ2 H2 => te σ2 H2 R
section
variable {P : Program} {w : World} {K : PySem.W.Frag} {mg : Str → Option Value} {base : Heap} {x qual : Str} {st : Stmt} {f : Addr} {fd : FuncData} {N : List Str} {p0 : Str} {tg iter e : Expr} {yp ypos fpos : Pos} {g : TG} {te : TE} {wi : TI}
/-- the generator asleep, i items handed out -/
structure Slp (P : Program) (w : World) (K : PySem.W.Frag) (base : Heap) (tg e : Expr) (yp ypos : Pos) (A : Around) (env : Env) (outer : List Env) (lo : Addr) (ys : List V) (i : Nat) (gs : GenState) (h : Heap) (fp : List Addr) (sl : Addr) : Prop where
  ex : ∃ (it : Addr) (tn : Nat → Heap → Prop) (fs : List Frame) (k : Resume → Sem PySem.Fin) (l : List Value) (p : Pos), gs = .suspended k l (gLoop tg e yp ypos it env) p fs false ∧ splitAtGen fs = none ∧ fs.any Frame.guarded = false ∧ Ends P w A fs ∧
    A.over (gLoop tg e yp ypos it env) fs = A.deeper env ∧ Again P w A (gLoop tg e yp ypos it env) fs k ∧ Turn P w K tg (Itz K lo sl) fp it tn ∧ tn i h
  fpo : ∀ b ∈ fp, b ≠ env.locals ∧ b ∉ frs outer ∧ env.locals ≤ b
  lst : ∃ o, h.get? sl = some o ∧ IsL o ys
  slfp : sl ∉ fp
  slL : sl ≠ env.locals
  slb : base.get? sl = none
  slfs : sl ∉ frs outer
  ns : ∃ m, h.Ns env.locals m
theorem Slp.keep {A : Around} {env : Env} {outer : List Env} {lo : Addr} {ys : List V} {i : Nat} {gs : GenState} {h h' : Heap} {fp : List Addr} {sl : Addr} (S : Slp P w K base tg e yp ypos A env outer lo ys i gs h fp sl)
    (k : ∀ b ∈ env.locals :: sl :: fp, ∀ o, h.get? b = some o → h'.get? b = some o) : Slp P w K base tg e yp ypos A env outer lo ys i gs h' fp sl := by
  obtain ⟨it, tn, fs, kk, l, p, e1, e2, e3, e4, e5, e6, T, st⟩ := S.ex
  obtain ⟨o, ho, q⟩ := S.lst
  obtain ⟨m, o2, es, ep, ho2, r⟩ := S.ns
  exact ⟨⟨it, tn, fs, kk, l, p, e1, e2, e3, e4, e5, e6, T, T.keep i h h' st fun b hb o q => k b (List.mem_cons_of_mem _ (List.mem_cons_of_mem _ hb)) o q⟩, S.fpo, ⟨o, k sl (by simp) o ho, q⟩, S.slfp, S.slL, S.slb, S.slfs, m, o2, es, ep, k _ (by simp) o2 ho2, r⟩
theorem Slp.obj {A : Around} {env : Env} {outer : List Env} {lo : Addr} {ys : List V} {i : Nat} {gs : GenState} {h : Heap} {fp : List Addr} {sl : Addr} (S : Slp P w K base tg e yp ypos A env outer lo ys i gs h fp sl) :
    ∀ b ∈ env.locals :: sl :: fp, ∃ o, h.get? b = some o ∧ ∀ v, o.data ≠ .cell v := by
  intro b hb
  obtain ⟨it, tn, fs, kk, l, p, e1, e2, e3, e4, e5, e6, T, st⟩ := S.ex
  rcases List.mem_cons.mp hb with rfl | hb
  · obtain ⟨m, o, es, ep, ho, hd, _⟩ := S.ns
    exact ⟨o, ho, fun v z => by rw [hd] at z; cases z⟩
  rcases List.mem_cons.mp hb with rfl | hb
  · obtain ⟨o, ho, _, its, n, _, rfl⟩ := S.lst
    exact ⟨_, ho, fun v z => by cases z⟩
  · exact T.obj i h st b hb
/-- what stands of the lists -/
def lsOf (lo : Addr) (xs : List V) (sl : Addr) (ys : List V) : Addr → Option (List V) := fun b => if b = lo then some xs else if b = sl then some ys else none
/-- a new tuple of two in the generator's context stands nowhere of before -/
theorem not_there {A' : Around} {env : Env} {outer : List Env} {s s1 : Shared} {pr : List Addr} {ls : Addr → Option (List V)} {pins : List (Addr × Obj)} {σ : L2.St} {H1 : Hp} {p : Addr} {u : HO}
    (I : Inv (Xz P w K mg base N A' env outer s pr ls) pins σ H1 s1) (hfr : ∀ b ∈ frs outer, b < env.locals) (hpr : ∀ b ∈ pr, H1 b = none) (e1 : H1 p = some u) (hu : ∀ o v, u ≠ .frz o v) : s.heap.get? p = none := by
  cases q : s.heap.get? p with
  | none => rfl
  | some o =>
    have h1 : p ∉ env.locals :: pr := fun hm => by
      rcases List.mem_cons.mp hm with rfl | hm
      · rw [show H1 env.locals = none from I.free] at e1; cases e1
      · rw [hpr p hm] at e1; cases e1
    have h2 : p ∉ frs outer := fun hm => by
      have := I.base.free p o (by show (cut s.heap env.locals).get? p = _; rw [cut_lt (hfr p hm)]; exact q) (fz_fs hm) (fun z => by cases z)
      rw [e1] at this; cases this
    have h3 : base.get? p = none := by
      cases qb : base.get? p with
      | none => rfl
      | some ob =>
        have := (I.bs p ob qb).2
        rw [e1] at this; cases this
    obtain ⟨v, hv⟩ := fz_get (ls := ls) q h1 h2 h3
    have := I.base.frzs p o v hv
    rw [e1] at this
    exact absurd (Option.some.inj this) (hu o v)
end
section
theorem ok_some {P : Program} {w : World} {H : Hp} {h : Heap} {a : Addr} {o : HO} (x : ObjOk P w H h a o) : ∃ ob, h.get? a = some ob := by
  cases o with
  | lst xs => obtain ⟨_, _, _, _, e⟩ := x; exact ⟨_, e⟩
  | tup xs => obtain ⟨_, _, _, ob, e, _⟩ := x; exact ⟨ob, e⟩
  | dK kvs => obtain ⟨_, _, _, _, ob, _, _, e, _⟩ := x; exact ⟨ob, e⟩
  | dT kvs => obtain ⟨_, _, _, _, ob, _, _, e, _⟩ := x; exact ⟨ob, e⟩
  | set S n => obtain ⟨ob, _, _, _, e, _⟩ := x; exact ⟨ob, e⟩
  | ins C dx fs => obtain ⟨_, _, _, e, _⟩ := x; exact ⟨_, e⟩
  | own y => obtain ⟨ob, e⟩ := x; exact ⟨ob, e⟩
  | xd fs => obtain ⟨_, ⟨ob, _, _, e, _⟩, _⟩ := x; exact ⟨ob, e⟩
  | rng lo hi => obtain ⟨_, _, _, e⟩ := x; exact ⟨_, e⟩
  | frz ob u => exact ⟨ob, x.1⟩
  | tbl ps => exact ⟨_, (show h.get? a = some _ from x)⟩
  | met f y => exact ⟨_, (show h.get? a = some _ from x)⟩
  | ext φ => exact x.2.1
variable {X : Cx} {pins : List (Addr × Obj)} {σ : L2.St} {H : Hp} {s : Shared}
theorem new_none {b : Addr} (I : Inv X pins σ H s) (h : s.heap.get? b = none) : H b = none := by
  cases q : H b with
  | none => rfl
  | some u =>
    obtain ⟨ob, e⟩ := ok_some (I.hok b u q)
    rw [h] at e; cases e
theorem own_new {b : Addr} (I : Inv X pins σ H s) (h : s.heap.get? b = none) : Own X pins H b where
  un := new_none I h
  loc := fun z => by
    obtain ⟨m, ⟨o, _, _, ho, _⟩, _⟩ := I.loc
    rw [← z, h] at ho; cases ho
  fs := fun z => by
    obtain ⟨_, o, ho, _⟩ := I.funs.mem z
    rw [h] at ho; cases ho
  cell := fun y c e z => by
    obtain ⟨v, o, ho, _⟩ := I.cell y c e
    rw [z, h] at ho; cases ho
  pin := fun p hp z => by
    have := (I.pin p hp).1
    rw [z, h] at this; cases this
theorem Own.up {b p : Addr} {o : HO} (h : Own X pins H b) (hb : b ≠ p) : Own X pins (upd H p o) b := ⟨by rw [upd_ne hb]; exact h.un, h.loc, h.fs, h.cell, h.pin⟩
end
section
variable {X : Cx} {pins : List (Addr × Obj)} {σ : L2.St} {H : Hp} {s : Shared} {k : Nat} {x qual : Str} {st : Stmt} {f : Addr} {fd : FuncData} {N : List Str} {p0 : Str} {tg iter e : Expr} {yp ypos fpos : Pos} {g : TG} {te : TE} {wi : TI}
/-- a turn's end: the next pair, or nothing -/
def Turned (X : Cx) (pins : List (Addr × Obj)) (σ : L2.St) (H : Hp) (tg e : Expr) (yp ypos : Pos) (env : Env) (a : Addr) (gn : Nat) (lo : Addr) (xs : List V) (i : Nat) (r : Option Value) (s1 : Shared) : Prop :=
  (∃ (u v : V) (p : Addr) (gs : GenState) (fp : List Addr) (sl : Addr), r = some (.ref p) ∧ xs[i]? = some u ∧ xs[i + 1]? = some v ∧ H p = none ∧ Inv X pins σ (upd H p (.tup [u, v])) s1 ∧ s1.heap.IsGen a gn ∧ s1.gens[gn]? = some gs ∧
    Slp X.prog X.w X.K X.base tg e yp ypos X.A.in1 env X.stack lo (xs.drop 1) (i + 1) gs s1.heap fp sl ∧ (∀ b ∈ a :: env.locals :: sl :: fp, Own X pins (upd H p (.tup [u, v])) b) ∧ a ∉ env.locals :: fp) ∨
  (r = none ∧ xs.length ≤ i + 1 ∧ Inv X pins σ H s1)
theorem drop1 {xs : List V} {i : Nat} : (xs.drop 1)[i]? = xs[i + 1]? := by
  rw [List.getElem?_drop, Nat.add_comm]
theorem itz_go {K : PySem.W.Frag} {H : Hp} {lo sl : Addr} {xs : List V} {i : Nat} (h1 : SqL K H lo xs) (h2 : SqL K H sl (xs.drop 1)) (h : i + 1 < xs.length) : (Itz K lo sl).go i H :=
  ⟨xs, xs.drop 1, xs[i], xs[i + 1], h1, h2, List.getElem?_eq_getElem _, by rw [drop1]; exact List.getElem?_eq_getElem h⟩
theorem itz_stop {K : PySem.W.Frag} {H : Hp} {lo sl : Addr} {xs : List V} {i : Nat} (h1 : SqL K H lo xs) (h2 : SqL K H sl (xs.drop 1)) (h : xs.length ≤ i + 1) : (Itz K lo sl).stop i H :=
  ⟨xs, xs.drop 1, h1, h2, .inr (by rw [List.length_drop]; omega)⟩
theorem same_of_new {H : Hp} {p : Addr} {o : HO} (h : H p = none) : Same H (upd H p o) := fun b u q => by
  rw [upd_ne (fun z => by rw [z, h] at q; cases q)]
  exact q
theorem env0_run {gn : Nat} (I : Inv X pins σ H s) : Env0 X.prog X.w X.K X.mg X.base X.A.in1 X.stack (s.setGen gn .running) H :=
  ⟨I.env0.frames, I.env0.mod, I.env0.bs, I.env0.bsz, I.env0.funs, I.env0.frf, I.env0.hok, allBare_setGen I.bare rfl⟩
theorem isl_of {lo : Addr} {xs : List V} (I : Inv X pins σ H s) (h : H lo = some (.lst xs)) : ∃ o, s.heap.get? lo = some o ∧ IsL o xs := by
  obtain ⟨z, its, n, r, e⟩ := I.hok lo _ h
  exact ⟨_, e, z, its, n, r, rfl⟩
theorem turned_back {L : Addr} {cd : Value} {a : Addr} {gn lo i : Nat} {xs : List V} {u v : V} {p : Addr} {fp : List Addr} {sl : Addr} {gs : GenState} {s1 : Shared} (I : Inv X pins σ H s) (Ef : Eff X.base X.stack (L :: fp) s s1) (hp : s.heap.get? p = none)
    (ht : ∃ its, Vals [u, v] its ∧ IsTup s1.heap p its.toArray) (hu : xs[i]? = some u) (hv : xs[i + 1]? = some v) (hch : ∀ b ∈ L :: fp, Own X pins H b ∧ X.s_0.heap.objs.size ≤ b) (hgen : s.heap.IsGen a gn) (hag : a ∉ L :: fp) (hafs : a ∉ frs X.stack)
    (hbare : gs.bare = true) (hsz : gn < s1.gens.size) (S : Slp X.prog X.w X.K X.base tg e yp ypos X.A.in1 (envOfC qual (defScope st) L f cd) X.stack lo (xs.drop 1) (i + 1) gs s1.heap fp sl) (hown : ∀ b ∈ a :: L :: sl :: fp, Own X pins H b ∧ b ≠ p) :
    Turned X pins σ H tg e yp ypos (envOfC qual (defScope st) L f cd) a gn lo xs i (some (.ref p)) (s1.setGen gn gs) := by
  have hpn := new_none I hp
  refine .inl ⟨u, v, p, gs, fp, sl, rfl, hu, hv, hpn, ?_, ?_, setGen_at hsz, S, fun b hb => (hown b hb).1.up (hown b hb).2, hag⟩
  · refine back_any (s4 := s1) I Ef (fun b o q => q) rfl (allBare_setGen Ef.bare hbare) hch (fun b o q => ?_) (fun b u q => ?_) fun b u' q n => ?_
    · rw [upd_ne (fun z => by rw [z, hp] at q; cases q)]
    · rw [upd_ne (fun z => by rw [z, hpn] at q; cases q)]
      exact q
    · by_cases hb : b = p
      · subst hb
        rw [upd_same] at q
        cases q
        obtain ⟨its, r, tt⟩ := ht
        exact ⟨by show 2 ≤ sizeLine; decide, its, r, tt⟩
      · rw [upd_ne hb, n] at q
        cases q
  · obtain ⟨o, nm, qn, ho, r⟩ := hgen
    exact ⟨o, nm, qn, Ef.keep a o ho hag hafs, r⟩
theorem next_slp {L : Addr} {cd : Value} {a : Addr} {gn lo i : Nat} {xs : List V} {fp : List Addr} {sl : Addr} {gs : GenState} {E : Value → Shared → Prop} (Tx : GT X.prog X.w X.K X.mg X.base x qual st f fd N p0 tg iter e yp ypos fpos g te wi) (hr : Room k X.A) (I : Inv X pins σ H s)
    (hlo : H lo = some (.lst xs)) (hL1 : ∀ b ∈ frs X.stack, b < L) (hL2 : X.base.objs.size ≤ L) (hL3 : X.s_0.heap.objs.size ≤ L) (hgen : s.heap.IsGen a gn) (hgs : s.gens[gn]? = some gs)
    (S : Slp X.prog X.w X.K X.base tg e yp ypos X.A.in1 (envOfC qual (defScope st) L f cd) X.stack lo (xs.drop 1) i gs s.heap fp sl) (hown : ∀ b ∈ a :: L :: sl :: fp, Own X pins H b) (hag : a ∉ L :: fp) (hafs : a ∉ frs X.stack) :
    wpAny (model X.prog X.w) X.A (pyNext (.ref a)) (Turned X pins σ H tg e yp ypos (envOfC qual (defScope st) L f cd) a gn lo xs i) E s := by
  obtain ⟨it, tn, fs, kk, l, pp, rfl, e2, e3, e4, e5, e6, T, stn⟩ := S.ex
  obtain ⟨m, hm⟩ := S.ns
  have e0 := env0_run (gn := gn) I
  have hgl : gn < s.gens.size := (Array.getElem?_eq_some_iff.mp hgs).1
  have hls : ∀ b ys, lsOf lo xs sl (xs.drop 1) b = some ys → ∃ o, (s.setGen gn .running).heap.get? b = some o ∧ IsL o ys := fun b ys q => by
    unfold lsOf at q
    by_cases h1 : b = lo
    · rw [if_pos h1] at q
      cases q
      rw [h1]
      have := isl_of I hlo
      exact this
    · rw [if_neg h1] at q
      by_cases h2 : b = sl
      · rw [if_pos h2] at q
        cases q
        rw [h2]
        exact S.lst
      · rw [if_neg h2] at q
        cases q
  have Ig := inv_fz (N := N) (σ := List.replicate N.length none) (pr := fp) (genv Tx.D L cd) e0 hL1 hL2 hr.hd (Around.frames_deeper (env := envOfC qual (defScope st) L f cd) e0.frames) hr.hd hls (by simp) ⟨m, hm, fun j y z h1 h2 _ => by
    rw [List.getElem?_replicate] at h2
    split at h2 <;> cases h2⟩
  have hlo0 : ∀ b ∈ L :: fp, b ≠ lo := fun b hb z => by
    have := (hown b (by rcases List.mem_cons.mp hb with q | q <;> simp [q])).un
    rw [z, hlo] at this; cases this
  obtain ⟨olo, hol, _⟩ := isl_of I hlo
  have hlob : X.base.get? lo = none := by
    cases q : X.base.get? lo with
    | none => rfl
    | some o =>
      have := (I.bs lo o q).2
      rw [hlo] at this; cases this
  have hlof : lo ∉ frs X.stack := fun z => by
    have := I.stkFree lo z
    rw [hlo] at this; cases this
  have slo : sl ≠ lo := fun z => by
    have := (hown sl (by simp)).un
    rw [z, hlo] at this; cases this
  obtain ⟨osl, hosl, _⟩ := S.lst
  have q1 : SqL X.K (Hz (envOfC qual (defScope st) L f cd) X.base X.stack (s.setGen gn .running) fp (lsOf lo xs sl (xs.drop 1))) lo xs :=
    .inl (.inr ⟨olo, fz_lst hol (fun z => hlo0 lo z rfl) hlof hlob (if_pos rfl)⟩)
  have q2 : SqL X.K (Hz (envOfC qual (defScope st) L f cd) X.base X.stack (s.setGen gn .running) fp (lsOf lo xs sl (xs.drop 1))) sl (xs.drop 1) := by
    refine .inl (.inr ⟨osl, fz_lst hosl (fun z => ?_) S.slfs S.slb ?_⟩)
    · rcases List.mem_cons.mp z with q | q
      · exact S.slL q
      · exact S.slfp q
    · unfold lsOf
      rw [if_neg slo, if_pos rfl]
  have hf : ∀ b ∈ fp, FpOk (Xz X.prog X.w X.K X.mg X.base N (X.A.in1.deeper (envOfC qual (defScope st) L f cd)) (envOfC qual (defScope st) L f cd) X.stack (s.setGen gn .running) fp (lsOf lo xs sl (xs.drop 1))) [] (Hz (envOfC qual (defScope st) L f cd) X.base X.stack (s.setGen gn .running) fp (lsOf lo xs sl (xs.drop 1))) b := fun b hb => by
    obtain ⟨z1, z2, z3⟩ := S.fpo b hb
    refine ⟨fz_pr (List.mem_cons_of_mem _ hb), z1, z2, .inr ?_, fun y c z => ?_, fun p hp => ?_⟩
    · show (cut s.heap L).objs.size ≤ b
      have ec : (cut s.heap L).objs.size = L := cut_size (Nat.le_of_lt hm.lt)
      rw [ec]
      exact z3
    · have z : (cellsFrom (L + 1) (defScope st).names []).lookup y = some c := z
      rw [cells_nil Tx.D.loc] at z
      cases z
    · exact absurd (show p ∈ ([] : List (Addr × Obj)) from hp) (by simp)
  have hch : ∀ b ∈ L :: fp, Own X pins H b ∧ X.s_0.heap.objs.size ≤ b := fun b hb => by
    refine ⟨hown b (by rcases List.mem_cons.mp hb with q | q <;> simp [q]), ?_⟩
    rcases List.mem_cons.mp hb with q | q
    · rw [q]; exact hL3
    · exact Nat.le_trans hL3 (S.fpo b q).2.2
  have efs : ∀ {s1 : Shared}, Eff X.base X.stack (L :: fp) (s.setGen gn .running) s1 → Eff X.base X.stack (L :: fp) s s1 := fun z => ⟨z.os, z.bare, z.keep, z.slot⟩
  refine wpAny_gsz (n := gn + 1) hgl ?_
  refine next_gl (Φ := fun ee s1 => (∃ ps k' l' pos u v, ee = .susp (.ref ps) false l' k' (gLoop tg e yp ypos it (envOfC qual (defScope st) L f cd)) pos fs ∧ xs[i]? = some u ∧ xs[i + 1]? = some v ∧ s.heap.get? ps = none ∧ Eff X.base X.stack (L :: fp) s s1 ∧
      (∃ its, Vals [u, v] its ∧ IsTup s1.heap ps its.toArray) ∧ tn (i + 1) s1.heap ∧ Again X.prog X.w X.A.in1 (gLoop tg e yp ypos it (envOfC qual (defScope st) L f cd)) fs k' ∧ ∃ m, s1.heap.Ns L m) ∨
    (ee = .ret (.ok (.ret .none)) ∧ xs.length ≤ i + 1 ∧ Eff X.base X.stack (L :: fp) s s1)) hr.hd I.nolimit (by have := hr.dp; omega) hgen hgs ?_ ?_
  · refine e6 _ _ ?_
    by_cases hlen : i + 1 < xs.length
    · refine sg_item (A' := X.A.in1.deeper (envOfC qual (defScope st) L f cd)) e5 e2 e3 Tx.D.co (Tx.int L cd) (fun s0 H0 => Tx.hg _ L cd _ s0 H0) (fun s0 H0 => Tx.he _ L cd _ s0 H0) T Ig hf stn (itz_go q1 q2 hlen)
        (Post := fun y H3 => ∃ TT a b p, y = .ref p ∧ H3 p = some (.tup [a, b]) ∧ xs[i]? = some a ∧ xs[i + 1]? = some b ∧ H3 = upd (upd (Hz (envOfC qual (defScope st) L f cd) X.base X.stack (s.setGen gn .running) fp (lsOf lo xs sl (xs.drop 1))) TT (.tup [a, b])) p (.tup [a, b])) ?_ ?_
      · rintro y H2 ⟨TT, a', b', rfl, ht, rfl, g1, g2⟩
        exact Tx.r2 _ _ TT a' b' _ (by simp) ht fun p hp => ⟨TT, a', b', p, rfl, upd_same, g1 xs q1, by rw [← drop1]; exact g2 _ q2, rfl⟩
      · rintro v y σ1 pins1 H3 s1 I1 st1 fr1 rv ⟨TT, a', b', p, rfl, hp3, g1, g2, rfl⟩ k' l' pos ag
        obtain rfl : v = Value.ref p := rv
        obtain ⟨_, its, r, tt⟩ := I1.hok p _ hp3
        obtain ⟨m1, hm1, _⟩ := I1.loc
        exact .inl ⟨p, k', l', pos, a', b', rfl, g1, g2, not_there (s := s.setGen gn .running) I1 hL1 fr1 hp3 (fun o v z => by cases z), efs (eff_of e0 hL1 hL2 I1), ⟨its, r, tt⟩, st1, ag, m1, hm1⟩
    · exact sg_stop e5 T Ig hf stn (itz_stop q1 q2 (by omega)) e4 fun s1 I1 => .inr ⟨rfl, by omega, efs (eff_of e0 hL1 hL2 I1)⟩
  · rintro ee s1 (⟨ps, k', l', pos, u, v, rfl, g1, g2, hps, Ef, ht, st1, ag, hns1⟩ | ⟨rfl, hlen, Ef⟩)
    · refine .inl ⟨.ref ps, l', k', _, pos, fs, rfl, e3, fun hsz => ?_⟩
      have egs : (End.susp (.ref ps) false l' k' (gLoop tg e yp ypos it (envOfC qual (defScope st) L f cd)) pos fs).genState = .suspended k' l' (gLoop tg e yp ypos it (envOfC qual (defScope st) L f cd)) pos fs false := by
        show GenState.suspended _ _ _ _ _ (false || fs.any Frame.guarded) = _
        rw [e3]
        rfl
      rw [egs] at hsz ⊢
      rw [setGen_size] at hsz
      have ksl : s1.heap.get? sl = some osl := Ef.keep sl osl hosl (fun z => by
        rcases List.mem_cons.mp z with q | q
        · exact S.slL q
        · exact S.slfp q) S.slfs
      obtain ⟨osl', hosl', isl'⟩ := S.lst
      rw [hosl] at hosl'
      cases hosl'
      refine turned_back I Ef hps ht g1 g2 hch hgen hag hafs rfl hsz ⟨⟨it, tn, fs, k', l', pos, rfl, e2, e3, e4, e5, ag, T, st1⟩, S.fpo, ⟨osl, ksl, isl'⟩, S.slfp, S.slL, S.slb, S.slfs, hns1⟩ fun b hb => ⟨hown b hb, fun z => ?_⟩
      rw [z] at hb
      rcases List.mem_cons.mp hb with q | hb
      · obtain ⟨o, _, _, ho, _⟩ := hgen
        rw [← q, hps] at ho; cases ho
      rcases List.mem_cons.mp hb with q | hb
      · obtain ⟨o, _, _, ho, _⟩ := hm
        have ho : s.heap.get? L = some o := ho
        rw [← q, hps] at ho; cases ho
      rcases List.mem_cons.mp hb with q | hb
      · rw [← q, hps] at hosl; cases hosl
      · obtain ⟨o, ho, _⟩ := T.obj i _ stn ps hb
        rw [hps] at ho; cases ho
    · refine .inr ⟨rfl, fun h' hk _ => .inr ⟨rfl, hlen, ?_⟩⟩
      exact back_any (s4 := s1) I Ef hk rfl (allBare_setGen Ef.bare rfl) hch (fun b o q => rfl) (fun b u q => q) fun b u q n => by rw [n] at q; cases q
theorem next_new {L : Addr} {cd : Value} {a : Addr} {gn lo : Nat} {xs : List V} {E : Value → Shared → Prop} (Tx : GT X.prog X.w X.K X.mg X.base x qual st f fd N p0 tg iter e yp ypos fpos g te wi) (hr : Room k X.A) (I : Inv X pins σ H s)
    (hlo : H lo = some (.lst xs)) (hL1 : ∀ b ∈ frs X.stack, b < L) (hL2 : X.base.objs.size ≤ L) (hL3 : X.s_0.heap.objs.size ≤ L) (hgen : s.heap.IsGen a gn)
    (hgs : s.gens[gn]? = some (.fresh (.func (defBody st) (envOfC qual (defScope st) L f cd)))) (hns : ∃ m, s.heap.Ns L m ∧ m p0 = some (.ref lo)) (hown : ∀ b ∈ [a, L], Own X pins H b) (haL : a ≠ L) (hafs : a ∉ frs X.stack) (hab : X.base.get? a = none) :
    wpAny (model X.prog X.w) X.A (pyNext (.ref a)) (Turned X pins σ H tg e yp ypos (envOfC qual (defScope st) L f cd) a gn lo xs 0) E s := by
  obtain ⟨m, hm, hmp⟩ := hns
  have e0 := env0_run (gn := gn) I
  have hgl : gn < s.gens.size := (Array.getElem?_eq_some_iff.mp hgs).1
  have hls : ∀ b ys, lsOf lo xs lo xs b = some ys → ∃ o, (s.setGen gn .running).heap.get? b = some o ∧ IsL o ys := fun b ys q => by
    unfold lsOf at q
    by_cases h1 : b = lo
    · rw [if_pos h1] at q
      cases q
      rw [h1]
      have := isl_of I hlo
      exact this
    · rw [if_neg h1, if_neg h1] at q
      cases q
  have hN : N = p0 :: N.drop 1 := by
    have := List.take_append_drop 1 N
    rw [Tx.D.pre] at this
    exact this.symm
  have Ig := inv_fz (N := N) (σ := some (.ref lo) :: List.replicate (N.length - 1) none) (pr := []) (genv Tx.D L cd) e0 hL1 hL2 hr.hd (Around.frames_deeper (env := envOfC qual (defScope st) L f cd) e0.frames) hr.hd hls (by
    rw [hN]
    simp) ⟨m, hm, fun j y z h1 h2 _ => by
    cases j with
    | zero =>
      rw [hN] at h1
      cases h1
      cases h2
      exact ⟨_, rfl, Tx.D.par, hmp⟩
    | succ j =>
      rw [List.getElem?_cons_succ, List.getElem?_replicate] at h2
      split at h2 <;> cases h2⟩
  obtain ⟨olo, hol, _⟩ := isl_of I hlo
  have hlob : X.base.get? lo = none := by
    cases q : X.base.get? lo with
    | none => rfl
    | some o =>
      have := (I.bs lo o q).2
      rw [hlo] at this; cases this
  have hlof : lo ∉ frs X.stack := fun z => by
    have := I.stkFree lo z
    rw [hlo] at this; cases this
  have hloL : lo ≠ L := fun z => by
    have := (hown L (by simp)).un
    rw [← z, hlo] at this; cases this
  have q1 : SqL X.K (Hz (envOfC qual (defScope st) L f cd) X.base X.stack (s.setGen gn .running) [] (lsOf lo xs lo xs)) lo xs :=
    .inl (.inr ⟨olo, fz_lst hol (fun z => hloL (List.mem_singleton.mp z)) hlof hlob (if_pos rfl)⟩)
  have efs : ∀ {s1 : Shared}, Eff X.base X.stack [L] (s.setGen gn .running) s1 → Eff X.base X.stack [L] s s1 := fun z => ⟨z.os, z.bare, z.keep, z.slot⟩
  have hch : ∀ b ∈ [L], Own X pins H b ∧ X.s_0.heap.objs.size ≤ b := fun b hb => by
    obtain rfl := List.mem_singleton.mp hb
    exact ⟨hown b (by simp), hL3⟩
  refine wpAny_gsz (n := gn + 1) hgl ?_
  refine next_gl (Φ := fun ee s1 => (∃ ps k' l' pos u v it fp tn sl fs, ee = .susp (.ref ps) false l' k' (gLoop tg e yp ypos it (envOfC qual (defScope st) L f cd)) pos fs ∧ splitAtGen fs = none ∧ fs.any Frame.guarded = false ∧ Ends X.prog X.w X.A.in1 fs ∧
      X.A.in1.over (gLoop tg e yp ypos it (envOfC qual (defScope st) L f cd)) fs = X.A.in1.deeper (envOfC qual (defScope st) L f cd) ∧ xs[0]? = some u ∧ xs[0 + 1]? = some v ∧ s.heap.get? ps = none ∧ Eff X.base X.stack [L] s s1 ∧
      (∃ its, Vals [u, v] its ∧ IsTup s1.heap ps its.toArray) ∧ Turn X.prog X.w X.K tg (Itz X.K lo sl) fp it tn ∧ tn (0 + 1) s1.heap ∧ Again X.prog X.w X.A.in1 (gLoop tg e yp ypos it (envOfC qual (defScope st) L f cd)) fs k' ∧ (∃ m, s1.heap.Ns L m) ∧
      (∀ b ∈ fp, b ≠ L ∧ L ≤ b ∧ s.heap.get? b = none ∧ b ∉ frs X.stack ∧ b ≠ ps) ∧ s.heap.get? sl = none ∧ sl ∉ fp ∧ sl ≠ ps ∧ ∃ o, s1.heap.get? sl = some o ∧ IsL o (xs.drop 1)) ∨
    (ee = .ret (.ok (.ret .none)) ∧ xs.length ≤ 0 + 1 ∧ Eff X.base X.stack [L] s s1)) hr.hd I.nolimit (by have := hr.dp; omega) hgen hgs ?_ ?_
  · show Sg _ X.A.in1 _ (.func (defBody st) _) _ [] _
    rw [Tx.body]
    refine sg_first (tg := tg) (e := e) (yp := yp) (ypos := ypos) (N := N) (R := fun J H1 => ∃ sl, J = Itz X.K lo sl ∧ (Hz (envOfC qual (defScope st) L f cd) X.base X.stack (s.setGen gn .running) [] (lsOf lo xs lo xs)) sl = none ∧
      H1 = upd (Hz (envOfC qual (defScope st) L f cd) X.base X.stack (s.setGen gn .running) [] (lsOf lo xs lo xs)) sl (.lst (xs.drop 1))) (Tx.hs _) Ig (Tx.hi _ L cd _ _ _) (Tx.r1 _ lo xs _ q1 fun sl hsl => ⟨sl, rfl, hsl, rfl⟩) ?_
    rintro it fp tn J H1 s1 I1 T stn hf ⟨sl, rfl, hsl, rfl⟩ fs e2 e3 e4 e5
    have q1' : SqL X.K (upd (Hz (envOfC qual (defScope st) L f cd) X.base X.stack (s.setGen gn .running) [] (lsOf lo xs lo xs)) sl (.lst (xs.drop 1))) lo xs := (same_of_new hsl).seq q1
    have q2' : SqL X.K (upd (Hz (envOfC qual (defScope st) L f cd) X.base X.stack (s.setGen gn .running) [] (lsOf lo xs lo xs)) sl (.lst (xs.drop 1))) sl (xs.drop 1) := .inl (.inl upd_same)
    have nth : ∀ {p u}, (upd (Hz (envOfC qual (defScope st) L f cd) X.base X.stack (s.setGen gn .running) [] (lsOf lo xs lo xs)) sl (.lst (xs.drop 1))) p = some u → (∀ o v, u ≠ .frz o v) → s.heap.get? p = none := fun {p u} z1 z2 =>
      not_there (s := s.setGen gn .running) I1 hL1 (fun b z => by cases z) z1 z2
    have hsln := nth upd_same (fun o v z => by cases z)
    by_cases hlen : 0 + 1 < xs.length
    · refine sg_item (A' := X.A.in1.deeper (envOfC qual (defScope st) L f cd)) e5 e2 e3 Tx.D.co (Tx.int L cd) (fun s0 H0 => Tx.hg _ L cd _ s0 H0) (fun s0 H0 => Tx.he _ L cd _ s0 H0) T I1 hf stn (itz_go q1' q2' hlen)
        (Post := fun y H3 => ∃ TT a b p, y = .ref p ∧ H3 p = some (.tup [a, b]) ∧ xs[0]? = some a ∧ xs[0 + 1]? = some b ∧ sl ≠ p ∧ H3 sl = some (.lst (xs.drop 1)) ∧
          H3 = upd (upd (upd (Hz (envOfC qual (defScope st) L f cd) X.base X.stack (s.setGen gn .running) [] (lsOf lo xs lo xs)) sl (.lst (xs.drop 1))) TT (.tup [a, b])) p (.tup [a, b])) ?_ ?_
      · rintro y H2 ⟨TT, a', b', rfl, ht, rfl, g1, g2⟩
        have nT : sl ≠ TT := fun z => by rw [← z, upd_same] at ht; cases ht
        refine Tx.r2 _ _ TT a' b' _ (by rw [hN]; simp) ht fun p hp => ?_
        have np : sl ≠ p := fun z => by
          rw [← z, upd_ne nT, upd_same] at hp
          cases hp
        exact ⟨TT, a', b', p, rfl, upd_same, g1 xs q1', by rw [← drop1]; exact g2 _ q2', np, by rw [upd_ne np, upd_ne nT, upd_same], rfl⟩
      · rintro v y σ1 pins1 H3 s2 I2 st2 fr2 rv ⟨TT, a', b', p, rfl, hp3, g1, g2, np, hs3, rfl⟩ k' l' pos ag
        obtain rfl : v = Value.ref p := rv
        obtain ⟨_, its, r, tt⟩ := I2.hok p _ hp3
        obtain ⟨z9, itl, nl, rl, el⟩ := I2.hok sl _ hs3
        obtain ⟨m1, hm1, _⟩ := I2.loc
        have nsl : sl ∉ fp := fun z => by
          have := (hf sl z).1
          rw [upd_same] at this; cases this
        refine .inl ⟨p, k', l', pos, a', b', it, fp, tn, sl, fs, rfl, e2, e3, e4, e5, g1, g2, not_there (s := s.setGen gn .running) I2 hL1 (fun b z => by cases z) hp3 (fun o v z => by cases z), efs (eff_of e0 hL1 hL2 I2), ⟨its, r, tt⟩, T, st2, ag, ⟨m1, hm1⟩, fun b hb => ?_, hsln, nsl, np, _, el, z9, itl, nl, rl, rfl⟩
        obtain ⟨z1, z2, z3, z4, _⟩ := hf b hb
        have hLb : L ≤ b := by
          rcases z4 with z | z
          · exact absurd (show b ∈ ([] : List Addr) from z) (by simp)
          · have ec : (cut s.heap L).objs.size = L := cut_size (Nat.le_of_lt hm.lt)
            have z : (cut s.heap L).objs.size ≤ b := z
            rwa [ec] at z
        refine ⟨z2, hLb, ?_, z3, fun z => ?_⟩
        · cases q : s.heap.get? b with
          | none => rfl
          | some o =>
            have hbb : X.base.get? b = none := by
              cases qb : X.base.get? b with
              | none => rfl
              | some ob =>
                have := Heap.lt_size qb
                exact absurd (Nat.lt_of_lt_of_le this (Nat.le_trans hL2 hLb)) (Nat.lt_irrefl _)
            obtain ⟨u', hu'⟩ := fz_get (h := s.heap) (base := X.base) (fs := frs X.stack) (pr := [L]) (ls := lsOf lo xs lo xs) q (fun z => z2 (List.mem_singleton.mp z)) z3 hbb
            have hu' : (Hz (envOfC qual (defScope st) L f cd) X.base X.stack (s.setGen gn .running) [] (lsOf lo xs lo xs)) b = some (.frz o u') := hu'
            have nb : b ≠ sl := fun z => nsl (by rw [← z]; exact hb)
            rw [upd_ne nb, hu'] at z1
            cases z1
        · have := fr2 b hb
          rw [z, upd_same] at this
          cases this
    · exact sg_stop e5 T I1 hf stn (itz_stop q1' q2' (by omega)) e4 fun s2 I2 => .inr ⟨rfl, by omega, efs (eff_of e0 hL1 hL2 I2)⟩
  · rintro ee s1 (⟨ps, k', l', pos, u, v, it, fp, tn, sl, fs, rfl, e2, e3, e4, e5, g1, g2, hps, Ef, ht, T, st1, ag, hns1, hfp, hsln, nsl, np, isl⟩ | ⟨rfl, hlen, Ef⟩)
    · refine .inl ⟨.ref ps, l', k', _, pos, fs, rfl, e3, fun hsz => ?_⟩
      have egs : (End.susp (.ref ps) false l' k' (gLoop tg e yp ypos it (envOfC qual (defScope st) L f cd)) pos fs).genState = .suspended k' l' (gLoop tg e yp ypos it (envOfC qual (defScope st) L f cd)) pos fs false := by
        show GenState.suspended _ _ _ _ _ (false || fs.any Frame.guarded) = _
        rw [e3]
        rfl
      rw [egs] at hsz ⊢
      rw [setGen_size] at hsz
      obtain ⟨oa, _, _, hoa, _⟩ := hgen
      obtain ⟨oL, _, _, hoL, _⟩ := hm
      have hoL : s.heap.get? L = some oL := hoL
      have Ef2 : Eff X.base X.stack (L :: fp) s s1 := ⟨Ef.os, Ef.bare, fun b o q n nf => Ef.keep b o q (fun z => n (by rw [List.mem_singleton.mp z]; exact List.mem_cons_self)) nf, Ef.slot⟩
      have hslb : X.base.get? sl = none := by
        cases qb : X.base.get? sl with
        | none => rfl
        | some ob =>
          have := (I.bs sl ob qb).1
          rw [hsln] at this; cases this
      have hslf : sl ∉ frs X.stack := fun z => by
        obtain ⟨_, o, ho, _⟩ := I.stack.mem z
        rw [hsln] at ho; cases ho
      have hslL : sl ≠ L := fun z => by rw [z, hoL] at hsln; cases hsln
      have hch2 : ∀ b ∈ L :: fp, Own X pins H b ∧ X.s_0.heap.objs.size ≤ b := fun b hb => by
        rcases List.mem_cons.mp hb with rfl | hb
        · exact ⟨hown b (by simp), hL3⟩
        · obtain ⟨_, z2, z3, _, _⟩ := hfp b hb
          exact ⟨own_new I z3, Nat.le_trans hL3 z2⟩
      refine turned_back I Ef2 hps ht g1 g2 hch2 ⟨oa, _, _, hoa, by assumption⟩ (fun z => ?_) hafs rfl hsz ⟨⟨it, tn, fs, k', l', pos, rfl, e2, e3, e4, e5, ag, T, st1⟩, fun b hb => ⟨(hfp b hb).1, (hfp b hb).2.2.2.1, (hfp b hb).2.1⟩, isl, nsl, hslL, hslb, hslf, hns1⟩ fun b hb => ?_
      · rcases List.mem_cons.mp z with z | z
        · exact haL z
        · rw [(hfp a z).2.2.1] at hoa; cases hoa
      · rcases List.mem_cons.mp hb with rfl | hb
        · exact ⟨hown b (by simp), fun z => by rw [z, hps] at hoa; cases hoa⟩
        rcases List.mem_cons.mp hb with rfl | hb
        · exact ⟨hown b (by simp), fun z => by rw [z, hps] at hoL; cases hoL⟩
        rcases List.mem_cons.mp hb with rfl | hb
        · exact ⟨own_new I hsln, np⟩
        · exact ⟨own_new I (hfp b hb).2.2.1, (hfp b hb).2.2.2.2⟩
    · refine .inr ⟨rfl, fun h' hk _ => .inr ⟨rfl, hlen, ?_⟩⟩
      exact back_any (s4 := s1) I Ef hk rfl (allBare_setGen Ef.bare rfl) hch (fun b o q => rfl) (fun b u q => q) fun b u q n => by rw [n] at q; cases q
end
end Gl

namespace Z
open PySem PySem.Spec PyProof.Rows L2

/-! ### operators -/
section
variable {X : Cx}
def CFd (_ j : Int) : Prop := j ≠ 0 ∧ j.natAbs.log2 < 9000
theorem op_fdivZ : OpR X (binaryOp .FloorDiv) (rI CFd fun i j => .int (i.fdiv j)) := opI fun i j _ _ _ _ _ hc q => floordiv_int hc.1 q (.inl (PyProof.noPylong_of_log2 hc.2))
theorem pe_globE {x : Str} {pos : Pos} {v : V} (h : ∃ u, X.mg x = some u ∧ RelV v u) (hg : Gl X x := by rfl) (hdb : (x == ("__debug__" : Str)) = false := by decide) : PE X (.Name x pos) (tC v) := by
  obtain ⟨u, h1, h2⟩ := h
  exact pe_glob hg h1 h2 hdb
theorem pe_globR {x : Str} {pos : Pos} {a : Addr} (h : X.mg x = some (.ref a)) (hg : Gl X x := by rfl) (hdb : (x == ("__debug__" : Str)) = false := by decide) : PE X (.Name x pos) (tC (.ref a)) := pe_glob hg h rfl hdb
end
/-- an own error class over ValueError -/
structure ExcX (K : PySem.W.Frag) (mg : Str → Option Value) (x : Str) (C : Addr) : Prop where
  g : mg x = some (.ref C)
  q : PySem.W.excIn K C [.type "ValueError", .type "Exception", .type "BaseException", .type "object"] "ValueError.__new__" = true
  k : PySem.W.keepIn K (.ref C) = true
  t : PySem.W.typeIn K (.ref C) = some (.type "type")
  c : ExcC K C
  v : PySem.W.subIn K (.ref C) (.type "ValueError") = some true
section
variable {X : Cx} {C D : Addr} {K : PySem.W.Frag} {mg : Str → Option Value} {x y : Str} {b : Bool}
theorem pmk {m : Str} {j : Nat} {p p2 pos : Pos} (E : ExcX X.K X.mg x C) (hg : Gl X x) (hdb : (x == ("__debug__" : Str)) = false := by decide) :
    PMk X (.Call (.Name x p) [.Constant (.str m) j p2] [] pos) (fun _ H Q => Q (.ref C) none H) := pmk_own PySem.F.excBase_ValueError E.q E.g E.k (raises_own E.c.hs E.t) hg hdb
theorem exm (E : ExcX K mg x C) (h : PySem.W.subIn K (.ref D) (.ref C) = some b) : PySem.W.exmOne K (.ref D) (.ref C) = some b := PySem.W.exm_ref E.c.hs E.c.hd E.t h
theorem kit_own (E : ExcX K mg x C) (h : PySem.W.subIn K (.ref D) (.ref C) = some b) (hs : PySem.W.subIn K (.ref C) (.ref C) = some true) : PySem.W.kitOne K (.ref D) (.ref C) = some b := by
  unfold PySem.W.kitOne
  by_cases e : D = C
  · subst e
    rw [hs] at h
    cases h
    rw [if_pos (by simp)]
  · rw [if_neg (by simpa using e)]
    unfold PySem.W.kitCls
    obtain ⟨cd, hc, _⟩ := PySem.W.any_some E.c.hd
    have e2 : ((PySem.W.clsIn K C).isSome && PySem.W.typeIn K (.ref C) == some (.type "type")) = true := by rw [hc, E.t] <;> rfl
    show (if _ then _ else _) = _
    rw [if_pos e2, h]
theorem kit_ve (E : ExcX K mg x D) : PySem.W.kitOne K (.ref D) (.type "ValueError") = some true := by
  unfold PySem.W.kitOne
  rw [if_neg (by simp)]
  unfold PySem.W.kitCls
  show (if _ then _ else _) = _
  rw [if_pos (by decide +kernel), E.v]
/-- isinstance of the error that a suite holds -/
def rIsEx (K : PySem.W.Frag) (cls : Value) (d : Option Addr) (a : Addr) : List V → Hp → VK → Prop := fun xs H Q => ∃ D, cls = .ref D ∧ d = none ∧ ExcC K D ∧ rIsE K D a xs H Q
theorem call_isE {a : Addr} {oe : Obj} {cls : Value} {d : Option Addr} {pn : List (Addr × Obj)} (hz : Zc cls d oe) (hf : ∃ vs, oe.data = .fields vs) : CallR (X.suite a ((a, oe) :: pn)) (.builtin "isinstance") (rIsEx X.K cls d a) := by
  intro pins s σ H xs us Q I r h
  obtain ⟨D, e1, e2, c, h⟩ := h
  subst e1
  subst e2
  exact L2.call_isE c hz hf pins s σ H xs us Q I r h
end

/-! ### heaps -/
theorem same_upd {H : Hp} {p : Addr} {o : HO} (h : H p = none) : Same H (upd H p o) := fun b x e => by
  rw [upd_ne (ne_of_none e h)]
  exact e
theorem Same.seqT {K : PySem.W.Frag} {H H' : Hp} {a : Addr} {xs : List V} (e : Same H H') (h : SqT K H a xs) : SqT K H' a xs := by
  rcases h with (h | ⟨o, h⟩) | h
  · exact .inl (.inl (e _ _ h))
  · exact .inl (.inr ⟨o, e _ _ h⟩)
  · exact .inr h
theorem seqT {K : PySem.W.Frag} {H H' : Hp} {a : Addr} {xs : List V} (e : Same H H') (h : SqT K H a xs) : SqT K H' a xs := Same.seqT e h
theorem sz {n : Nat} (h : n ≤ 1000) : n ≤ sizeLine := Nat.le_trans h (by decide)

/-! ### readings, step by step -/
def NewT (Q : VK) : List V → Hp → Prop := fun xs H1 => xs.length ≤ sizeLine ∧ ∀ p, H1 p = none → Q (.ref p) (upd H1 p (.tup xs))
def NewL (Q : VK) : List V → Hp → Prop := fun xs H1 => xs.length ≤ sizeLine ∧ ∀ p, H1 p = none → Q (.ref p) (upd H1 p (.lst xs))
section
variable {σ : L2.St} {H : Hp} {n : L2.St → Hp → Prop} {r : VK} {b c : L2.St → Hp → Prop} {t u : TS} {te ta tb : TE} {tt tu : TT} {Q : VK} {QB : Bool → Hp → Prop} {v w x y : V} {i j : Int} {K : PySem.W.Frag}
theorem z_seq (h : t ⟨u ⟨n, r, b, c⟩, r, b, c⟩ σ H) : tSeq t u ⟨n, r, b, c⟩ σ H := h
theorem z_asg {k : Nat} (h : te σ H fun x H1 => n (σ.set k (some x)) H1) : tAsg te (gName k) ⟨n, r, b, c⟩ σ H := h
theorem z_asgS {to ti : TE} {st : TSet} (h : te σ H fun v H0 => to σ H0 fun o H1 => ti σ H1 fun k H2 => st o k v H2 fun H3 => n σ H3) : tAsg te (gSub to ti st) ⟨n, r, b, c⟩ σ H := h
theorem z_drop (h : te σ H fun _ H1 => n σ H1) : tDrop te ⟨n, r, b, c⟩ σ H := h
theorem z_ret (h : te σ H r) : tRet te ⟨n, r, b, c⟩ σ H := h
theorem z_retN (h : r .non H) : tRetN ⟨n, r, b, c⟩ σ H := h
theorem z_next (h : n σ H) : tNext ⟨n, r, b, c⟩ σ H := h
theorem z_brk (h : b σ H) : tBreak ⟨n, r, b, c⟩ σ H := h
theorem z_cont (h : c σ H) : tCont ⟨n, r, b, c⟩ σ H := h
theorem z_ifs (h : tt σ H fun k H1 => if k = true then t ⟨n, r, b, c⟩ σ H1 else u ⟨n, r, b, c⟩ σ H1) : tIfS tt t u ⟨n, r, b, c⟩ σ H := h
theorem z_par {p q : Nat} {tl : TA} (h : tl σ H fun vs H1 => ∃ v w, vs = [v, w] ∧ n ((σ.set p (some v)).set q (some w)) H1) : tPar p q tl ⟨n, r, b, c⟩ σ H := h
theorem z_two {R : V → V → Prop} (h : R v w) : ∃ v' w', [v, w] = [v', w'] ∧ R v' w' := ⟨v, w, rfl, h⟩
theorem z_aug {k : Nat} {ti : TIp} (h : σ[k]? = some (some x)) (q : te σ H fun y H1 => ti x y H1 fun z H2 => n (σ.set k (some z)) H2) : tAug k te ti ⟨n, r, b, c⟩ σ H := ⟨x, h, q⟩
theorem z_ipI {f : Int → Int → Int} (q : Q (.int (f i j)) H) : ipI f (.int i) (.int j) H Q := ⟨i, j, rfl, rfl, q⟩
theorem z_var {k : Nat} (h : σ[k]? = some (some v)) (q : Q v H) : tVar k σ H Q := ⟨v, h, q⟩
theorem z_c (q : Q v H) : tC v σ H Q := q
theorem z_op {g : R2} (h : ta σ H fun x H1 => tb σ H1 fun y H2 => g x y H2 Q) : tOp g ta tb σ H Q := h
theorem z_un {g : V → Hp → VK → Prop} (h : ta σ H fun x H1 => g x H1 Q) : tUn g ta σ H Q := h
theorem z_I0 {g : Int → Int → V} (q : Q (g i j) H) : rI0 g (.int i) (.int j) H Q := ⟨i, j, rfl, rfl, q⟩
theorem z_I {C : Int → Int → Prop} {g : Int → Int → V} (hc : C i j) (q : Q (g i j) H) : rI C g (.int i) (.int j) H Q := ⟨i, j, rfl, rfl, hc, q⟩
theorem z_U {g : Int → V} (q : Q (g i) H) : rU g (.int i) H Q := ⟨i, rfl, q⟩
theorem z_eqI (q : Q (.bl (decide (i = j))) H) : rEq (.int i) (.int j) H Q := ⟨rfl, by rw [show decide (V.int i = V.int j) = decide (i = j) by simp]; exact q⟩
theorem z_neI (q : Q (.bl (decide (¬ i = j))) H) : rNe (.int i) (.int j) H Q := ⟨rfl, by rw [show (!decide (V.int i = V.int j)) = decide (¬ i = j) by simp]; exact q⟩
theorem z_eq (h : scal x y = true) (q : Q (.bl (decide (x = y))) H) : rEq x y H Q := ⟨h, q⟩
theorem z_test (h : te σ H fun x H1 => ∃ k, x = .bl k ∧ QB k H1) : tTest te σ H QB := h
theorem z_tB (h : te σ H fun x H1 => ∃ k, x = .bl k ∧ QB k H1) : tB te σ H QB := h
theorem z_bl {k : Bool} {R : Bool → Prop} (q : R k) : ∃ k', V.bl k = V.bl k' ∧ R k' := ⟨k, rfl, q⟩
theorem z_notT (h : tt σ H fun k H1 => QB (!k) H1) : tNot tt σ H QB := h
theorem z_andT (h : tt σ H fun k H1 => if k = true then tu σ H1 QB else QB false H1) : tAnd tt tu σ H QB := h
theorem z_orT (h : tt σ H fun k H1 => if k = true then QB true H1 else tu σ H1 QB) : tOr tt tu σ H QB := h
theorem z_andV (h : ta σ H fun x H1 => ∃ k, x = .bl k ∧ if k = true then tb σ H1 Q else Q (.bl false) H1) : tAndV ta tb σ H Q := h
theorem z_orV (h : ta σ H fun x H1 => ∃ k, x = .bl k ∧ if k = true then Q (.bl true) H1 else tb σ H1 Q) : tOrV ta tb σ H Q := h
theorem z_notV (h : ta σ H fun x H1 => ∃ k, x = .bl k ∧ Q (.bl (!k)) H1) : tNotV ta σ H Q := h
theorem z_ifE (h : tt σ H fun k H1 => if k = true then ta σ H1 Q else tb σ H1 Q) : tIf tt ta tb σ H Q := h
theorem z_chain {g g' : R2} {tc : TE} (h : ta σ H fun x H1 => tb σ H1 fun y H2 => g x y H2 fun z H3 => ∃ k, z = .bl k ∧ (if k = true then tc σ H3 fun w' H4 => g' y w' H4 Q else Q (.bl false) H3)) : tChain g g' ta tb tc σ H Q := h
theorem z_nil {R : List V → Hp → Prop} (q : R [] H) : tNil σ H R := q
theorem z_cons {tr : TA} {R : List V → Hp → Prop} (h : ta σ H fun x H1 => tr σ H1 fun xs H2 => R (x :: xs) H2) : tCons ta tr σ H R := h
theorem z_tup {tl : TA} (h : tl σ H (NewT Q)) : tTup tl σ H Q := h
theorem z_lst {tl : TA} (h : tl σ H (NewL Q)) : tLst tl σ H Q := h
theorem z_newT {xs : List V} (hl : xs.length ≤ 1000) (q : ∀ p H', H p = none → Same H H' → H' p = some (.tup xs) → Q (.ref p) H') : NewT Q xs H := ⟨sz hl, fun p hp => q p _ hp (same_upd hp) upd_same⟩
theorem z_newL {xs : List V} (hl : xs.length ≤ 1000) (q : ∀ p H', H p = none → Same H H' → H' p = some (.lst xs) → Q (.ref p) H') : NewL Q xs H := ⟨sz hl, fun p hp => q p _ hp (same_upd hp) upd_same⟩
theorem z_cb {g : List V → Hp → VK → Prop} {tl : TA} (h : tl σ H fun vs H1 => g vs H1 Q) : tCB g tl σ H Q := h
theorem z_call {sp : Sp} {E : XK} {tl : TA} (h : tl σ H fun vs H1 => sp vs H1 Q E) : tCall sp [] E tl σ H Q := by
  unfold tCall
  simpa only [List.append_nil] using h
theorem z_callS {sp : Sp} {E : L2.St → XK} {tl : TA} (h : tl σ H fun vs H1 => sp vs H1 Q (E σ)) : tCallS sp E tl σ H Q := h
theorem z_ixL {p : Addr} {xs : List V} (h : SqL K H p xs) (ha : atI xs i = some v) (q : Q v H) : rIxL K (.ref p) (.int i) H Q := ⟨p, xs, i, v, rfl, rfl, h, ha, q⟩
theorem z_ixT {p : Addr} {xs : List V} (h : SqT K H p xs) (ha : atI xs i = some v) (q : Q v H) : rIxT K (.ref p) (.int i) H Q := ⟨p, xs, i, v, rfl, rfl, h, ha, q⟩
theorem z_setL {p : Addr} {xs : List V} {k : Nat} {R : Hp → Prop} (h : H p = some (.lst xs)) (hk : ixN xs.length i = some k) (q : R (upd H p (.lst (xs.set k v)))) : rSetL (.ref p) (.int i) v H R := ⟨p, xs, i, k, rfl, rfl, h, hk, q⟩
theorem z_if {p : Prop} [Decidable p] {A B : Prop} (h1 : p → A) (h2 : ¬ p → B) : if decide p = true then A else B := by
  by_cases h : p
  · rw [if_pos (decide_eq_true h)]
    exact h1 h
  · rw [if_neg (by simpa using h)]
    exact h2 h
theorem z_ifB {k : Bool} {A B : Prop} (h1 : k = true → A) (h2 : k = false → B) : if k = true then A else B := by
  cases k with
  | true => exact h1 rfl
  | false => exact h2 rfl
/-- and, or, not of a test whose answer is known, the heap as it was -/
theorem z_andK {k k' : Bool} (h : k = true → ∀ R : Bool → Hp → Prop, R k' H → tu σ H R) (q : QB (k && k') H) : if k = true then tu σ H QB else QB false H := by
  cases k with
  | true => exact h rfl QB q
  | false => exact q
theorem z_orK {k k' : Bool} (h : k = false → ∀ R : Bool → Hp → Prop, R k' H → tu σ H R) (q : QB (k || k') H) : if k = true then QB true H else tu σ H QB := by
  cases k with
  | true => exact q
  | false => exact h rfl QB q
theorem z_andKV {k k' : Bool} (h : k = true → ∀ R : VK, R (.bl k') H → tb σ H R) (q : Q (.bl (k && k')) H) : if k = true then tb σ H Q else Q (.bl false) H := by
  cases k with
  | true => exact h rfl Q q
  | false => exact q
theorem z_orKV {k k' : Bool} (h : k = false → ∀ R : VK, R (.bl k') H → tb σ H R) (q : Q (.bl (k || k')) H) : if k = true then Q (.bl true) H else tb σ H Q := by
  cases k with
  | true => exact q
  | false => exact h rfl Q q
/-- the second comparison of a chain -/
theorem z_chK {k k' : Bool} {tc : TE} {g' : R2} (h : k = true → ∀ R : VK, R (.bl k') H → tc σ H fun w' H4 => g' y w' H4 R) (q : Q (.bl (k && k')) H) :
    if k = true then tc σ H fun w' H4 => g' y w' H4 Q else Q (.bl false) H := by
  cases k with
  | true => exact h rfl Q q
  | false => exact q
theorem z_ty {x : V} {t : String} {T : String} {k : Bool} {H : Hp} {Q : VK} (h : TyX K H x (.type t)) (e : kitB t T = some k) (q : Q (.bl k) H) : rIsi K [x, .ty T] H Q := ⟨x, .ty T, .type t, .type T, k, rfl, .ty T, h, kit_ty e, q⟩
end
end Z
namespace Z
open PySem PySem.Spec PyProof.Rows L2
theorem pe_powc {X : Cx} {a b v : Int} {j1 j2 : Nat} {p1 p2 pos : Pos} (h0 : CPow a b) (hv : a ^ b.toNat = v) : PE X (.BinOp (.Constant (.int a) j1 p1) .Pow (.Constant (.int b) j2 p2) pos) (tC (.int v)) := by
  subst hv
  exact ⟨fun pins s σ H Q I h => (pe_op op_pow pe_int pe_int).run pins s σ H Q I ⟨a, b, rfl, rfl, h0, h⟩⟩
def rInt1 : List V → Hp → VK → Prop := fun xs H Q => (∃ i, xs = [.int i] ∧ Q (.int i) H) ∨ ∃ k, xs = [.bl k] ∧ Q (.int (if k then 1 else 0)) H
def rAbs : List V → Hp → VK → Prop := fun xs H Q => ∃ i, xs = [.int i] ∧ Q (.int (if i < 0 then -i else i)) H
def rLen (K : PySem.W.Frag) : List V → Hp → VK → Prop := fun xs H Q => ∃ p ys, xs = [.ref p] ∧ (SqL K H p ys ∨ SqT K H p ys) ∧ Q (.int ys.length) H
theorem c_int {X : Cx} : CallR X (.type "int") rInt1 := call_int1
theorem c_abs {X : Cx} : CallR X (.builtin "abs") rAbs := call_abs
theorem c_len {X : Cx} : CallR X (.builtin "len") (rLen X.K) := call_len_seq
section
variable {H : Hp} {Q : VK} {i j : Int} {v : V} {R : Prop}
theorem z_int1 (q : Q (.int i) H) : rInt1 [.int i] H Q := .inl ⟨i, rfl, q⟩
theorem z_int1b {k : Bool} (q : Q (.int (if k then 1 else 0)) H) : rInt1 [.bl k] H Q := .inr ⟨k, rfl, q⟩
theorem z_abs (q : Q (.int (if i < 0 then -i else i)) H) : rAbs [.int i] H Q := ⟨i, rfl, q⟩
theorem z_gcd (q : Q (.int ((Nat.gcd i.natAbs j.natAbs : Nat) : Int)) H) : rGcd [.int i, .int j] H Q := ⟨i, j, rfl, q⟩
theorem z_lenL {K : PySem.W.Frag} {p : Addr} {xs : List V} (h : SqL K H p xs) (q : Q (.int (xs.length : Int)) H) : rLen K [.ref p] H Q := ⟨p, xs, rfl, .inl h, q⟩
theorem z_lenT {K : PySem.W.Frag} {p : Addr} {xs : List V} (h : SqT K H p xs) (q : Q (.int (xs.length : Int)) H) : rLen K [.ref p] H Q := ⟨p, xs, rfl, .inr h, q⟩
theorem z_isII {K : PySem.W.Frag} (q : Q (.bl true) H) : rIsi K [.int i, .ty "int"] H Q := z_ty (.base (.int i)) (by decide +kernel) q
theorem z_isIB {K : PySem.W.Frag} (q : Q (.bl false) H) : rIsi K [.int i, .ty "bool"] H Q := z_ty (.base (.int i)) (by decide +kernel) q
theorem z_isBB {K : PySem.W.Frag} {k : Bool} (q : Q (.bl true) H) : rIsi K [.bl k, .ty "bool"] H Q := z_ty (.base (.bl k)) (by decide +kernel) q
theorem z_isTT {K : PySem.W.Frag} {p : Addr} {xs : List V} (h : H p = some (.tup xs)) (q : Q (.bl true) H) : rIsi K [.ref p, .ty "tuple"] H Q := z_ty (.base (.tup h)) (by decide +kernel) q
theorem z_isLL {K : PySem.W.Frag} {p : Addr} {xs : List V} (h : H p = some (.lst xs)) (q : Q (.bl true) H) : rIsi K [.ref p, .ty "list"] H Q := z_ty (.base (.lst h)) (by decide +kernel) q
theorem z_new {xs : List V} {F : Addr → Prop} (h : xs.length ≤ 1000) (q : ∀ p, H p = none → F p) : xs.length ≤ sizeLine ∧ ∀ p, H p = none → F p := ⟨sz h, q⟩
end
end Z
namespace Z
open PySem PySem.Spec PyProof.Rows L2
section
variable {σ : L2.St} {H : Hp} {n : L2.St → Hp → Prop} {r : VK} {b c : L2.St → Hp → Prop} {tb : TS} {K : PySem.W.Frag}
/-- for k in range(m) -/
theorem z_forR1 {ta : TA} {k : Nat} (m : Nat) (hm : m < 2 ^ 62) (ha : ∀ R : List V → Hp → Prop, R [.int (m : Int)] H → ta σ H R) (Pv : Nat → L2.St → Hp → Prop) (h0 : Pv 0 σ H)
    (hs : ∀ i σ H, i < m → Pv i σ H → tb ⟨Pv (i + 1), r, n, Pv (i + 1)⟩ (σ.set k (some (.int (i : Int)))) H) (hd : ∀ σ H, Pv m σ H → n σ H) : tFor (iRng1 ta) (gName k) tb ⟨n, r, b, c⟩ σ H := by
  refine ha _ ⟨(m : Int), rfl, by omega, by omega, ?_⟩
  refine for_range (lo := 0) (n := (m : Int).toNat) Pv h0 (fun i σ' H' hi p => ?_) (fun σ' H' p => hd σ' H' (by simpa using p))
  have e : (0 : Int) + (i : Int) = (i : Int) := Int.zero_add _
  show tb _ (σ'.set k (some (.int ((0 : Int) + (i : Int))))) H'
  rw [e]
  exact hs i σ' H' (by simpa using hi) p
/-- for k in range(lo, hi) -/
theorem z_forR2 {ta : TA} {k : Nat} (lo : Int) (m : Nat) (hl : -(2 ^ 61) ≤ lo ∧ lo < 2 ^ 61) (hm : m < 2 ^ 61) (ha : ∀ R : List V → Hp → Prop, R [.int lo, .int (lo + (m : Int))] H → ta σ H R) (Pv : Nat → L2.St → Hp → Prop) (h0 : Pv 0 σ H)
    (hs : ∀ i σ H, i < m → Pv i σ H → tb ⟨Pv (i + 1), r, n, Pv (i + 1)⟩ (σ.set k (some (.int (lo + (i : Int))))) H) (hd : ∀ σ H, Pv m σ H → n σ H) : tFor (iRng2 ta) (gName k) tb ⟨n, r, b, c⟩ σ H := by
  refine ha _ ⟨lo, lo + (m : Int), rfl, by omega, ?_⟩
  have en : (lo + (m : Int) - lo).toNat = m := by omega
  rw [en]
  exact for_range (lo := lo) (n := m) Pv h0 hs hd
/-- for x in a list, in a tuple -/
theorem z_forL {tl : TE} {g : TG} {a : Addr} {xs : List V} (ha : ∀ R : VK, R (.ref a) H → tl σ H R) (hx : SqL K H a xs) (Pv : Nat → L2.St → Hp → Prop) (h0 : Pv 0 σ H) (hl : ∀ i σ H, i ≤ xs.length → Pv i σ H → SqL K H a xs)
    (hs : ∀ i x σ H, xs[i]? = some x → Pv i σ H → g x σ H fun σ2 H2 => tb ⟨Pv (i + 1), r, n, Pv (i + 1)⟩ σ2 H2) (hd : ∀ σ H, Pv xs.length σ H → n σ H) : tFor (iList K tl) g tb ⟨n, r, b, c⟩ σ H :=
  ha _ ⟨a, rfl, ⟨xs, hx⟩, for_list Pv h0 hl hs hd⟩
theorem z_forT {tl : TE} {g : TG} {a : Addr} {xs : List V} (ha : ∀ R : VK, R (.ref a) H → tl σ H R) (hx : SqT K H a xs) (Pv : Nat → L2.St → Hp → Prop) (h0 : Pv 0 σ H) (hl : ∀ i σ H, i ≤ xs.length → Pv i σ H → SqT K H a xs)
    (hs : ∀ i x σ H, xs[i]? = some x → Pv i σ H → g x σ H fun σ2 H2 => tb ⟨Pv (i + 1), r, n, Pv (i + 1)⟩ σ2 H2) (hd : ∀ σ H, Pv xs.length σ H → n σ H) : tFor (iTup K tl) g tb ⟨n, r, b, c⟩ σ H :=
  ha _ ⟨a, rfl, ⟨xs, hx⟩, for_tup Pv h0 hl hs hd⟩
theorem z_gName {k : Nat} {v : V} {R : L2.St → Hp → Prop} (q : R (σ.set k (some v)) H) : gName k v σ H R := q
end
end Z
namespace Z
section
variable {A B : Prop}
theorem z_ifT (q : A) : if true = true then A else B := by
  rw [if_pos rfl]
  exact q
theorem z_ifF (q : B) : if false = true then A else B := by
  rw [if_neg Bool.false_ne_true]
  exact q
theorem z_ifNF (q : A) : if (!false) = true then A else B := z_ifT q
theorem z_ifNT (q : B) : if (!true) = true then A else B := z_ifF q
theorem z_ifN {p : Prop} [Decidable p] (h1 : ¬ p → A) (h2 : p → B) : if (!decide p) = true then A else B := by
  by_cases h : p
  · rw [if_neg (by simpa using h)]
    exact h2 h
  · rw [if_pos (by simpa using h)]
    exact h1 h
end
end Z
namespace Z
theorem z_ifYes {A B : Prop} {k : Bool} (h : k = true) (q : A) : if k = true then A else B := by
  rw [if_pos h]
  exact q
theorem z_ifNo {A B : Prop} {k : Bool} (h : k = false) (q : B) : if k = true then A else B := by
  rw [if_neg (by rw [h]; exact Bool.false_ne_true)]
  exact q
end Z
namespace Z
open PySem PySem.Spec PyProof.Rows L2
theorem z_exc {K : PySem.W.Frag} {cv cls : Value} {i : Nat} {ts : Addr → Value → Option Addr → TS} {Wout : WX} {n : L2.St → Hp → Prop} {r : VK} {b c : L2.St → Hp → Prop} {d : Option Addr} {σ : L2.St} {H : Hp} (e : PySem.W.exmOne K cls cv = some true)
    (h : ∀ a, H a = none → ts a cls d ⟨fun σ' H' => n (σ'.set i none) H', r, fun σ' H' => b (σ'.set i none) H', fun σ' H' => c (σ'.set i none) H'⟩ (σ.set i (some (.ref a))) H) : WE (wAs K cv i ts Wout ⟨n, r, b, c⟩) σ cls d H :=
  ⟨true, e, fun _ a ha => h a ha, fun z => Bool.noConfusion z⟩
theorem z_excO {K : PySem.W.Frag} {cv cls : Value} {ts : Addr → Value → Option Addr → TS} {Wout : WX} {D : Ends} {d : Option Addr} {σ : L2.St} {H : Hp} (e : PySem.W.exmOne K cls cv = some true)
    (h : ∀ a, H a = none → ts a cls d D σ H) : WE (wOnly K cv ts Wout D) σ cls d H :=
  ⟨true, e, fun _ a ha => h a ha, fun z => Bool.noConfusion z⟩
theorem z_isEr {K : PySem.W.Frag} {a C D : Addr} {k : Bool} {H : Hp} {Q : VK} (x : ExcC K D) (e : PySem.W.kitOne K (.ref D) (.ref C) = some k) (q : Q (.bl k) H) : rIsEx K (.ref D) none a [.ref a, .ref C] H Q :=
  ⟨D, rfl, rfl, x, .ref C, .ref C, k, rfl, fun u h => h, e, q⟩
theorem z_isEt {K : PySem.W.Frag} {a D : Addr} {t : String} {k : Bool} {H : Hp} {Q : VK} (x : ExcC K D) (e : PySem.W.kitOne K (.ref D) (.type t) = some k) (q : Q (.bl k) H) : rIsEx K (.ref D) none a [.ref a, .ty t] H Q :=
  ⟨D, rfl, rfl, x, .ty t, .type t, k, rfl, fun u h => h, e, q⟩
/-- two lists, tuples of flat things compared -/
theorem z_eqD {K : PySem.W.Frag} {x y : V} {d e : PyData} {H : Hp} {Q : VK} (h1 : Dp K H x d) (h2 : Dp K H y e) (s1 : SeqAt.shaped d = true) (s2 : SeqAt.shaped e = true) (q : Q (.bl (PyData.eqv d e)) H) : rEqD K x y H Q := ⟨d, e, h1, h2, s1, s2, q⟩
end Z
namespace Z
open PySem PySem.Spec PyProof.Rows L2
theorem z_eqSame {K : PySem.W.Frag} {x y : V} {d : PyData} {H : Hp} {Q : VK} (h1 : Dp K H x d) (h2 : Dp K H y d) (s : SeqAt.shaped d = true) (q : Q (.bl true) H) : rEqD K x y H Q :=
  ⟨d, d, h1, h2, s, s, by rw [SeqAt.eqv_refl d (SeqAt.canLay_of_shaped s)]; exact q⟩
theorem dpT2 {K : PySem.W.Frag} {H : Hp} {p : Addr} {n d : Int} (h : H p = some (.tup [.int n, .int d])) : Dp K H (.ref p) (.tuple [.int n, .int d]) := .tup (.inl (.inl h)) (.cons (.int n) (.cons (.int d) .nil))
theorem dpB3 {K : PySem.W.Frag} {H : Hp} {p : Addr} {a b c : Bool} (h : H p = some (.lst [.bl a, .bl b, .bl c])) : Dp K H (.ref p) (.list [.bool a, .bool b, .bool c]) := .lst (.inl (.inl h)) (.cons (.bl a) (.cons (.bl b) (.cons (.bl c) .nil)))
end Z
namespace Z
open PySem PySem.Spec PyProof.Rows L2
theorem z_cut {t u : TS} {n : L2.St → Hp → Prop} {r : VK} {b c : L2.St → Hp → Prop} {σ : L2.St} {H : Hp} (Mid : L2.St → Hp → Prop) (h : t ⟨Mid, r, b, c⟩ σ H) (k : ∀ σ' H', Mid σ' H' → u ⟨n, r, b, c⟩ σ' H') : Evl.tCut t u ⟨n, r, b, c⟩ σ H := ⟨Mid, h, k⟩
end Z
namespace Z
open PySem PySem.Spec PyProof.Rows L2
section
variable {σ : L2.St} {H : Hp} {n : L2.St → Hp → Prop} {r : VK} {b c : L2.St → Hp → Prop} {te : TE} {K : PySem.W.Frag} {a : Addr} {xs : List V} {gs : TGs} {m : Nat} {v : V}
theorem z_asgT (h : te σ H fun x H1 => ∃ a xs, x = .ref a ∧ SqT K H1 a xs ∧ xs.length = m ∧ gs xs σ H1 n) : tAsg te (gTup K m gs) ⟨n, r, b, c⟩ σ H := h
theorem z_asgL (h : te σ H fun x H1 => ∃ a xs, x = .ref a ∧ SqL K H1 a xs ∧ xs.length = m ∧ gs xs σ H1 n) : tAsg te (gLst K m gs) ⟨n, r, b, c⟩ σ H := h
theorem z_up (h : SqT K H a xs) (hm : xs.length = m) (q : gs xs σ H n) : ∃ a' xs', V.ref a = .ref a' ∧ SqT K H a' xs' ∧ xs'.length = m ∧ gs xs' σ H n := ⟨a, xs, rfl, h, hm, q⟩
theorem z_upL (h : SqL K H a xs) (hm : xs.length = m) (q : gs xs σ H n) : ∃ a' xs', V.ref a = .ref a' ∧ SqL K H a' xs' ∧ xs'.length = m ∧ gs xs' σ H n := ⟨a, xs, rfl, h, hm, q⟩
theorem z_gT (h : SqT K H a xs) (hm : xs.length = m) (q : gs xs σ H n) : gTup K m gs (.ref a) σ H n := ⟨a, xs, rfl, h, hm, q⟩
theorem z_gcons {t : TG} {u : TGs} {R : L2.St → Hp → Prop} (h : t v σ H fun σ' H' => u xs σ' H' R) : gCons t u (v :: xs) σ H R := ⟨v, xs, rfl, h⟩
theorem z_gnil {R : L2.St → Hp → Prop} (h : R σ H) : gNil [] σ H R := ⟨rfl, h⟩
end
end Z
namespace Z
open PySem PySem.Spec PyProof.Rows L2
section
variable {K : PySem.W.Frag} {Wout : WX} {D : Ends} {c cls : Value} {ts : Addr → Value → Option Addr → TS} {l : List (Value × (Addr → Value → Option Addr → TS))} {σ : L2.St} {H : Hp} {d : Option Addr}
theorem z_many1 (e : PySem.W.exmOne K cls c = some true) (h : ∀ a, H a = none → ts a cls d D σ H) : WE (wMany K Wout D ((c, ts) :: l)) σ cls d H := ⟨true, e, fun _ a ha => h a ha, fun z => Bool.noConfusion z⟩
theorem z_many0 (e : PySem.W.exmOne K cls c = some false) (h : WE (wMany K Wout D l) σ cls d H) : WE (wMany K Wout D ((c, ts) :: l)) σ cls d H := ⟨false, e, fun z => Bool.noConfusion z, fun _ => h⟩
theorem z_eqS {x : Str} {Q : VK} (q : Q (.bl true) H) : rEq (.str x) (.str x) H Q := ⟨rfl, by rw [decide_eq_true rfl]; exact q⟩
end
end Z
/-! ### data: what a value stands for -/
namespace Z
open PySem PySem.Spec PyProof.Rows L2
section
variable {K : PySem.W.Frag} {H H' : Hp} {v : V} {d d1 d2 d3 d4 d5 d6 : PyData}
mutual
theorem dp_mono (s : Same H H') : ∀ {d : PyData} {v : V}, Dp K H v d → Dp K H' v d
  | _, _, .non => .non
  | _, _, .bl b => .bl b
  | _, _, .int i => .int i
  | _, _, .str x => .str x
  | _, _, .lst h a => .lst (s.seq h) (dp_monoA s a)
  | _, _, .tup h a => .tup (seqT s h) (dp_monoA s a)
theorem dp_monoA (s : Same H H') : ∀ {ds : List PyData} {vs : List V}, DpAll K H vs ds → DpAll K H' vs ds
  | _, _, .nil => .nil
  | _, _, .cons h a => .cons (dp_mono s h) (dp_monoA s a)
end
mutual
def tupOnly : PyData → Bool
  | .list _ => false
  | .dict _ => false
  | .tuple ds => tupOnlyA ds
  | .none => true
  | .bool _ => true
  | .int _ => true
  | .str _ => true
def tupOnlyA : List PyData → Bool
  | [] => true
  | d :: ds => tupOnly d && tupOnlyA ds
end
def Kp (p : Addr) (H H' : Hp) : Prop := ∀ b o, b ≠ p → H b = some o → H' b = some o
theorem seqT_kp {p a : Addr} {xs ys : List V} (k : Kp p H H') (hp : H p = some (.lst xs)) (h : SqT K H a ys) : SqT K H' a ys := by
  rcases h with (h | ⟨o, h⟩) | h
  · exact .inl (.inl (k _ _ (ne_of h hp (by intro z; cases z)) h))
  · exact .inl (.inr ⟨o, k _ _ (ne_of h hp (by intro z; cases z)) h⟩)
  · exact .inr h
mutual
theorem dp_kp {p : Addr} {xs : List V} (k : Kp p H H') (hp : H p = some (.lst xs)) : ∀ {d : PyData} {v : V}, tupOnly d = true → Dp K H v d → Dp K H' v d
  | _, _, _, .non => .non
  | _, _, _, .bl b => .bl b
  | _, _, _, .int i => .int i
  | _, _, _, .str x => .str x
  | _, _, t, .lst h a => by simp [tupOnly] at t
  | _, _, t, .tup h a => .tup (seqT_kp k hp h) (dp_kpA k hp (by simpa [tupOnly] using t) a)
theorem dp_kpA {p : Addr} {xs : List V} (k : Kp p H H') (hp : H p = some (.lst xs)) : ∀ {ds : List PyData} {vs : List V}, tupOnlyA ds = true → DpAll K H vs ds → DpAll K H' vs ds
  | _, _, _, .nil => .nil
  | _, _, t, .cons h a => by
    have t' : (tupOnly _ && tupOnlyA _) = true := t
    rw [Bool.and_eq_true] at t'
    exact .cons (dp_kp k hp t'.1 h) (dp_kpA k hp t'.2 a)
end
theorem dp_int {i : Int} (h : Dp K H v (.int i)) : v = .int i := by
  cases h
  rfl
theorem dp_non (h : Dp K H v .none) : v = .non := by
  cases h
  rfl
theorem dp_bool {b : Bool} (h : Dp K H v (.bool b)) : v = .bl b := by
  cases h
  rfl
theorem dp_str {b : Str} (h : Dp K H v (.str b)) : v = .str b := by
  cases h
  rfl
theorem dp_tup {ds : List PyData} (h : Dp K H v (.tuple ds)) : ∃ p vs, v = .ref p ∧ SqT K H p vs ∧ DpAll K H vs ds := by
  cases h with
  | tup h a => exact ⟨_, _, rfl, h, a⟩
theorem dpa_nil {vs : List V} (h : DpAll K H vs []) : vs = [] := by
  cases h
  rfl
theorem dpa_cons {vs : List V} {ds : List PyData} (h : DpAll K H vs (d :: ds)) : ∃ v r, vs = v :: r ∧ Dp K H v d ∧ DpAll K H r ds := by
  cases h with
  | cons a b => exact ⟨_, _, rfl, a, b⟩
theorem dp_t1 (h : Dp K H v (.tuple [d1])) : ∃ p v1, v = .ref p ∧ SqT K H p [v1] ∧ Dp K H v1 d1 := by
  obtain ⟨p, vs, e, hS, a⟩ := dp_tup h
  obtain ⟨v1, _, rfl, h1, a⟩ := dpa_cons a
  obtain rfl := dpa_nil a
  exact ⟨p, v1, e, hS, h1⟩
theorem dp_t2 (h : Dp K H v (.tuple [d1, d2])) : ∃ p v1 v2, v = .ref p ∧ SqT K H p [v1, v2] ∧ Dp K H v1 d1 ∧ Dp K H v2 d2 := by
  obtain ⟨p, vs, e, hS, a⟩ := dp_tup h
  obtain ⟨v1, _, rfl, h1, a⟩ := dpa_cons a
  obtain ⟨v2, _, rfl, h2, a⟩ := dpa_cons a
  obtain rfl := dpa_nil a
  exact ⟨p, v1, v2, e, hS, h1, h2⟩
theorem dp_t3 (h : Dp K H v (.tuple [d1, d2, d3])) : ∃ p v1 v2 v3, v = .ref p ∧ SqT K H p [v1, v2, v3] ∧ Dp K H v1 d1 ∧ Dp K H v2 d2 ∧ Dp K H v3 d3 := by
  obtain ⟨p, vs, e, hS, a⟩ := dp_tup h
  obtain ⟨v1, _, rfl, h1, a⟩ := dpa_cons a
  obtain ⟨v2, _, rfl, h2, a⟩ := dpa_cons a
  obtain ⟨v3, _, rfl, h3, a⟩ := dpa_cons a
  obtain rfl := dpa_nil a
  exact ⟨p, v1, v2, v3, e, hS, h1, h2, h3⟩
theorem dp_t6 (h : Dp K H v (.tuple [d1, d2, d3, d4, d5, d6])) : ∃ p v1 v2 v3 v4 v5 v6, v = .ref p ∧ SqT K H p [v1, v2, v3, v4, v5, v6] ∧ Dp K H v1 d1 ∧ Dp K H v2 d2 ∧ Dp K H v3 d3 ∧ Dp K H v4 d4 ∧ Dp K H v5 d5 ∧ Dp K H v6 d6 := by
  obtain ⟨p, vs, e, hS, a⟩ := dp_tup h
  obtain ⟨v1, _, rfl, h1, a⟩ := dpa_cons a
  obtain ⟨v2, _, rfl, h2, a⟩ := dpa_cons a
  obtain ⟨v3, _, rfl, h3, a⟩ := dpa_cons a
  obtain ⟨v4, _, rfl, h4, a⟩ := dpa_cons a
  obtain ⟨v5, _, rfl, h5, a⟩ := dpa_cons a
  obtain ⟨v6, _, rfl, h6, a⟩ := dpa_cons a
  obtain rfl := dpa_nil a
  exact ⟨p, v1, v2, v3, v4, v5, v6, e, hS, h1, h2, h3, h4, h5, h6⟩
theorem dp_mk {p : Addr} {vs : List V} {ds : List PyData} (h : H p = some (.tup vs)) (a : DpAll K H vs ds) : Dp K H (.ref p) (.tuple ds) := .tup (.inl (.inl h)) a
end
/-! ### numbers -/
def qD (r : Rat) : PyData := .tuple [.int r.num, .int (r.den : Int)]
theorem dp_q {K : PySem.W.Frag} {H : Hp} {v : V} {r : Rat} (h : Dp K H v (qD r)) : ∃ p, v = .ref p ∧ SqT K H p [.int r.num, .int (r.den : Int)] := by
  obtain ⟨p, v1, v2, e, hS, h1, h2⟩ := dp_t2 h
  rw [dp_int h1, dp_int h2] at hS
  exact ⟨p, e, hS⟩
theorem dp_mkq {K : PySem.W.Frag} {H : Hp} {p : Addr} {r : Rat} (h : H p = some (.tup [.int r.num, .int (r.den : Int)])) : Dp K H (.ref p) (qD r) := dp_mk h (.cons (.int _) (.cons (.int _) .nil))
theorem dp_seqq {K : PySem.W.Frag} {H : Hp} {p : Addr} {r : Rat} (h : SqT K H p [.int r.num, .int (r.den : Int)]) : Dp K H (.ref p) (qD r) := .tup h (.cons (.int _) (.cons (.int _) .nil))
/-- numerator and denominator at most so great -/
def Bd (r : Rat) (p q : Nat) : Prop := r.num.natAbs ≤ p ∧ r.den ≤ q
theorem bd_divInt {n d : Int} (h : d ≠ 0) : Bd (Rat.divInt n d) n.natAbs d.natAbs := by
  unfold Bd
  rw [Rat.num_divInt, Rat.den_divInt, if_neg h]
  refine ⟨Nat.le_trans (Int.natAbs_ediv_le_natAbs _ _) ?_, Nat.div_le_self _ _⟩
  rw [Int.natAbs_mul]
  have : d.sign.natAbs ≤ 1 := by
    rcases Int.lt_trichotomy d 0 with z | z | z
    · rw [Int.sign_eq_neg_one_of_neg z]; decide
    · exact absurd z h
    · rw [Int.sign_eq_one_of_pos z]; decide
  calc d.sign.natAbs * n.natAbs ≤ 1 * n.natAbs := Nat.mul_le_mul_right _ this
    _ = n.natAbs := Nat.one_mul _
theorem q_self (r : Rat) : Rat.divInt r.num (r.den : Int) = r := Rat.num_divInt_den r
end Z
namespace Z
open PySem PySem.Spec PyProof.Rows L2
def gd (n d : Int) : Int := ((Nat.gcd n.natAbs d.natAbs : Nat) : Int)
def rn (n d : Int) : Int := (if d < 0 then -n else n) / gd n d
def rd (n d : Int) : Int := (if d < 0 then -d else d) / gd n d
theorem rn_q {n d : Int} (h : d ≠ 0) : rn n d = (Rat.divInt n d).num := by
  rw [Rat.num_divInt]
  unfold rn gd
  have e : d.gcd n = Nat.gcd n.natAbs d.natAbs := Nat.gcd_comm _ _
  rw [e]
  congr 1
  split
  · rename_i z
    rw [Int.sign_eq_neg_one_of_neg z]
    omega
  · rename_i z
    rw [Int.sign_eq_one_of_pos (by omega)]
    omega
theorem rd_q {n d : Int} (h : d ≠ 0) : rd n d = ((Rat.divInt n d).den : Int) := by
  rw [Rat.den_divInt, if_neg h]
  unfold rd gd
  have e : d.gcd n = Nat.gcd n.natAbs d.natAbs := Nat.gcd_comm _ _
  rw [e]
  rw [Int.natCast_ediv]
  congr 1
  split <;> omega
def lim : Int := 1000000000000000000
def fitsQ (r : Rat) : Prop := -lim ≤ r.num ∧ r.num ≤ lim ∧ (r.den : Int) ≤ lim
theorem bd_add {a b : Rat} {p q p' q' : Nat} (h : Bd a p q) (h' : Bd b p' q') : Bd (a + b) (p * q' + p' * q) (q * q') := by
  have ha := a.den_nz
  have hb := b.den_nz
  have e : a + b = Rat.divInt (a.num * b.den + b.num * a.den) ((a.den : Int) * b.den) := by
    rw [← Rat.divInt_add_divInt _ _ (by omega) (by omega), Rat.num_divInt_den, Rat.num_divInt_den]
  rw [e]
  have hd : ((a.den : Int) * b.den) ≠ 0 := Int.mul_ne_zero (by omega) (by omega)
  have k := bd_divInt (n := a.num * b.den + b.num * a.den) hd
  refine ⟨Nat.le_trans k.1 (Nat.le_trans (Int.natAbs_add_le _ _) ?_), Nat.le_trans k.2 ?_⟩
  · rw [Int.natAbs_mul, Int.natAbs_mul]
    exact Nat.add_le_add (Nat.mul_le_mul h.1 h'.2) (Nat.mul_le_mul h'.1 h.2)
  · rw [Int.natAbs_mul]
    exact Nat.mul_le_mul h.2 h'.2
theorem bd_mul {a b : Rat} {p q p' q' : Nat} (h : Bd a p q) (h' : Bd b p' q') : Bd (a * b) (p * p') (q * q') := by
  have ha := a.den_nz
  have hb := b.den_nz
  have e : a * b = Rat.divInt (a.num * b.num) ((a.den : Int) * b.den) := by
    rw [← Rat.divInt_mul_divInt, Rat.num_divInt_den, Rat.num_divInt_den]
  rw [e]
  have hd : ((a.den : Int) * b.den) ≠ 0 := Int.mul_ne_zero (by omega) (by omega)
  have k := bd_divInt (n := a.num * b.num) hd
  refine ⟨Nat.le_trans k.1 ?_, Nat.le_trans k.2 ?_⟩
  · rw [Int.natAbs_mul]
    exact Nat.mul_le_mul h.1 h'.1
  · rw [Int.natAbs_mul]
    exact Nat.mul_le_mul h.2 h'.2
theorem bd_neg {a : Rat} {p q : Nat} (h : Bd a p q) : Bd (-a) p q := by
  unfold Bd
  rw [Rat.neg_num, Rat.neg_den, Int.natAbs_neg]
  exact h
theorem bd_sub {a b : Rat} {p q p' q' : Nat} (h : Bd a p q) (h' : Bd b p' q') : Bd (a - b) (p * q' + p' * q) (q * q') := by
  rw [Rat.sub_eq_add_neg]
  exact bd_add h (bd_neg h')
theorem q_div (a b : Rat) (h : b ≠ 0) : a / b = Rat.divInt (a.num * b.den) ((a.den : Int) * b.num) := by
  rw [Rat.div_def, ← Rat.num_divInt_den b, Rat.inv_divInt]
  conv => lhs; lhs; rw [← Rat.num_divInt_den a]
  rw [Rat.divInt_mul_divInt, Rat.num_divInt_den]
theorem bd_div {a b : Rat} {p q p' q' : Nat} (hb : b ≠ 0) (h : Bd a p q) (h' : Bd b p' q') : Bd (a / b) (p * q') (q * p') := by
  have ha := a.den_nz
  rw [q_div a b hb]
  have hn : b.num ≠ 0 := fun z => hb (Rat.num_eq_zero.mp z)
  have hd : ((a.den : Int) * b.num) ≠ 0 := Int.mul_ne_zero (by omega) hn
  have k := bd_divInt (n := a.num * b.den) hd
  refine ⟨Nat.le_trans k.1 ?_, Nat.le_trans k.2 ?_⟩
  · rw [Int.natAbs_mul]
    exact Nat.mul_le_mul h.1 h'.2
  · rw [Int.natAbs_mul]
    exact Nat.mul_le_mul h.2 h'.1
theorem Bd.le {a : Rat} {p q p' q' : Nat} (h : Bd a p q) (h1 : p ≤ p') (h2 : q ≤ q') : Bd a p' q' := ⟨Nat.le_trans h.1 h1, Nat.le_trans h.2 h2⟩
theorem Bd.fits {a : Rat} {p q : Nat} (h : Bd a p q) (h1 : p ≤ 1000000000000000000) (h2 : q ≤ 1000000000000000000) : fitsQ a := by
  have a1 := h.1
  have a2 := h.2
  unfold fitsQ lim
  omega
theorem q_add (a b : Rat) : a + b = Rat.divInt (a.num * b.den + b.num * a.den) ((a.den : Int) * b.den) := by
  have ha := a.den_nz
  have hb := b.den_nz
  rw [← Rat.divInt_add_divInt _ _ (by omega) (by omega), Rat.num_divInt_den, Rat.num_divInt_den]
theorem q_sub (a b : Rat) : a - b = Rat.divInt (a.num * b.den - b.num * a.den) ((a.den : Int) * b.den) := by
  have ha := a.den_nz
  have hb := b.den_nz
  rw [← Rat.divInt_sub_divInt _ _ (by omega) (by omega), Rat.num_divInt_den, Rat.num_divInt_den]
theorem q_mul (a b : Rat) : a * b = Rat.divInt (a.num * b.num) ((a.den : Int) * b.den) := by
  rw [← Rat.divInt_mul_divInt, Rat.num_divInt_den, Rat.num_divInt_den]
theorem q_dd (a b : Rat) : ((a.den : Int) * b.den) ≠ 0 := by
  have ha := a.den_nz
  have hb := b.den_nz
  exact Int.mul_ne_zero (by omega) (by omega)
end Z
namespace Z
open PySem PySem.Spec PyProof.Rows L2
theorem tyx_T {K : PySem.W.Frag} {H : Hp} {a : Addr} {xs : List V} (h : SqT K H a xs) : TyX K H (.ref a) (.type "tuple") := by
  rcases h with (h | ⟨o, h⟩) | ⟨o, its, n, h, c, _⟩
  · exact .base (.tup h)
  · exact .fTuple h
  · exact .kTuple h c
theorem z_isT {K : PySem.W.Frag} {H : Hp} {Q : VK} {p : Addr} {xs : List V} (h : SqT K H p xs) (q : Q (.bl true) H) : rIsi K [.ref p, .ty "tuple"] H Q := z_ty (tyx_T h) (by decide +kernel) q
end Z
namespace Z
open PySem PySem.Spec PyProof.Rows L2
/-- a tuple of the module's own -/
theorem dpk {K : PySem.W.Frag} {H : Hp} {a : Addr} {od : Option Addr} {its : List Value} {n : Nat} {sl : Array (Option Value)} {vs : List V} {ds : List PyData} (h : K.lookup a = some ⟨.type "tuple", od, .seq its.toArray n, sl⟩)
    (hs : its.length ≤ 1000) (r : Vals vs its) (d : DpAll K H vs ds) : Dp K H (.ref a) (.tuple ds) :=
  .tup (.inr ⟨_, its.toArray, n, h, rfl, rfl, by rw [List.size_toArray]; exact sz hs, by simpa using r⟩) d
/-- a tuple and a tuple -/
theorem z_catT {K : PySem.W.Frag} {H : Hp} {Q : VK} {p q : Addr} {xs ys : List V} (h1 : SqT K H p xs) (h2 : SqT K H q ys) (hx : xs ≠ []) (hl : xs.length + ys.length ≤ 1000) (hy : ys ≠ [])
    (k : ∀ p H', H p = none → Same H H' → H' p = some (.tup (xs ++ ys)) → Q (.ref p) H') : rCatT K (.ref p) (.ref q) H Q := by
  refine ⟨p, q, xs, ys, rfl, rfl, h1, h2, hx, sz hl, fun z => absurd z hy, fun _ a ha => k a _ ha (same_upd ha) upd_same⟩
end Z
namespace Z
open PySem PySem.Spec PyProof.Rows L2
def rTupOf (K : PySem.W.Frag) : List V → Hp → VK → Prop := fun xs H Q => ∃ p ys, xs = [.ref p] ∧ ((SqL K H p ys ∧ ∀ l, H l = none → Q (.ref l) (upd H l (.tup ys))) ∨ (SqT K H p ys ∧ Q (.ref p) H))
def rListOf (K : PySem.W.Frag) : List V → Hp → VK → Prop := fun xs H Q => ∃ p ys, xs = [.ref p] ∧ (SqL K H p ys ∨ SqT K H p ys) ∧ ∀ l, H l = none → Q (.ref l) (upd H l (.lst ys))
theorem c_tupOf {X : Cx} : CallR X (.type "tuple") (rTupOf X.K) := call_tuple_of
theorem c_listOf {X : Cx} : CallR X (.type "list") (rListOf X.K) := call_list_of
section
variable {K : PySem.W.Frag} {H : Hp} {Q : VK} {p : Addr} {xs : List V} {σ : L2.St}
theorem z_tupOf (h : SqL K H p xs) (q : ∀ a H', H a = none → Same H H' → H' a = some (.tup xs) → Q (.ref a) H') : rTupOf K [.ref p] H Q := ⟨p, xs, rfl, .inl ⟨h, fun l hl => q l _ hl (same_upd hl) upd_same⟩⟩
theorem z_tupOfT (h : SqT K H p xs) (q : Q (.ref p) H) : rTupOf K [.ref p] H Q := ⟨p, xs, rfl, .inr ⟨h, q⟩⟩
theorem z_listOf (h : SqL K H p xs) (q : ∀ a H', H a = none → Same H H' → H' a = some (.lst xs) → Q (.ref a) H') : rListOf K [.ref p] H Q := ⟨p, xs, rfl, .inl h, fun l hl => q l _ hl (same_upd hl) upd_same⟩
theorem z_listOfT (h : SqT K H p xs) (q : ∀ a H', H a = none → Same H H' → H' a = some (.lst xs) → Q (.ref a) H') : rListOf K [.ref p] H Q := ⟨p, xs, rfl, .inr h, fun l hl => q l _ hl (same_upd hl) upd_same⟩
theorem z_yes {QB : Bool → Hp → Prop} (q : QB true H) : tYes σ H QB := q
/-- [e for k in range(m)] -/
theorem z_lcR1 {ta : TA} {k : Nat} {te : TE} {vs : List Nat} (m : Nat) (hm : m ≤ 1000) (ha : ∀ R : List V → Hp → Prop, R [.int (m : Int)] H → ta σ H R) (hw : ∀ x, wipe ((wipe σ vs).set k (some x)) vs = wipe σ vs) (Pv : Nat → Addr → List V → Hp → Prop)
    (h0 : ∀ D H', H D = none → Same H H' → H' D = some (.lst []) → Pv 0 D [] H')
    (hs : ∀ i D acc H', i < m → acc.length = i → H' D = some (.lst acc) → Pv i D acc H' → te ((wipe σ vs).set k (some (.int (i : Int)))) H' fun y H4 => H4 D = some (.lst acc) ∧ Pv (i + 1) D (acc ++ [y]) (upd H4 D (.lst (acc ++ [y]))))
    (mono : ∀ σ' H' Q Q', (∀ y H4, Q y H4 → Q' y H4) → te σ' H' Q → te σ' H' Q')
    (hd : ∀ D acc H', acc.length = m → H' D = some (.lst acc) → Pv m D acc H' → Q (.ref D) H') : tLc (iRng1 ta) (gName k) tYes te vs σ H Q := by
  refine ha _ ⟨(m : Int), rfl, by omega, by omega, fun D hD => ?_⟩
  refine lc_range (lo := 0) (n := (m : Int).toNat) (fun i H' => ∃ acc, acc.length = i ∧ H' D = some (.lst acc) ∧ Pv i D acc H') ⟨[], rfl, upd_same, h0 D _ hD (same_upd hD) upd_same⟩ (fun i H' hi ⟨acc, hl, hH, p⟩ => ?_) (fun H' ⟨acc, hl, hH, p⟩ => hd D acc H' (by simpa using hl) hH (by simpa using p))
  have e : (0 : Int) + (i : Int) = (i : Int) := Int.zero_add _
  show wipe ((wipe σ vs).set k (some (.int ((0 : Int) + (i : Int))))) vs = wipe σ vs ∧ _
  refine ⟨hw _, ?_⟩
  refine z_yes ?_
  refine z_ifT ?_
  rw [e]
  have hi' : i < m := by simpa using hi
  exact mono _ _ _ _ (fun y H4 ⟨e1, e2⟩ => ⟨acc, e1, Nat.lt_of_lt_of_le (show acc.length < 1000 by omega) (by decide), acc ++ [y], by simp [hl], upd_same, e2⟩) (hs i D acc H' (by simpa using hi) hl hH p)
end
end Z
namespace Z
open PySem PySem.Spec PyProof.Rows L2
section
variable {K : PySem.W.Frag} {H : Hp} {Q : VK} {p : Addr} {xs : List V} {σ : L2.St} {i : Int} {RO : Option Int → Hp → Prop} {te : TE} {tl th : TO}
theorem z_sl {g : V → Option Int → Option Int → Hp → VK → Prop} (h : te σ H fun x H1 => tl σ H1 fun l H2 => th σ H2 fun u H3 => g x l u H3 Q) : tSl g te tl th σ H Q := h
theorem z_noPart (q : RO none H) : tNoPart σ H RO := q
theorem z_part (h : te σ H fun x H1 => ∃ i, x = .int i ∧ RO (some i) H1) : tPart te σ H RO := h
theorem z_partI (q : RO (some i) H) : ∃ i', V.int i = .int i' ∧ RO (some i') H := ⟨i, rfl, q⟩
theorem z_slL {lo hi : Option Int} {ys : List V} (h : SqL K H p xs) (e : cutV xs lo hi = ys) (q : ∀ a H', H a = none → Same H H' → H' a = some (.lst ys) → Q (.ref a) H') : rSlL K (.ref p) lo hi H Q := by
  subst e
  exact ⟨p, xs, rfl, h, fun a ha => q a _ ha (same_upd ha) upd_same⟩
end
end Z
namespace Z
open PySem PySem.Spec PyProof.Rows L2
theorem z_slT {K : PySem.W.Frag} {H : Hp} {Q : VK} {p : Addr} {xs ys : List V} {lo hi : Option Int} (h : SqT K H p xs) (hn : ¬ (HT.sIx xs.length 0 lo = 0 ∧ HT.sIx xs.length xs.length hi = xs.length)) (e : cutV xs lo hi = ys)
    (q : ∀ a H', H a = none → Same H H' → H' a = some (.tup ys) → Q (.ref a) H') : rSlT K (.ref p) lo hi H Q := by
  subst e
  exact ⟨p, xs, rfl, h, hn, fun a ha => q a _ ha (same_upd ha) upd_same⟩
theorem eqv_q (a b : Rat) : PyData.eqv (qD a) (qD b) = decide (a = b) := by
  show (a.num == b.num && ((a.den : Int) == (b.den : Int) && true)) = decide (a = b)
  by_cases h : a = b
  · subst h
    simp
  · rw [decide_eq_false h]
    by_cases h1 : a.num = b.num
    · have h2 : ¬ (a.den : Int) = b.den := fun z => h (Rat.ext h1 (by omega))
      simp [h2]
    · simp [h1]
theorem shaped_q (a : Rat) : SeqAt.shaped (qD a) = true := rfl
theorem z_eqQ {K : PySem.W.Frag} {x y : V} {a b : Rat} {H : Hp} {Q : VK} (h1 : Dp K H x (qD a)) (h2 : Dp K H y (qD b)) (q : Q (.bl (decide (a = b))) H) : rEqD K x y H Q := ⟨qD a, qD b, h1, h2, shaped_q a, shaped_q b, by rw [eqv_q]; exact q⟩
theorem z_neQ {K : PySem.W.Frag} {x y : V} {a b : Rat} {H : Hp} {Q : VK} (h1 : Dp K H x (qD a)) (h2 : Dp K H y (qD b)) (q : Q (.bl (decide (¬ a = b))) H) : rNeD K x y H Q := ⟨qD a, qD b, h1, h2, shaped_q a, shaped_q b, by
  rw [eqv_q, show (!decide (a = b)) = decide (¬ a = b) by simp]
  exact q⟩
theorem z_neSame {K : PySem.W.Frag} {x y : V} {d : PyData} {H : Hp} {Q : VK} (h1 : Dp K H x d) (h2 : Dp K H y d) (s : SeqAt.shaped d = true) (q : Q (.bl false) H) : rNeD K x y H Q :=
  ⟨d, d, h1, h2, s, s, by rw [SeqAt.eqv_refl d (SeqAt.canLay_of_shaped s)]; exact q⟩
end Z
namespace Z
open PySem PySem.Spec PyProof.Rows L2
def rIsN : R2 := fun x y H Q => y = .non ∧ Q (.bl (decide (x = .non))) H
def rNotN : R2 := fun x y H Q => y = .non ∧ Q (.bl (!decide (x = .non))) H
theorem op_isN1 {X : Cx} : OpR X (compareOp .Is) rIsN := op_isN
theorem op_notN1 {X : Cx} : OpR X (compareOp .IsNot) rNotN := op_notN
section
variable {σ : L2.St} {H : Hp} {n : L2.St → Hp → Prop} {r : VK} {b c : L2.St → Hp → Prop} {tb : TS} {K : PySem.W.Frag} {Q : VK} {p : Addr} {v y : V} {xs : List V}
theorem z_isNN (q : Q (.bl true) H) : rIsN .non .non H Q := ⟨rfl, by simpa using q⟩
theorem z_isNR (q : Q (.bl false) H) : rIsN (.ref p) .non H Q := ⟨rfl, by simpa using q⟩
theorem z_notNN (q : Q (.bl false) H) : rNotN .non .non H Q := ⟨rfl, by simpa using q⟩
theorem z_notNR (q : Q (.bl true) H) : rNotN (.ref p) .non H Q := ⟨rfl, by simpa using q⟩
theorem z_bmL {r : V → List V → Hp → VK → Prop} {to : TE} {t : TA} (ho : ∀ R : VK, R (.ref p) H → to σ H R) (hp : H p = some (.lst xs)) (h : t σ H fun vs H2 => r (.ref p) vs H2 Q) : tBM K "list" r to t σ H Q :=
  ho _ ⟨.inl ⟨rfl, _, .inl (.inl hp)⟩, h⟩
theorem z_append (hp : H p = some (.lst xs)) (hl : xs.length < 1000) (q : Q .non (upd H p (.lst (xs ++ [y])))) : rAppend (.ref p) [y] H Q := ⟨p, xs, y, rfl, rfl, hp, Nat.lt_of_lt_of_le hl (by decide), q⟩
/-- the list that a for goes over, made on the way -/
def ForL (K : PySem.W.Frag) (g : TG) (tb : TS) (n : L2.St → Hp → Prop) (r : VK) (b c : L2.St → Hp → Prop) (σ : L2.St) : VK := fun x H1 => tFor (iList K (tC x)) g tb ⟨n, r, b, c⟩ σ H1
theorem z_forE {tl : TE} {g : TG} (h : tl σ H (ForL K g tb n r b c σ)) : tFor (iList K tl) g tb ⟨n, r, b, c⟩ σ H := h
/-- [e for x in l], where e answers at once -/
theorem z_lcM {tl : TE} {k : Nat} {te : TE} {vs : List Nat} {a : Addr} {xs ws : List V} (hlen : ws.length = xs.length) (hm : xs.length ≤ 1000) (ha : ∀ R : VK, R (.ref a) H → tl σ H R) (hx : H a = some (.lst xs)) (hw : ∀ x, wipe ((wipe σ vs).set k (some x)) vs = wipe σ vs)
    (body : ∀ (i : Nat) (x w : V) (H' : Hp), xs[i]? = some x → ws[i]? = some w → Same H H' → ∀ R : VK, R w H' → te ((wipe σ vs).set k (some x)) H' R)
    (hd : ∀ D H', H D = none → Same H H' → H' D = some (.lst ws) → Q (.ref D) H') : tLc (iList K tl) (gName k) tYes te vs σ H Q := by
  refine ha _ ⟨a, rfl, ⟨xs, .inl (.inl hx)⟩, fun D hD => ?_⟩
  have hDa : a ≠ D := ne_of_none hx hD
  refine lc_list (xs := xs) (fun i H' => Same H H' ∧ H' D = some (.lst (ws.take i)) ∧ H' a = some (.lst xs)) ⟨same_upd hD, upd_same, by rw [upd_ne hDa]; exact hx⟩ (fun i H' _ h => .inl (.inl h.2.2)) (fun i x H' hi ⟨s, hH, h3⟩ => ?_) (fun H' ⟨s, hH, _⟩ => hd D H' hD s (by rw [hH, ← hlen, List.take_length]))
  show wipe ((wipe σ vs).set k (some x)) vs = wipe σ vs ∧ _
  refine ⟨hw _, ?_⟩
  refine z_yes ?_
  refine z_ifT ?_
  have hi' : i < xs.length := by
    rcases Nat.lt_or_ge i xs.length with h | h
    · exact h
    · rw [List.getElem?_eq_none h] at hi
      cases hi
  have hiw : i < ws.length := by omega
  have hw' : ws[i]? = some ws[i] := List.getElem?_eq_getElem hiw
  refine body i x _ H' hi hw' s _ ?_
  refine ⟨_, hH, Nat.lt_of_lt_of_le (show (ws.take i).length < 1000 by rw [List.length_take]; omega) (by decide), fun q x' e => ?_, ?_, ?_⟩
  · have hq : q ≠ D := ne_of_none e hD
    rw [upd_ne hq]
    exact s _ _ e
  · rw [upd_same, List.take_add_one, hw']
    rfl
  · rw [upd_ne hDa]
    exact h3
end
/-! ### numbers over a common denominator -/
def Zb (r : Rat) (N M : Nat) : Prop := ∃ k : Int, r * (N : Rat) = (k : Rat) ∧ k.natAbs ≤ M
theorem zb_add {a b : Rat} {N M M' : Nat} (h : Zb a N M) (h' : Zb b N M') : Zb (a + b) N (M + M') := by
  obtain ⟨k, e, l⟩ := h
  obtain ⟨k', e', l'⟩ := h'
  exact ⟨k + k', by rw [Rat.add_mul, e, e', Rat.intCast_add], by omega⟩
theorem zb_neg {a : Rat} {N M : Nat} (h : Zb a N M) : Zb (-a) N M := by
  obtain ⟨k, e, l⟩ := h
  exact ⟨-k, by rw [Rat.neg_mul, e, Rat.intCast_neg], by omega⟩
theorem zb_sub {a b : Rat} {N M M' : Nat} (h : Zb a N M) (h' : Zb b N M') : Zb (a - b) N (M + M') := by
  rw [Rat.sub_eq_add_neg]
  exact zb_add h (zb_neg h')
theorem zb_mul {a b : Rat} {N N' M M' : Nat} (h : Zb a N M) (h' : Zb b N' M') : Zb (a * b) (N * N') (M * M') := by
  obtain ⟨k, e, l⟩ := h
  obtain ⟨k', e', l'⟩ := h'
  refine ⟨k * k', ?_, by rw [Int.natAbs_mul]; exact Nat.mul_le_mul l l'⟩
  rw [Rat.natCast_mul, Rat.intCast_mul, ← e, ← e']
  grind
theorem zb_up {a : Rat} {N M : Nat} (c : Nat) (h : Zb a N M) : Zb a (N * c) (M * c) := by
  obtain ⟨k, e, l⟩ := h
  refine ⟨k * (c : Int), ?_, by rw [Int.natAbs_mul]; exact Nat.mul_le_mul l (by omega)⟩
  rw [Rat.natCast_mul, Rat.intCast_mul, ← e, Rat.intCast_natCast]
  grind
theorem Zb.le {a : Rat} {N M M' : Nat} (h : Zb a N M) (l : M ≤ M') : Zb a N M' := by
  obtain ⟨k, e, l'⟩ := h
  exact ⟨k, e, Nat.le_trans l' l⟩
theorem Zb.bd {a : Rat} {N M : Nat} (h : Zb a N M) (h0 : N ≠ 0) : Bd a M N := by
  obtain ⟨k, e, l⟩ := h
  have hN : (N : Rat) ≠ 0 := fun z => h0 (by exact_mod_cast z)
  have e2 : a = Rat.divInt k (N : Int) := by
    rw [Rat.divInt_eq_div, ← e, Rat.intCast_natCast]
    grind
  rw [e2]
  exact (bd_divInt (by omega)).le l (by omega)
theorem zb_divInt {n d : Int} {N M c : Nat} (hd : d ≠ 0) (hN : (N : Int) = d * (c : Int)) (hl : n.natAbs * c ≤ M) : Zb (Rat.divInt n d) N M := by
  refine ⟨n * (c : Int), ?_, by rw [Int.natAbs_mul]; exact hl⟩
  have hd' : (d : Rat) ≠ 0 := fun z => hd (by exact_mod_cast z)
  have e : (N : Rat) = (d : Rat) * (c : Rat) := by
    rw [← Rat.intCast_natCast N, hN, Rat.intCast_mul, Rat.intCast_natCast]
  rw [Rat.divInt_eq_div, e, Rat.intCast_mul, Rat.intCast_natCast]
  grind
theorem zb_of {r : Rat} {p q N M : Nat} (h : Bd r p q) (hN : ∀ d, d ≤ q → d ≠ 0 → d ∣ N) (hl : p * N ≤ M) : Zb r N M := by
  obtain ⟨c, hc⟩ := hN r.den h.2 r.den_nz
  have hd := r.den_nz
  have e := zb_divInt (n := r.num) (d := (r.den : Int)) (N := N) (M := M) (c := c) (by omega) (by exact_mod_cast hc) (Nat.le_trans (Nat.mul_le_mul h.1 (show c ≤ N by rw [hc]; exact Nat.le_mul_of_pos_left _ (by omega))) hl)
  rwa [Rat.num_divInt_den] at e
end Z

namespace Z
open PySem PySem.Spec PyProof.Rows L2
def RevQ (K : PySem.W.Frag) (Q : VK) : VK := fun x H1 => ∃ a xs, x = .ref a ∧ SqL K H1 a xs ∧ ∀ p, H1 p = none → Q (.ref p) (upd H1 p (.lst xs.reverse))
section
variable {K : PySem.W.Frag} {H : Hp} {Q : VK} {p q : Addr} {xs ys : List V} {y : V} {σ : L2.St}
theorem z_revL {te : TE} (h : te σ H (RevQ K Q)) : tRevL K te σ H Q := h
theorem z_revE (h : SqL K H p xs) (k : ∀ a H', H a = none → Same H H' → H' a = some (.lst xs.reverse) → Q (.ref a) H') : RevQ K Q (.ref p) H :=
  ⟨p, xs, rfl, h, fun l hl => k l _ hl (same_upd hl) upd_same⟩
theorem z_pop (hp : H p = some (.lst (xs ++ [y]))) (k : Q y (upd H p (.lst xs))) : rPop (.ref p) [] H Q :=
  ⟨p, xs ++ [y], y, rfl, rfl, hp, by simp, by simpa using k⟩
theorem z_cat (h1 : H p = some (.lst xs)) (h2 : H q = some (.lst ys)) (hl : xs.length + ys.length ≤ 1000) (k : ∀ a H', H a = none → Same H H' → H' a = some (.lst (xs ++ ys)) → Q (.ref a) H') : rCat (.ref p) (.ref q) H Q :=
  ⟨p, q, xs, ys, rfl, rfl, h1, h2, sz hl, fun a ha => k a _ ha (same_upd ha) upd_same⟩
theorem z_extend (h1 : H p = some (.lst xs)) (h2 : H q = some (.lst ys)) (hl : xs.length + ys.length ≤ 1000) (k : Q .non (upd H p (.lst (xs ++ ys)))) : rExtend (.ref p) [.ref q] H Q :=
  ⟨p, q, xs, ys, rfl, rfl, h1, h2, sz hl, k⟩
theorem z_bm0L {r : V → List V → Hp → VK → Prop} {to : TE} (ho : ∀ R : VK, R (.ref p) H → to σ H R) (hp : H p = some (.lst xs)) (h : r (.ref p) [] H Q) : tBM0 K "list" r to σ H Q :=
  ho _ ⟨.inl ⟨rfl, _, .inl (.inl hp)⟩, h⟩
end
end Z

/-! set comprehensions, whatever the members are: `r` says what set.add asks, `fr` what the empty set is -/
namespace Sc
open PySem PySem.Spec PyProof.Rows L2 PpSet
abbrev AddR := V → List V → Hp → VK → Prop
/-- one turn's end: the member is added, or left out -/
def Keep (r : AddR) (D : Addr) (te : TE) (Nx : Hp → Prop) (σ2 : L2.St) (b : Bool) (H3 : Hp) : Prop := if b = true then te σ2 H3 fun y H4 => r (.ref D) [y] H4 fun _ H5 => Nx H5 else Nx H3
def tSet (r : AddR) (fr : Addr → HO) (wi : TI) (g : TG) (tt : TT) (te : TE) (vs : List Nat) : TE := fun σ H Q => wi σ H fun J H1 => ∀ D, H1 D = none → ∃ W : Nat → Nat → Hp → Prop,
  (∃ m, W 0 m (upd H1 D (fr D))) ∧ ∀ i m H, W i m H → (J.stop i H ∧ Q (.ref D) H) ∨ (J.go i H ∧ ∃ Nx : Hp → Prop, (∀ H', Nx H' → ∃ m', m' < m ∧ W (i + 1) m' H') ∧
    ∀ x H', J.yld i H x H' → g x (wipe σ vs) H' fun σ2 H2 => wipe σ2 vs = wipe σ vs ∧ tt σ2 H2 (Keep r D te Nx σ2))
abbrev freshSet (w : World) : Obj := { cls := .type "set", dict := none, data := .set #[] 0 (.fresh 0 0 (!w.params.followText "set-order")) }
section
variable {X : Cx}
theorem run_set {pins : List (Addr × Obj)} {s : Shared} {σ : L2.St} {H : Hp} {Q : VK} {r : AddR} {fr : Addr → HO} {elt tg iter : Expr} {ifs : List Expr} {scope : Scope} {own : List (PySem.Str × Nat)} {pos pos' : Pos} {wi : TI} {g : TG} {tt : TT} {te : TE} {use : Option (Value → Sem Unit)} {Qf : Value → Shared → Prop}
    (hfr : ∀ (H : Hp) (h : Heap) (a : Addr), a = h.objs.size → ObjOk X.prog X.w H (h.push (freshSet X.w)) a (fr a))
    (hr : ∀ (s : Shared) (H : Hp) (e : Env) (fp : List Addr), MtR (X.blk s H scope e fp) "set.add" r)
    (hc : X.calm = true) (hN : X.N.Nodup) (I : Inv X pins σ H s) (hi : PI X tg iter wi) (ok : BlkOk X.N X.env.scope scope own)
    (hg : ∀ (s : Shared) (H : Hp) (C : Addr) (cl : List (PySem.Str × Addr)) (fp : List Addr), PG (X.blk s H scope (compEnvC scope cl C X.env) fp) tg g)
    (ht : ∀ (s : Shared) (H : Hp) (C : Addr) (cl : List (PySem.Str × Addr)) (fp : List Addr), PTs (X.blk s H scope (compEnvC scope cl C X.env) fp) ifs tt)
    (he : ∀ (s : Shared) (H : Hp) (C : Addr) (cl : List (PySem.Str × Addr)) (fp : List Addr), PE (X.blk s H scope (compEnvC scope cl C X.env) fp) elt te)
    (hs : ∀ x, foldedSetIterable iter X.env x = pure x) (h : tSet r fr wi g tt te (own.map (·.2)) σ H Q)
    (hend : ∀ D C s' m H', Inv X pins σ H' s' → Q (.ref D) H' → s'.heap.Ns C m → FpOk X pins H' C → compPost (model X.prog X.w) X.A X.xe use Qf (.ref D) C (.ok .next) s') :
    wpAny (model X.prog X.w) X.A (comprehension (.SetComp elt [⟨tg, iter, ifs, 0⟩] scope pos) scope X.env pos' (newSet (.type "set")) false (eval iter X.env) use) Qf X.xe s := by
  have free0 : ∀ y ∈ scope.names, y.2 = .free → ∃ c, X.env.cells.lookup y.1 = some c := fun y hy e => (ok.free y hy e).elim (fun k => I.ok.has _ (.inl k)) fun k => I.ok.has _ (.inr k)
  refine wpAny_comprehension_free (use := use) rfl hs (closure_ok free0) ok.kind (fun y hy e => by rw [ok.uniq y hy, e]) ?_
  refine thn (hi.run pins s σ H _ I h) fun xv s1 hx => thn hx fun itv s2 h2 => ?_
  obtain ⟨it, fp, tn, J, H2, e, I2, T, st2, f2, q⟩ := h2
  subst e
  refine newSet_ok (newEnv_comp ?_)
  have hDn : H2 s2.heap.objs.size = none := I2.hok.fresh (Nat.le_refl _)
  obtain ⟨W, ⟨m0, w0⟩, turn⟩ := q _ hDn
  generalize hs3 : ({ s2 with heap := s2.heap.push (freshSet X.w) } : Shared) = s3
  have h3 : s3.heap = s2.heap.push (freshSet X.w) := by rw [← hs3]
  have I3 : Inv X pins σ (upd H2 s2.heap.objs.size (fr s2.heap.objs.size)) s3 := by
    rw [← hs3]
    exact I2.laid (t' := s2.toks) (fun b o e => Heap.get?_push_of_some _ e) (Nat.le_refl _) (hfr _ _ _ rfl)
  generalize hD : s2.heap.objs.size = D at *
  have old : ∀ b ∈ fp, b < D := fun b hb => by
    obtain ⟨o, e, _⟩ := T.obj _ _ st2 b hb
    rw [← hD]
    exact Heap.lt_size e
  have f3 : ∀ b ∈ fp, FpOk X pins (upd H2 D (fr D)) b ∧ b < s3.heap.objs.size := fun b hb => by
    have l := old b hb
    refine ⟨⟨?_, (f2 b hb).2⟩, ?_⟩
    · rw [upd_ne (Nat.ne_of_lt l)]
      exact (f2 b hb).1
    · rw [h3, Heap.size_push, hD]
      exact Nat.lt_succ_of_lt l
  have st3 : tn 0 s3.heap := T.keep _ _ _ st2 fun b _ o e => by
    rw [h3]
    exact Heap.get?_push_of_some _ e
  have I4 := block_start I3 ok hN f3
  generalize hH3 : upd H2 D (fr D) = H3 at I3 I4 w0 f3
  have pg := hg s3 H3 s3.heap.objs.size (cellsFrom (s3.heap.objs.size + 1) scope.names (cloFrom X.env.cells scope.names [])) fp
  have pt := ht s3 H3 s3.heap.objs.size (cellsFrom (s3.heap.objs.size + 1) scope.names (cloFrom X.env.cells scope.names [])) fp
  have pe := he s3 H3 s3.heap.objs.size (cellsFrom (s3.heap.objs.size + 1) scope.names (cloFrom X.env.cells scope.names [])) fp
  show codeAny _ _ (.compStart (.SetComp elt [⟨tg, iter, ifs, 0⟩] scope pos) 0 (.ref it) (.ref D) (compEnvC scope (cellsFrom (s3.heap.objs.size + 1) scope.names (cloFrom X.env.cells scope.names [])) s3.heap.objs.size X.env)) (compPost (model X.prog X.w) X.A X.xe use Qf (.ref D) s3.heap.objs.size) { s3 with heap := pushCells (s3.heap.push { cls := .type "dict", data := .dict #[] }) scope.names }
  generalize hce : compEnvC scope (cellsFrom (s3.heap.objs.size + 1) scope.names (cloFrom X.env.cells scope.names [])) s3.heap.objs.size X.env = ce at I4 pg pt pe ⊢
  have cL : ce.locals = s3.heap.objs.size := by rw [← hce] <;> rfl
  have ad := hr s3 H3 ce fp
  have nfp : ∀ b ∈ fp, H3 b = none := fun b hb => (f3 b hb).1.1
  generalize hs4 : ({ s3 with heap := pushCells (s3.heap.push { cls := .type "dict", data := .dict #[] }) scope.names } : Shared) = s4 at I4 ⊢
  have st4 : tn 0 s4.heap := T.keep _ _ _ st3 fun b _ o e => by
    rw [← hs4]
    exact pushCells_keeps _ _ _ _ (Heap.get?_push_of_some _ e)
  have stat : ∀ {σ' : L2.St} {H' : Hp} {s' : Shared}, Inv (X.blk s3 H3 scope ce fp) [] σ' H' s' → (∀ b ∈ fp, H' b = none) → ∀ b ∈ fp, FpOk (X.blk s3 H3 scope ce fp) [] H' b := fun I' hn b hb =>
    ⟨hn b hb, (I'.ok.exf b hb).1, I'.ok.exfs b hb, .inl hb, fun x c e => (I'.ok.exf b hb).2 x c e, fun p hp => nomatch (show p ∈ ([] : List (Addr × Obj)) from hp)⟩
  have loop : codeAny (model X.prog X.w) X.A (.compLoop (.SetComp elt [⟨tg, iter, ifs, 0⟩] scope pos) 0 (.ref it) (.ref D) ce) (compPost (model X.prog X.w) X.A X.xe use Qf (.ref D) s3.heap.objs.size) s4 := by
    refine compLoopS_any (fun n s' => ∃ i H', Inv (X.blk s3 H3 scope ce fp) [] (wipe σ (own.map (·.2))) H' s' ∧ tn i s'.heap ∧ (∀ b ∈ fp, H' b = none) ∧ W i n H') ?_ m0 ⟨0, H3, I4, st4, nfp, w0⟩
    rintro n s5 ⟨i, H5, I5, st5, n5, w5⟩
    rcases turn i n H5 w5 with ⟨stop, qq⟩ | ⟨go, Nx, hNx, step⟩
    · refine thnF (T.done (X.blk s3 H3 scope ce fp) rfl rfl rfl hc i [] s5 _ H5 (fun _ _ => False) I5 (stat I5 n5) st5 stop) fun r6 s6 ⟨hr6, I6⟩ => ?_
      subst hr6
      have I7 : Inv X pins σ H5 s6 := I3.call' (ch := fp) I6.os I6.base I6.hok I6.bare fun b hb => by
        obtain ⟨⟨_, a2, _, a4, a5, a6⟩, _⟩ := f3 b hb
        exact ⟨a4, a2, a5, a6⟩
      obtain ⟨m, hn, _⟩ := I6.loc
      have nC : H5 ce.locals = none := I6.free
      have hn : s6.heap.Ns ce.locals m := hn
      rw [cL] at hn nC
      exact hend D _ s6 m H5 I7 qq hn (I3.fpOk (Nat.le_refl _) nC)
    · refine thnF (T.item (X.blk s3 H3 scope ce fp) rfl rfl rfl hc i [] s5 _ H5 (fun _ _ => False) I5 (stat I5 n5) st5 go) fun r6 s6 ⟨u, hr6, h6⟩ => ?_
      subst hr6
      refine thnF h6 fun _ s7 ⟨x, H7, I7, r7, y7, st7, n7⟩ => ?_
      refine thnF (pg.run _ s7 _ H7 x u _ (I7.pinned (stat I7 n7) (T.obj _ _ st7)) r7 (step x H7 y7)) fun _ s8 ⟨σ8, H8, I8, hw8, q8⟩ => ?_
      refine thnF (pt.run _ s8 σ8 H8 _ I8 q8) fun b s9 ⟨H9, I9, q9⟩ => ?_
      have fin : ∀ {s' : Shared} {H' : Hp}, Inv (X.blk s3 H3 scope ce fp) ([] ++ pinsAt fp s7.heap) σ8 H' s' → Nx H' → ∃ m, m < n ∧ ∃ i H', Inv (X.blk s3 H3 scope ce fp) [] (wipe σ (own.map (·.2))) H' s' ∧ tn i s'.heap ∧ (∀ b ∈ fp, H' b = none) ∧ W i m H' := fun {s' H'} I' nx => by
        obtain ⟨m', hm, w'⟩ := hNx H' nx
        have keep : ∀ b ∈ fp, ∀ o, s7.heap.get? b = some o → s'.heap.get? b = some o ∧ H' b = none := fun b hb o e => by
          have z := I'.pin (b, o) (List.mem_append_right _ (List.mem_append_right _ (mem_pinsAt hb e)))
          exact ⟨z.1, z.2.1⟩
        refine ⟨m', hm, i + 1, H', (I'.unpinned (pins := [])).weak (by rw [← hw8, wipe_length]) (fun j v e => ?_), T.keep _ _ _ st7 fun b hb o e => (keep b hb o e).1, fun b hb => ?_, w'⟩
        · rw [← hw8] at e
          exact (wipe_some e).1
        · obtain ⟨o, e, _⟩ := T.obj _ _ st7 b hb
          exact (keep b hb o e).2
      have q9 : Keep r D te Nx σ8 b H9 := q9
      unfold Keep at q9
      cases b with
      | false =>
        rw [if_neg (by decide)] at q9
        exact fin I9 q9
      | true =>
        rw [if_pos rfl] at q9
        refine thnF (pe.run _ s9 σ8 H9 _ I9 q9) fun z s10 ⟨yv, H10, I10, r10, q10⟩ => ?_
        refine thnF (ad _ s10 σ8 H10 (.ref D) [yv] (.ref D) [z] _ I10 rfl (.cons r10 .nil) q10) fun _ s11 ⟨_, H11, I11, _, q11⟩ => fin I11 q11
  exact codeAny_compStart_set loop (T.self X.A 0 _ _ _ st4 loop)
theorem pe_set {r : AddR} {fr : Addr → HO} {elt tg iter : Expr} {ifs : List Expr} {scope : Scope} {own : List (PySem.Str × Nat)} {pos : Pos} {wi : TI} {g : TG} {tt : TT} {te : TE}
    (hfr : ∀ (H : Hp) (h : Heap) (a : Addr), a = h.objs.size → ObjOk X.prog X.w H (h.push (freshSet X.w)) a (fr a)) (hr : ∀ (s : Shared) (H : Hp) (e : Env) (fp : List Addr), MtR (X.blk s H scope e fp) "set.add" r)
    (hc : X.calm = true) (hN : X.N.Nodup) (hi : PI X tg iter wi) (ok : BlkOk X.N X.env.scope scope own)
    (hg : ∀ (s : Shared) (H : Hp) (C : Addr) (cl : List (PySem.Str × Addr)) (fp : List Addr), PG (X.blk s H scope (compEnvC scope cl C X.env) fp) tg g)
    (ht : ∀ (s : Shared) (H : Hp) (C : Addr) (cl : List (PySem.Str × Addr)) (fp : List Addr), PTs (X.blk s H scope (compEnvC scope cl C X.env) fp) ifs tt)
    (he : ∀ (s : Shared) (H : Hp) (C : Addr) (cl : List (PySem.Str × Addr)) (fp : List Addr), PE (X.blk s H scope (compEnvC scope cl C X.env) fp) elt te)
    (hs : ∀ x, foldedSetIterable iter X.env x = pure x := by intro _; rfl) : PE X (.SetComp elt [⟨tg, iter, ifs, 0⟩] scope pos) (tSet r fr wi g tt te (own.map (·.2))) := by
  constructor
  intro pins s σ H Q I h
  rw [eval_SetComp]
  refine run_set hfr hr hc hN I hi ok hg ht he hs h fun D C s' m H' I' q hn ⟨f0, f1, f2, f3, f4, f5⟩ => ⟨m, hn, fun h'' sb => ?_⟩
  exact ⟨.ref D, H', I'.turned (t' := s'.toks) (fun b o hb e => (sb.2 b hb).trans e) f0 f1 f3 f4 f5, rfl, q⟩
/-- sets of whole numbers -/
def frI (w : World) : Addr → HO := fun a => SetO w a (fun _ => false) 0
theorem pe_setI {elt tg iter : Expr} {ifs : List Expr} {scope : Scope} {own : List (PySem.Str × Nat)} {pos : Pos} {wi : TI} {g : TG} {tt : TT} {te : TE}
    (hc : X.calm = true) (hN : X.N.Nodup) (hi : PI X tg iter wi) (ok : BlkOk X.N X.env.scope scope own)
    (hg : ∀ (s : Shared) (H : Hp) (C : Addr) (cl : List (PySem.Str × Addr)) (fp : List Addr), PG (X.blk s H scope (compEnvC scope cl C X.env) fp) tg g)
    (ht : ∀ (s : Shared) (H : Hp) (C : Addr) (cl : List (PySem.Str × Addr)) (fp : List Addr), PTs (X.blk s H scope (compEnvC scope cl C X.env) fp) ifs tt)
    (he : ∀ (s : Shared) (H : Hp) (C : Addr) (cl : List (PySem.Str × Addr)) (fp : List Addr), PE (X.blk s H scope (compEnvC scope cl C X.env) fp) elt te)
    (hs : ∀ x, foldedSetIterable iter X.env x = pure x := by intro _; rfl) : PE X (.SetComp elt [⟨tg, iter, ifs, 0⟩] scope pos) (tSet (rSAdd X.w) (frI X.w) wi g tt te (own.map (·.2))) :=
  pe_set (fun H h a e => by subst e; exact setO_new (setR_fresh X.w)) (fun s H e fp => mt_sadd) hc hN hi ok hg ht he hs
end
/-! ### readings: the set of the numbers of a list that a test lets in -/
open Z
def tSetE (r : AddR) (fr : Addr → HO) (K : PySem.W.Frag) (g : TG) (tt : TT) (te : TE) (vs : List Nat) (σ : L2.St) (Q : VK) : VK := fun x H1 => tSet r fr (iList K (tC x)) g tt te vs σ H1 Q
section
variable {K : PySem.W.Frag} {H : Hp} {Q : VK} {σ : L2.St} {r : AddR} {fr : Addr → HO} {w : World}
theorem z_setE {tl : TE} {g : TG} {tt : TT} {te : TE} {vs : List Nat} (h : tl σ H (tSetE r fr K g tt te vs σ Q)) : tSet r fr (iList K tl) g tt te vs σ H Q := h
/-- the ints of ns that p lets in -/
def inI (p : Int → Bool) (ns : List Int) (S : Int → Bool) : Prop := ∀ k, S k = true ↔ k ∈ ns ∧ p k = true
theorem z_setI {k : Nat} {tt : TT} {vs : List Nat} {a : Addr} {ns : List Int} {te : TE} (p : Int → Bool) (hl : ns.length ≤ 1000) (hx : H a = some (.lst (ns.map V.int)))
    (hw : ∀ x, wipe ((wipe σ vs).set k (some x)) vs = wipe σ vs)
    (ht : ∀ (x : Int) (H' : Hp) (R : Bool → Hp → Prop), x ∈ ns → R (p x) H' → tt ((wipe σ vs).set k (some (.int x))) H' R)
    (he : ∀ (x : Int) (H' : Hp) (R : VK), x ∈ ns → R (.int x) H' → te ((wipe σ vs).set k (some (.int x))) H' R)
    (q : ∀ D H' S n, H D = none → Same H H' → H' D = some (SetO w D S n) → inI p ns S → n ≤ ns.length → Q (.ref D) H') :
    tSetE (rSAdd w) (frI w) K (gName k) tt te vs σ Q (.ref a) H := by
  refine ⟨a, rfl, ⟨_, .inl (.inl hx)⟩, fun D hD => ?_⟩
  have hDa : a ≠ D := ne_of_none hx hD
  let Pv : Nat → Hp → Prop := fun i H' => Same H H' ∧ ∃ S n, H' D = some (SetO w D S n) ∧ inI p (ns.take i) S ∧ n ≤ i
  refine ⟨fun i m H' => m = ns.length - i ∧ i ≤ ns.length ∧ Pv i H', ⟨ns.length, by simp, Nat.zero_le _, same_upd hD, _, 0, upd_same, fun k => by simp, Nat.le_refl _⟩, ?_⟩
  rintro i m H' ⟨rfl, hi, sm, S, n, hS, hin, hn⟩
  have ha := sm _ _ hx
  by_cases hlt : i < ns.length
  · refine .inr ⟨⟨_, .int ns[i], .inl (.inl ha), by simp [hlt]⟩, Pv (i + 1), fun H2 p2 => ⟨ns.length - (i + 1), by omega, rfl, hlt, p2⟩, fun x H2 y => ?_⟩
    obtain ⟨e, y⟩ := y
    subst e
    have e := y _ (.inl (.inl ha))
    have ex : x = .int ns[i] := by
      have e2 : (ns.map V.int)[i]? = some (.int ns[i]) := by simp [hlt]
      rw [e2] at e
      exact (Option.some.inj e).symm
    subst ex
    refine ⟨hw _, ht _ _ _ (List.getElem_mem hlt) ?_⟩
    have tk : ns.take (i + 1) = ns.take i ++ [ns[i]] := by rw [List.take_add_one, List.getElem?_eq_getElem hlt] <;> rfl
    unfold Keep
    by_cases c : p ns[i] = true
    · rw [if_pos c]
      refine he _ _ _ (List.getElem_mem hlt) ?_
      refine ⟨D, ns[i], S, n, rfl, rfl, hS, Nat.lt_of_le_of_lt (show n + 1 ≤ 1001 by omega) (by decide), ?_, _, _, upd_same, ?_, ?_⟩
      · exact fun b o e => by
          rw [upd_ne (ne_of_none e hD)]
          exact sm _ _ e
      · intro k
        rw [tk, List.mem_append, List.mem_singleton, Bool.or_eq_true, hin k, decide_eq_true_eq]
        constructor
        · rintro (⟨z1, z2⟩ | rfl)
          · exact ⟨.inl z1, z2⟩
          · exact ⟨.inr rfl, c⟩
        · rintro ⟨z1 | rfl, z2⟩
          · exact .inl ⟨z1, z2⟩
          · exact .inr rfl
      · split <;> omega
    · rw [if_neg c]
      refine ⟨sm, S, n, hS, fun k => ?_, by omega⟩
      rw [tk, List.mem_append, List.mem_singleton, hin k]
      constructor
      · rintro ⟨z1, z2⟩
        exact ⟨.inl z1, z2⟩
      · rintro ⟨z1 | rfl, z2⟩
        · exact ⟨z1, z2⟩
        · exact absurd z2 c
  · have e : i = ns.length := by omega
    subst e
    refine .inl ⟨⟨_, .inl (.inl ha), by simp⟩, q D H' S n hD sm hS (by rwa [List.take_length] at hin) hn⟩
/-- sorted(set of ints) -/
theorem z_sortedSet {a : Addr} {S : Int → Bool} {n : Nat} (h : H a = some (SetO w a S n)) (hn : n < 64) (q : ∀ (ns : List Int) (p : Addr) (H' : Hp), ns.Pairwise (· < ·) → (∀ k, k ∈ ns ↔ S k = true) → ns.length = n → H p = none → Same H H' → H' p = some (.lst (ns.map V.int)) → Q (.ref p) H') :
    rSortedSet w [.ref a] H Q := ⟨a, S, n, rfl, h, hn, fun ns p h1 h2 h3 hp => q ns p _ h1 h2 h3 hp (same_upd hp) upd_same⟩
end
end Sc

namespace Z
open PySem PySem.Spec PyProof.Rows L2
def rMax2 : List V → Hp → VK → Prop := fun xs H Q => ∃ i j, xs = [.int i, .int j] ∧ Q (.int (if j > i then j else i)) H
def rMin2 : List V → Hp → VK → Prop := fun xs H Q => ∃ i j, xs = [.int i, .int j] ∧ Q (.int (if j < i then j else i)) H
theorem c_max2 {X : Cx} (hc : X.calm = true) : CallR X (.builtin "max") rMax2 := call_max2 hc
theorem c_min2 {X : Cx} (hc : X.calm = true) : CallR X (.builtin "min") rMin2 := call_min2 hc
def rDivmod : List V → Hp → VK → Prop := fun xs H Q => ∃ i j, xs = [.int i, .int j] ∧ CDiv i j ∧ ∀ p, H p = none → Q (.ref p) (upd H p (.tup [.int (i / j), .int (i % j)]))
theorem c_divmod {X : Cx} : CallR X (.builtin "divmod") rDivmod := call_divmod
def TruQ (K : PySem.W.Frag) (QB : Bool → Hp → Prop) : VK := fun x H' => ∃ k, TruV K x H' k ∧ QB k H'
def tTru (K : PySem.W.Frag) (te : TE) : TT := fun σ H QB => te σ H (TruQ K QB)
theorem pt_tru {X : Cx} {a : Expr} {ta : TE} (ha : PE X a ta) (he : ∀ whole, isTrue a X.env whole = (do let v ← whole; standAt a.pos; holding [v] (truthy v))) : PT X a (tTru X.K ta) := pt_truth ha he
section
variable {K : PySem.W.Frag} {σ : L2.St} {H : Hp} {Q : VK} {QB : Bool → Hp → Prop} {i j : Int} {v x y : V} {p q l : Addr} {xs ys : List V} {te : TE}
theorem z_max2 (h : Q (.int (if j > i then j else i)) H) : rMax2 [.int i, .int j] H Q := ⟨i, j, rfl, h⟩
theorem z_min2 (h : Q (.int (if j < i then j else i)) H) : rMin2 [.int i, .int j] H Q := ⟨i, j, rfl, h⟩
theorem z_divmod (c : 0 < j ∧ j < 1073741824) (h : ∀ p H', H p = none → Same H H' → H' p = some (.tup [.int (i / j), .int (i % j)]) → Q (.ref p) H') : rDivmod [.int i, .int j] H Q :=
  ⟨i, j, rfl, c, fun a ha => h a _ ha (same_upd ha) upd_same⟩
theorem z_tru (h : te σ H (TruQ K QB)) : tTru K te σ H QB := h
/-- a test whose answer is known -/
theorem z_known {tt : TT} (k : Bool) (h : ∀ R : Bool → Hp → Prop, R k H → tt σ H R) (q : QB k H) : tt σ H QB := h QB q
/-- a test that is known to fail -/
theorem z_skip {n : L2.St → Hp → Prop} {r : VK} {b c : L2.St → Hp → Prop} {tt : TT} {t : TS} (h : ∀ R : Bool → Hp → Prop, R false H → tt σ H R) (q : n σ H) : tIfS tt t tNext ⟨n, r, b, c⟩ σ H := by
  refine h _ ?_
  rw [if_neg (by decide)]
  exact q
theorem z_truL (h : H p = some (.lst xs)) (q : QB (!xs.isEmpty) H) : TruQ K QB (.ref p) H := ⟨_, .inl ⟨xs, .inl (.inl h), rfl⟩, q⟩
theorem z_truT (h : SqT K H p xs) (q : QB (!xs.isEmpty) H) : TruQ K QB (.ref p) H := ⟨_, .inr (.inl ⟨xs, h, rfl⟩), q⟩
theorem z_truI (q : QB (i != 0) H) : TruQ K QB (.int i) H := ⟨_, rfl, q⟩
theorem rep_one (v : V) : ∀ m : Nat, (List.replicate m [v]).flatten = List.replicate m v
  | 0 => rfl
  | m + 1 => by
    rw [List.replicate_succ, List.flatten_cons, rep_one v m, List.replicate_succ]
    rfl
theorem z_rep (m : Nat) (h : H l = some (.lst [v])) (hj : j = (m : Int)) (hm : m ≤ 1000) (q : ∀ a H', H a = none → Same H H' → H' a = some (.lst (List.replicate m v)) → Q (.ref a) H') : rRep (.ref l) (.int j) H Q := by
  subst hj
  refine ⟨l, (m : Int), [v], rfl, rfl, h, by omega, by omega, Nat.le_trans (show [v].length * (m : Int).toNat ≤ 1000 by simpa using hm) (by decide), fun a ha => ?_⟩
  rw [Int.toNat_natCast, rep_one v m]
  exact q a _ ha (same_upd ha) upd_same
/-! while -/
/-- the number in slot k, as a measure -/
def muI (k : Nat) : L2.St → Hp → Nat := fun σ _ => match (σ[k]? : Option (Option V)) with
  | some (some (V.int m)) => m.toNat
  | _ => 0
def WB (Pv : L2.St → Hp → Prop) (μ : L2.St → Hp → Nat) (m : Nat) (tb : TS) (n : L2.St → Hp → Prop) (r : VK) (σ : L2.St) : Bool → Hp → Prop := fun b H1 =>
  if b = true then ∃ N : L2.St → Hp → Prop, (∀ σ' H', N σ' H' → ∃ m', m' < m ∧ m' = μ σ' H' ∧ Pv σ' H') ∧ tb ⟨N, r, n, N⟩ σ H1 else n σ H1
section
variable {Pv : L2.St → Hp → Prop} {μ : L2.St → Hp → Nat} {m : Nat} {tb : TS} {n : L2.St → Hp → Prop} {r : VK} {b c : L2.St → Hp → Prop}
theorem z_wbT (h : tb ⟨fun σ' H' => Pv σ' H' ∧ μ σ' H' < m, r, n, fun σ' H' => Pv σ' H' ∧ μ σ' H' < m⟩ σ H) : WB Pv μ m tb n r σ true H := by
  unfold WB
  rw [if_pos rfl]
  exact ⟨_, fun σ' H' z => ⟨_, z.2, rfl, z.1⟩, h⟩
theorem z_wbF (h : n σ H) : WB Pv μ m tb n r σ false H := by
  unfold WB
  rw [if_neg (by decide)]
  exact h
theorem z_wb {p : Prop} [Decidable p] (h1 : p → tb ⟨fun σ' H' => Pv σ' H' ∧ μ σ' H' < m, r, n, fun σ' H' => Pv σ' H' ∧ μ σ' H' < m⟩ σ H) (h2 : ¬ p → n σ H) : WB Pv μ m tb n r σ (decide p) H := by
  by_cases h : p
  · rw [decide_eq_true h]
    exact z_wbT (h1 h)
  · rw [decide_eq_false h]
    exact z_wbF (h2 h)
theorem z_while {tt : TT} (Pv : L2.St → Hp → Prop) (μ : L2.St → Hp → Nat) (h0 : Pv σ H) (hs : ∀ σ H, Pv σ H → tt σ H (WB Pv μ (μ σ H) tb n r σ)) : tWhile tt tb ⟨n, r, b, c⟩ σ H := by
  refine ⟨fun m σ H => m = μ σ H ∧ Pv σ H, ⟨_, rfl, h0⟩, ?_⟩
  rintro m σ H ⟨rfl, p⟩
  exact hs σ H p
end
/-! comprehensions over a range, over a list: the list at D grows -/
def LcB (D : Addr) (i : Nat) (Pv : Nat → Addr → List V → Hp → Prop) (Nx : Hp → Prop) : VK := fun y H4 => ∃ acc, H4 D = some (.lst acc) ∧ acc.length < sizeLine ∧ Nx (upd H4 D (.lst (acc ++ [y])))
theorem z_lcB {D : Addr} {i : Nat} {Pv : Nat → Addr → List V → Hp → Prop} {acc : List V} (h : H D = some (.lst acc)) (hl : acc.length = i) (hi : i < 1000) (q : ∀ H', H' D = some (.lst (acc ++ [y])) → Kp D H H' → (∀ b, b ≠ D → H' b = H b) → Pv (i + 1) D (acc ++ [y]) H') :
    LcB D i Pv (fun H' => ∃ acc', acc'.length = i + 1 ∧ H' D = some (.lst acc') ∧ Pv (i + 1) D acc' H') y H :=
  ⟨acc, h, Nat.lt_of_lt_of_le (show acc.length < 1000 by omega) (by decide), acc ++ [y], by simp [hl], upd_same, q _ upd_same (fun b o hb e => by rw [upd_ne hb]; exact e) fun b hb => upd_ne hb⟩
abbrev LcN (D : Addr) (i : Nat) (Pv : Nat → Addr → List V → Hp → Prop) : VK := LcB D i Pv (fun H' => ∃ acc', acc'.length = i + 1 ∧ H' D = some (.lst acc') ∧ Pv (i + 1) D acc' H')
theorem z_lcR {ta : TA} {k : Nat} {te : TE} {vs : List Nat} (m : Nat) (hm : m ≤ 1000) (ha : ∀ R : List V → Hp → Prop, R [.int (m : Int)] H → ta σ H R) (hw : ∀ x, wipe ((wipe σ vs).set k (some x)) vs = wipe σ vs) (Pv : Nat → Addr → List V → Hp → Prop)
    (h0 : ∀ D H', H D = none → Same H H' → H' D = some (.lst []) → Pv 0 D [] H')
    (hs : ∀ i D acc H', i < m → acc.length = i → H' D = some (.lst acc) → Pv i D acc H' → te ((wipe σ vs).set k (some (.int (i : Int)))) H' (LcN D i Pv))
    (hd : ∀ D acc H', H D = none → acc.length = m → H' D = some (.lst acc) → Pv m D acc H' → Q (.ref D) H') : tLc (iRng1 ta) (gName k) tYes te vs σ H Q := by
  refine ha _ ⟨(m : Int), rfl, by omega, by omega, fun D hD => ?_⟩
  refine lc_range (lo := 0) (n := (m : Int).toNat) (fun i H' => ∃ acc, acc.length = i ∧ H' D = some (.lst acc) ∧ Pv i D acc H') ⟨[], rfl, upd_same, h0 D _ hD (same_upd hD) upd_same⟩ (fun i H' hi ⟨acc, hl, hH, pv⟩ => ?_) (fun H' ⟨acc, hl, hH, pv⟩ => hd D acc H' hD (by simpa using hl) hH (by simpa using pv))
  have e : (0 : Int) + (i : Int) = (i : Int) := Int.zero_add _
  show wipe ((wipe σ vs).set k (some (.int ((0 : Int) + (i : Int))))) vs = wipe σ vs ∧ _
  refine ⟨hw _, z_yes (z_ifT ?_)⟩
  rw [e]
  exact hs i D acc H' (by simpa using hi) hl hH pv
def LcE (K : PySem.W.Frag) (g : TG) (tt : TT) (te : TE) (vs : List Nat) (σ : L2.St) (Q : VK) : VK := fun x H1 => tLc (iList K (tC x)) g tt te vs σ H1 Q
theorem z_lcE {tl : TE} {g : TG} {tt : TT} {vs : List Nat} (h : tl σ H (LcE K g tt te vs σ Q)) : tLc (iList K tl) g tt te vs σ H Q := h
def LcRE (g : TG) (tt : TT) (te : TE) (vs : List Nat) (σ : L2.St) (Q : VK) : List V → Hp → Prop := fun xs H1 => tLc (iRng1 fun _ H R => R xs H) g tt te vs σ H1 Q
theorem z_lcRE {ta : TA} {g : TG} {tt : TT} {vs : List Nat} (h : ta σ H (LcRE g tt te vs σ Q)) : tLc (iRng1 ta) g tt te vs σ H Q := h
theorem z_lcRr {k : Nat} {vs : List Nat} (m : Nat) (hm : m ≤ 1000) (hw : ∀ x, wipe ((wipe σ vs).set k (some x)) vs = wipe σ vs) (Pv : Nat → Addr → List V → Hp → Prop)
    (h0 : ∀ D H', H D = none → Same H H' → H' D = some (.lst []) → Pv 0 D [] H')
    (hs : ∀ i D acc H', i < m → acc.length = i → H' D = some (.lst acc) → Pv i D acc H' → te ((wipe σ vs).set k (some (.int (i : Int)))) H' (LcN D i Pv))
    (hd : ∀ D acc H', H D = none → acc.length = m → H' D = some (.lst acc) → Pv m D acc H' → Q (.ref D) H') : LcRE (gName k) tYes te vs σ Q [.int (m : Int)] H := z_lcR m hm (fun R q => q) hw Pv h0 hs hd
/-- over a list that stands as long as Pv -/
theorem z_lcLs {k : Nat} {vs : List Nat} {a : Addr} (hm : xs.length ≤ 1000) (hx : SqL K H a xs) (hw : ∀ x, wipe ((wipe σ vs).set k (some x)) vs = wipe σ vs) (Pv : Nat → Addr → List V → Hp → Prop)
    (h0 : ∀ D H', H D = none → Same H H' → H' D = some (.lst []) → Pv 0 D [] H') (hl : ∀ i D acc H', Pv i D acc H' → SqL K H' a xs)
    (hs : ∀ i x D acc H', xs[i]? = some x → acc.length = i → H' D = some (.lst acc) → Pv i D acc H' → te ((wipe σ vs).set k (some x)) H' (LcN D i Pv))
    (hd : ∀ D acc H', H D = none → acc.length = xs.length → H' D = some (.lst acc) → Pv xs.length D acc H' → Q (.ref D) H') : LcE K (gName k) tYes te vs σ Q (.ref a) H := by
  refine ⟨a, rfl, ⟨xs, hx⟩, fun D hD => ?_⟩
  refine lc_list (xs := xs) (fun i H' => ∃ acc, acc.length = i ∧ H' D = some (.lst acc) ∧ Pv i D acc H') ⟨[], rfl, upd_same, h0 D _ hD (same_upd hD) upd_same⟩ (fun i H' _ ⟨acc, _, _, pv⟩ => hl _ _ _ _ pv) (fun i x H' hi ⟨acc, hl, hH, pv⟩ => ?_) (fun H' ⟨acc, hl, hH, pv⟩ => hd D acc H' hD hl hH pv)
  show wipe ((wipe σ vs).set k (some x)) vs = wipe σ vs ∧ _
  exact ⟨hw _, z_yes (z_ifT (hs i x D acc H' hi hl hH pv))⟩
/-- any target -/
theorem z_lcG {g : TG} {vs : List Nat} {a : Addr} (hm : xs.length ≤ 1000) (hx : SqL K H a xs) (Pv : Nat → Addr → List V → Hp → Prop)
    (h0 : ∀ D H', H D = none → Same H H' → H' D = some (.lst []) → Pv 0 D [] H') (hl : ∀ i D acc H', Pv i D acc H' → SqL K H' a xs)
    (hs : ∀ i x D acc H', xs[i]? = some x → acc.length = i → H' D = some (.lst acc) → Pv i D acc H' → g x (wipe σ vs) H' fun σ2 H2 => wipe σ2 vs = wipe σ vs ∧ te σ2 H2 (LcN D i Pv))
    (hd : ∀ D acc H', H D = none → acc.length = xs.length → H' D = some (.lst acc) → Pv xs.length D acc H' → Q (.ref D) H') : LcE K g tYes te vs σ Q (.ref a) H := by
  refine ⟨a, rfl, ⟨xs, hx⟩, fun D hD => ?_⟩
  refine lc_list (xs := xs) (fun i H' => ∃ acc, acc.length = i ∧ H' D = some (.lst acc) ∧ Pv i D acc H') ⟨[], rfl, upd_same, h0 D _ hD (same_upd hD) upd_same⟩ (fun i H' _ ⟨acc, _, _, pv⟩ => hl _ _ _ _ pv) (fun i x H' hi ⟨acc, hl, hH, pv⟩ => ?_) (fun H' ⟨acc, hl, hH, pv⟩ => hd D acc H' hD hl hH pv)
  have h := hs i x D acc H' hi hl hH pv
  have e : (fun σ2 H2 => wipe σ2 vs = wipe σ vs ∧ te σ2 H2 (LcN D i Pv)) = (fun (σ2 : L2.St) (H2 : Hp) => wipe σ2 vs = wipe σ vs ∧ tYes σ2 H2 fun b H3 => if b = true then te σ2 H3 (LcN D i Pv) else ∃ acc', acc'.length = i + 1 ∧ H3 D = some (.lst acc') ∧ Pv (i + 1) D acc' H3) := by
    funext σ2 H2
    show _ = (wipe σ2 vs = wipe σ vs ∧ if true = true then te σ2 H2 (LcN D i Pv) else ∃ acc', acc'.length = i + 1 ∧ H2 D = some (.lst acc') ∧ Pv (i + 1) D acc' H2)
    rw [if_pos rfl]
  rw [e] at h
  exact h
/-- where the item answers at once -/
theorem z_lcS {k : Nat} {vs : List Nat} {a : Addr} (ws : List V) (hlen : ws.length = xs.length) (hm : xs.length ≤ 1000) (hx : H a = some (.lst xs)) (hw : ∀ x, wipe ((wipe σ vs).set k (some x)) vs = wipe σ vs)
    (body : ∀ (i : Nat) (x w : V) (H' : Hp), xs[i]? = some x → ws[i]? = some w → Same H H' → ∀ R : VK, R w H' → te ((wipe σ vs).set k (some x)) H' R)
    (hd : ∀ D H', H D = none → Same H H' → H' D = some (.lst ws) → Q (.ref D) H') : LcE K (gName k) tYes te vs σ Q (.ref a) H :=
  z_lcM (tl := tC (.ref a)) hlen hm (fun R q => q) hx hw body hd
end
/-! ### data: numbers, lists of numbers -/
def Fl (n : Nat) (d : PyData) : Prop := PyData.canLay0 d = true ∧ PyData.depth d ≤ n
theorem fl_all {n : Nat} : ∀ {ds : List PyData}, (∀ d ∈ ds, Fl n d) → PyData.canLayAll0 ds = true ∧ PyData.depthAll ds ≤ n
  | [], _ => ⟨rfl, Nat.zero_le _⟩
  | d :: ds, h => by
    have h1 := h d (.head _)
    have h2 := fl_all (ds := ds) fun x hx => h x (.tail _ hx)
    refine ⟨?_, ?_⟩
    · show (PyData.canLay0 d && PyData.canLayAll0 ds) = true
      rw [h1.1, h2.1]
      rfl
    · show max (PyData.depth d) (PyData.depthAll ds) ≤ n
      have := h1.2
      have := h2.2
      omega
theorem fl_list {n : Nat} {ds : List PyData} (h : ∀ d ∈ ds, Fl n d) : Fl (n + 1) (.list ds) := ⟨(fl_all h).1, Nat.succ_le_succ (fl_all h).2⟩
theorem fl_tup {n : Nat} {ds : List PyData} (h : ∀ d ∈ ds, Fl n d) : Fl (n + 1) (.tuple ds) := ⟨(fl_all h).1, Nat.succ_le_succ (fl_all h).2⟩
theorem fl_int (i : Int) : Fl 0 (.int i) := ⟨rfl, Nat.le_refl 0⟩
theorem shaped_fl {n : Nat} {d : PyData} (h : Fl n d) (hn : n ≤ 64 := by decide) : SeqAt.shaped d = true := by
  unfold SeqAt.shaped
  rw [Bool.and_eq_true]
  exact ⟨h.1, decide_eq_true (Nat.le_trans h.2 hn)⟩
theorem fl_ints (ns : List Int) : Fl 1 (.list (ns.map .int)) := fl_list fun d hd => by
  obtain ⟨i, _, rfl⟩ := List.mem_map.mp hd
  exact fl_int i
section
variable {K : PySem.W.Frag} {H : Hp} {Q : VK} {p q : Addr}
theorem dpa_ints : ∀ (ns : List Int), DpAll K H (ns.map V.int) (ns.map PyData.int)
  | [] => .nil
  | n :: ns => .cons (.int n) (dpa_ints ns)
theorem dp_ints {ns : List Int} (h : H p = some (.lst (ns.map V.int))) : Dp K H (.ref p) (.list (ns.map .int)) := .lst (.inl (.inl h)) (dpa_ints ns)
theorem eqv_intsA : ∀ (ns ms : List Int), PyData.eqv (.list (ns.map .int)) (.list (ms.map .int)) = decide (ns = ms)
  | [], [] => rfl
  | [], m :: ms => rfl
  | n :: ns, [] => rfl
  | n :: ns, m :: ms => by
    have ih := eqv_intsA ns ms
    show ((n == m) && PyData.eqv (.list (ns.map .int)) (.list (ms.map .int))) = _
    rw [ih]
    by_cases h : n = m
    · subst h
      by_cases h2 : ns = ms
      · simp [h2]
      · simp [h2]
    · simp [h]
theorem z_eqInts {ns ms : List Int} (h1 : H p = some (.lst (ns.map V.int))) (h2 : H q = some (.lst (ms.map V.int))) (k : Q (.bl (decide (ns = ms))) H) : rEqD K (.ref p) (.ref q) H Q :=
  ⟨_, _, dp_ints h1, dp_ints h2, shaped_fl (fl_ints ns), shaped_fl (fl_ints ms), by rw [eqv_intsA]; exact k⟩
theorem z_neInts {ns ms : List Int} (h1 : H p = some (.lst (ns.map V.int))) (h2 : H q = some (.lst (ms.map V.int))) (k : Q (.bl (decide (¬ ns = ms))) H) : rNeD K (.ref p) (.ref q) H Q :=
  ⟨_, _, dp_ints h1, dp_ints h2, shaped_fl (fl_ints ns), shaped_fl (fl_ints ms), by
    rw [eqv_intsA, show (!decide (ns = ms)) = decide (¬ ns = ms) by simp]
    exact k⟩
theorem inV_int (i : Int) : ∀ (ns : List Int), inV (.int i) (ns.map V.int) = decide (i ∈ ns)
  | [] => rfl
  | n :: ns => by
    have ih := inV_int i ns
    show (eqV (.int n) (.int i) || inV (.int i) (ns.map V.int)) = _
    rw [ih, show eqV (.int n) (.int i) = decide (n = i) by first | rfl | simp [eqV]]
    by_cases h : n = i
    · subst h
      simp
    · have h' : ¬ i = n := fun z => h z.symm
      simp [h, h']
theorem flat_ints (ns : List Int) : (ns.map V.int).all flatV = true := by
  rw [List.all_eq_true]
  intro v hv
  obtain ⟨i, _, rfl⟩ := List.mem_map.mp hv
  rfl
theorem z_inI {i : Int} {ns : List Int} (h : H p = some (.lst (ns.map V.int))) (k : Q (.bl (decide (i ∈ ns))) H) : rIn K false (.int i) (.ref p) H Q :=
  ⟨p, _, rfl, .inl (.inl (.inl h)), rfl, flat_ints ns, by rw [inV_int]; exact k⟩
theorem z_notInI {i : Int} {ns : List Int} (h : H p = some (.lst (ns.map V.int))) (k : Q (.bl (decide (¬ i ∈ ns))) H) : rIn K true (.int i) (.ref p) H Q :=
  ⟨p, _, rfl, .inl (.inl (.inl h)), rfl, flat_ints ns, by
    rw [inV_int, show (if true = true then !decide (i ∈ ns) else decide (i ∈ ns)) = decide (¬ i ∈ ns) by simp]
    exact k⟩
theorem z_sortedI {ns : List Int} (h : H p = some (.lst (ns.map V.int))) (k : ∀ (ms : List Int) (a : Addr) (H' : Hp), ms.Perm ns → ms.Pairwise (· ≤ ·) → H a = none → Same H H' → H' a = some (.lst (ms.map V.int)) → Q (.ref a) H') : rSortedI K [.ref p] H Q :=
  ⟨p, ns, rfl, .inl (.inl h), fun ms a h1 h2 ha => k ms a _ h1 h2 ha (same_upd ha) upd_same⟩
/-- truth values -/
theorem inV_bl (i : Bool) : ∀ (ns : List Bool), inV (.bl i) (ns.map V.bl) = decide (i ∈ ns)
  | [] => rfl
  | n :: ns => by
    have ih := inV_bl i ns
    show (eqV (.bl n) (.bl i) || inV (.bl i) (ns.map V.bl)) = _
    rw [ih]
    cases n <;> cases i <;> simp [eqV]
theorem flat_bls (ns : List Bool) : (ns.map V.bl).all flatV = true := by
  rw [List.all_eq_true]
  intro v hv
  obtain ⟨i, _, rfl⟩ := List.mem_map.mp hv
  rfl
theorem z_inB {i : Bool} {ns : List Bool} (h : H p = some (.lst (ns.map V.bl))) (k : Q (.bl (decide (i ∈ ns))) H) : rIn K false (.bl i) (.ref p) H Q :=
  ⟨p, _, rfl, .inl (.inl (.inl h)), rfl, flat_bls ns, by rw [inV_bl]; exact k⟩
theorem z_notInB {i : Bool} {ns : List Bool} (h : H p = some (.lst (ns.map V.bl))) (k : Q (.bl (decide (¬ i ∈ ns))) H) : rIn K true (.bl i) (.ref p) H Q :=
  ⟨p, _, rfl, .inl (.inl (.inl h)), rfl, flat_bls ns, by
    rw [inV_bl, show (if true = true then !decide (i ∈ ns) else decide (i ∈ ns)) = decide (¬ i ∈ ns) by simp]
    exact k⟩
theorem z_notNI {i : Int} (q : Q (.bl true) H) : rNotN (.int i) .non H Q := ⟨rfl, by simpa using q⟩
theorem z_isNI {i : Int} (q : Q (.bl false) H) : rIsN (.int i) .non H Q := ⟨rfl, by simpa using q⟩
theorem fresh_of {H H' : Hp} {a : Addr} (s : Same H H') (h : H' a = none) : H a = none := by
  cases z : H a with
  | none => rfl
  | some o =>
    have := s _ _ z
    rw [h] at this
    cases this
/-- sorted(ints) -/
theorem z_sorted {ns : List Int} (h : H p = some (.lst (ns.map V.int))) (hl : ns.length < 64) (k : ∀ (ms : List Int) (a : Addr) (H' : Hp), ms.Perm ns → ms.Pairwise (· ≤ ·) → H a = none → Same H H' → H' a = some (.lst (ms.map V.int)) → Q (.ref a) H') : rSorted K [.ref p] H Q :=
  ⟨p, ns, rfl, .inl (.inl h), hl, fun ms a h1 h2 ha => k ms a _ h1 h2 ha (same_upd ha) upd_same⟩
end
end Z

namespace Z
open PySem PySem.Spec PyProof PyProof.Rows L2
theorem get_list {X : Cx} : PGet X (rIxL X.K) := by
  intro pins s σ H o i ov iv Q I ro ri h
  obtain ⟨p, xs, k, z, rfl, rfl, hq, he, q⟩ := h
  cases ro
  obtain ⟨t, rfl⟩ := ri
  obtain ⟨its, r, pl, hz⟩ := I.list hq
  obtain ⟨j, h1, h2, h3, h4, h5⟩ := atI_get he
  obtain ⟨w, ew, rw'⟩ := r.get h2
  have hl := r.length
  have hn := line63
  by_cases h0 : 0 ≤ k
  · have hj : k.toNat = j := by
      rw [seqIndex_of h0 h5] at h1
      exact Option.some.inj h1
    exact wpAny_getItem_list pl.isList h0 (by omega) (by rw [hj]; simpa using ew) ⟨z, H, I, rw', q⟩
  · have hj : (k + (its.toArray.size : Int)).toNat = j := by
      rw [seqIndex_neg (by omega) h4] at h1
      rw [List.size_toArray, ← hl]
      exact Option.some.inj h1
    exact wpAny_getItem_list_neg pl.isList (by omega) (by rw [List.size_toArray, ← hl]; omega) (by omega) (by rw [hj]; simpa using ew) ⟨z, H, I, rw', q⟩
section
variable {K : PySem.W.Frag} {σ : L2.St} {H H' : Hp} {Q : VK} {p q : Addr} {xs ys : List V} {v y : V} {n : L2.St → Hp → Prop} {r : VK} {b c : L2.St → Hp → Prop} {tb : TS}
theorem z_augS {to ti te : TE} {tip : TIp} {st : TSet} {tget : V → V → Hp → VK → Prop} (h : to σ H fun o H1 => ti σ H1 fun i H2 => tget o i H2 fun x H3 => te σ H3 fun y H4 => tip x y H4 fun z H5 => st o i z H5 fun H6 => n σ H6) : tAugS to ti te tget tip st ⟨n, r, b, c⟩ σ H := h
/-- for k in range(lo, hi), whatever the two are -/
theorem z_forR2g {ta : TA} {k : Nat} (lo hi : Int) (hl : -(2 ^ 61) ≤ lo ∧ lo < 2 ^ 61) (hh : -(2 ^ 61) ≤ hi ∧ hi < 2 ^ 61) (ha : ∀ R : List V → Hp → Prop, R [.int lo, .int hi] H → ta σ H R) (Pv : Nat → L2.St → Hp → Prop) (h0 : Pv 0 σ H)
    (hs : ∀ i σ H, i < (hi - lo).toNat → Pv i σ H → tb ⟨Pv (i + 1), r, n, Pv (i + 1)⟩ (σ.set k (some (.int (lo + (i : Int))))) H) (hd : ∀ σ H, Pv (hi - lo).toNat σ H → n σ H) : tFor (iRng2 ta) (gName k) tb ⟨n, r, b, c⟩ σ H :=
  ha _ ⟨lo, hi, rfl, by omega, for_range (lo := lo) (n := (hi - lo).toNat) Pv h0 hs hd⟩
theorem z_extendW (h1 : H p = some (.lst xs)) (h2 : H q = some (.lst ys)) (hl : xs.length + ys.length ≤ 1000000) (k : Q .non (upd H p (.lst (xs ++ ys)))) : rExtend (.ref p) [.ref q] H Q :=
  ⟨p, q, xs, ys, rfl, rfl, h1, h2, Nat.le_trans hl (by decide), k⟩
theorem z_appendW (hp : H p = some (.lst xs)) (hl : xs.length < 1000000) (k : Q .non (upd H p (.lst (xs ++ [y])))) : rAppend (.ref p) [y] H Q := ⟨p, xs, y, rfl, rfl, hp, Nat.lt_of_lt_of_le hl (by decide), k⟩
/-! lists of data -/
theorem dpa_len : ∀ {ds : List PyData} {vs : List V}, DpAll K H vs ds → vs.length = ds.length
  | [], vs, h => by rw [dpa_nil h]; rfl
  | d :: ds, vs, h => by
    obtain ⟨v, t, rfl, _, h2⟩ := dpa_cons h
    rw [List.length_cons, List.length_cons, dpa_len h2]
theorem dpa_get : ∀ {ds : List PyData} {vs : List V} {i : Nat} {d : PyData}, DpAll K H vs ds → ds[i]? = some d → ∃ v, vs[i]? = some v ∧ Dp K H v d
  | [], _, _, _, _, e => by simp at e
  | d' :: ds, vs, i, d, h, e => by
    obtain ⟨v, t, rfl, h1, h2⟩ := dpa_cons h
    cases i with
    | zero =>
      cases e
      exact ⟨v, rfl, h1⟩
    | succ i =>
      have h5 := dpa_get (i := i) h2 (show ds[i]? = some _ from e)
      exact h5
theorem dpa_getv {ds : List PyData} {vs : List V} {i : Nat} {v : V} (h : DpAll K H vs ds) (e : vs[i]? = some v) : ∃ d, ds[i]? = some d ∧ Dp K H v d := by
  have hi : i < vs.length := (List.getElem?_eq_some_iff.mp e).1
  obtain ⟨w, hw, d⟩ := dpa_get h (List.getElem?_eq_getElem (show i < ds.length by rw [← dpa_len h]; exact hi))
  rw [e] at hw
  cases hw
  exact ⟨_, List.getElem?_eq_getElem _, d⟩
theorem dpa_app : ∀ {ds es : List PyData} {vs ws : List V}, DpAll K H vs ds → DpAll K H ws es → DpAll K H (vs ++ ws) (ds ++ es)
  | [], _, _, _, h, k => by
    rw [dpa_nil h]
    exact k
  | _ :: _, _, _, _, h, k => by
    obtain ⟨v, t, rfl, h1, h2⟩ := dpa_cons h
    exact .cons h1 (dpa_app h2 k)
theorem dpa_one {d : PyData} (h : Dp K H v d) : DpAll K H [v] [d] := .cons h .nil
end
end Z

/-! sets of tuples of whole numbers by a comprehension; such a set of pairs, sorted, whatever the signs of its numbers -/
namespace Sc
open PySem PySem.Spec PyProof PyProof.Rows L2 PpSet
section
variable {X : Cx}
/-- set.add of a tuple of whole numbers -/
def rAddT (K : PySem.W.Frag) (P : Program) (w : World) : AddR := fun x xs H Q => ∃ (a t : Addr) (L : List (Addr × List Int)) (k : List Int), x = V.ref a ∧ xs = [V.ref t] ∧ H a = some (SetTO P w a L) ∧ SqT K H t (k.map V.int) ∧ (∀ p ∈ L, SqT K H p.1 (p.2.map V.int)) ∧ L.length + 1 < 64 ∧
  ∀ L', (k ∈ L.map (·.2) → L' = L) → (k ∉ L.map (·.2) → L'.Perm ((t, k) :: L)) → Q .non (upd H a (SetTO P w a L'))
theorem mt_addT (hu : X.A.units + 64 < cLine) : MtR X "set.add" (rAddT X.K X.prog X.w) := by
  intro pins s σ H x xs v us Q I r rxs h
  obtain ⟨a, t, L, k, rfl, rfl, ha, ht, hL, room, q⟩ := h
  cases r
  cases rxs with
  | cons ry rt =>
  cases rt
  cases ry
  have R0 : SetT0 X.prog X.w s.heap a L := (I.hok a _ ha).1
  obtain ⟨es, ep, tb, R⟩ := R0.full fun p hp => I.isT (hL p hp)
  have hx := I.isT ht
  obtain ⟨o, ho, hex, hd⟩ := R.ob
  have hT : s.heap.get? a = some o := ho
  refine wpAny_call_entry F.slot_set_add (T := "set") ?_ F.entry_set_add ?_ (F.args_set_add_2 _ _)
  · exact ⟨o, ho, hex.1⟩
  unfold Builtin.«set.add» Builtin.Frozenset.oneOther
  simp only [List.isEmpty_nil, bind_assoc]
  unfold Builtin.Frozenset.addrOf setAdd
  refine wpAny_bind (wpAny_pure ?_)
  try dsimp only
  refine wpAny_bind (wpAny_pure ?_)
  try dsimp only
  refine wpAny_bind ?_
  refine wpAny_holding ?_
  refine wpAny_bind (wpAny_pyHash_tuple (by show X.A.units + 1 < cLine; omega) hx ?_)
  refine add_at (s := { s with toks := s.toks + (k.length + 1) }) R hx (by show X.A.units + 1 < cLine; omega) room fun b h' L' es' ep' t' sb R' c1 c2 => ?_
  show wpAny _ _ (ret Value.none) _ _ _
  refine wpAny_pure ⟨_, rfl, .non, upd H a (SetTO X.prog X.w a L'), ?_, rfl, q L' c1 c2⟩
  have he : ∃ u, h'.get? a = some u := by
    obtain ⟨o', ho', _⟩ := R'.ob
    exact ⟨o', ho'⟩
  exact I.write (e := a) (t' := s.toks + (k.length + 1)) (by rw [ha]; trivial) (.inl rfl) (fun b u hb hu => (sb.2 b hb).trans hu) he (setTO_new R'.t0)
def frT (P : Program) (w : World) : Addr → HO := fun a => SetTO P w a []
theorem pe_setT {elt tg iter : Expr} {ifs : List Expr} {scope : Scope} {own : List (PySem.Str × Nat)} {pos : Pos} {wi : TI} {g : TG} {tt : TT} {te : TE}
    (hu : X.A.units + 64 < cLine) (hc : X.calm = true) (hN : X.N.Nodup) (hi : PI X tg iter wi) (ok : BlkOk X.N X.env.scope scope own)
    (hg : ∀ (s : Shared) (H : Hp) (C : Addr) (cl : List (PySem.Str × Addr)) (fp : List Addr), PG (X.blk s H scope (compEnvC scope cl C X.env) fp) tg g)
    (ht : ∀ (s : Shared) (H : Hp) (C : Addr) (cl : List (PySem.Str × Addr)) (fp : List Addr), PTs (X.blk s H scope (compEnvC scope cl C X.env) fp) ifs tt)
    (he : ∀ (s : Shared) (H : Hp) (C : Addr) (cl : List (PySem.Str × Addr)) (fp : List Addr), PE (X.blk s H scope (compEnvC scope cl C X.env) fp) elt te)
    (hs : ∀ x, foldedSetIterable iter X.env x = pure x := by intro _; rfl) : PE X (.SetComp elt [⟨tg, iter, ifs, 0⟩] scope pos) (tSet (rAddT X.K X.prog X.w) (frT X.prog X.w) wi g tt te (own.map (·.2))) :=
  pe_set (fun H h a e => by
    subst e
    exact setTO_new (setTR_fresh (P := X.prog) (w := X.w) (Heap.get?_push_size _ rfl)).t0) (fun s H e fp => mt_addT (X := X.blk s H scope e fp) hu) hc hN hi ok hg ht he hs
end
/-! sorted -/
section
variable {P : Program} {w : World} {A : Around} {E : Value → Shared → Prop} {s : Shared}
theorem sorted_setP {a : Addr} {L : List (Addr × List Int)} {es : Array (Int × Value)} {ep : Nat} {t : SetTable} {k : Value → Int × Int} {Q : Value → Shared → Prop} (R : SetTR P w s.heap a L es ep t) (hh : A.handled = none)
    (hk : ∀ p ∈ L, p.2 = [(k (.ref p.1)).1, (k (.ref p.1)).2])
    (hQ : ∀ s' p (out : List Value) (c : Nat), (∀ b o, s.heap.get? b = some o → s'.heap.get? b = some o) → s'.gens = s.gens → s'.os = s.os → s.heap.objs.size ≤ p → s'.heap.get? p = some (seqObj "list" out.toArray c) →
      out.Perm (L.map fun q => Value.ref q.1) → SrtO.Srtd (fun v u => SrtO.lexB (k v) (k u)) out → Q (.ref p) s') :
    wpAny (model P w) A (call (.builtin "sorted") [.ref a]) Q E s := by
  obtain ⟨o, ho, hex, hd⟩ := R.ob
  have hsz := R.size
  have hfew := R.few
  refine Calls.call_function_entry kind_sorted plain_sorted entry_sorted (args_sorted1 _) ?_
  unfold Builtin.«sorted»
  refine wpAny_bind (m := checkCount "sorted" 1 1 _) (wpAny_pure ?_)
  refine wpAny_bind (collect_set (A := A.in1) hh ⟨o, ho, hex.1, hd⟩ R.fits (by unfold scanBound; omega) R.tab.ris R.led fun s1 vs k1 hz g1 o1 pm => ?_)
  have hes : es.toList.map (·.2) = L.map fun q => Value.ref q.1 := by
    rw [R.rows]
    unfold rowsOf
    rw [List.map_map]
    rfl
  rw [hes] at pm
  have hvl : vs.length < 64 := by rw [pm.length_eq, List.length_map]; exact hfew
  have hvz : vs.length ≤ sizeLine := by rw [sizeLine_eq]; omega
  refine wpAny_bind (wpAny_newList ?_ hvz)
  have hoL : (s1.heap.push (seqObj "list" vs.toArray 0)).get? s1.heap.objs.size = some (seqObj "list" vs.toArray 0) := Heap.get?_push_size _ rfl
  have keep : ∀ b u, s.heap.get? b = some u → (s1.heap.push (seqObj "list" vs.toArray 0)).get? b = some u := fun b u e => Heap.get?_push_of_some _ (k1 b u e)
  have pairs : ∀ v ∈ vs, Srt.IsPair (s1.heap.push (seqObj "list" vs.toArray 0)) v (k v).1 (k v).2 := fun v hv => by
    obtain ⟨q, hq, e⟩ := List.mem_map.mp (pm.mem_iff.mp hv)
    subst e
    obtain ⟨o2, items, n, h1, h2, h3, h4⟩ := R.tup q hq
    rw [hk q hq] at h4
    have h5 := ints_of_items h4
    generalize hil : items.toList = il at h5
    cases h5 with
    | cons _ t1 r1 =>
      cases r1 with
      | cons _ t2 r2 =>
        cases r2
        refine ⟨q.1, o2, t1, t2, n, rfl, keep _ _ h1, h2, ?_⟩
        rw [h3, ← hil] <;> simp
  refine wpAny_bind (wpAny_holding (wpAny_call_entry slot_list_sort ⟨_, hoL, rfl⟩ entry_list_sort (SrtO.list_sort_ord (s := { s1 with heap := s1.heap.push (seqObj "list" vs.toArray 0) }) (SrtO.swo_lex k) hoL hvz
    (fun h2 => SrtO.pairs_sortableO (s := { s1 with heap := s1.heap.push (seqObj "list" vs.toArray 0) }) (by omega) pairs fun o e => ?_) fun out hs hb => ⟨_, rfl, ?_⟩) (args_list_sort _)))
  · have e' : some o = some (seqObj "list" vs.toArray 0) := e.symm.trans hoL
    cases e'
    intro c
    exact absurd (Value.type.inj c) (by decide)
  obtain ⟨c, hc⟩ := sortedHeap_at (vs := vs) (out := out.toArray) hoL
  refine wpAny_pure ⟨_, rfl, hQ _ s1.heap.objs.size out c (fun b u e => ?_) g1 o1 hz hc (hb.perm.trans pm) hs⟩
  have q := k1 b u e
  have hlt := Heap.lt_size q
  show (sortedHeap (s1.heap.push (seqObj "list" vs.toArray 0)) s1.heap.objs.size vs out.toArray).get? b = some u
  rw [sortedHeap_old (Nat.ne_of_lt hlt) (by rw [size_push']; exact Nat.lt_succ_of_lt hlt)]
  exact Heap.get?_push_of_some _ q
end
section
variable {X : Cx}
/-- sorted(set of pairs): the list of the same tuples, by their first numbers, then by their second -/
def rSortedP2 (K : PySem.W.Frag) (P : Program) (w : World) : List V → Hp → VK → Prop := fun vs H Q => ∃ (a : Addr) (L : List (Addr × List Int)) (k : Addr → Int × Int), vs = [V.ref a] ∧ H a = some (SetTO P w a L) ∧ (∀ p ∈ L, SqT K H p.1 [V.int (k p.1).1, V.int (k p.1).2] ∧ p.2 = [(k p.1).1, (k p.1).2]) ∧
  ∀ (ts : List Addr) (p : Addr), ts.Perm (L.map (·.1)) → ts.Pairwise (fun t u => ¬ ((k u).1 < (k t).1 ∨ ((k u).1 = (k t).1 ∧ (k u).2 < (k t).2))) → (L.map (·.2)).Nodup → H p = none → Q (.ref p) (upd H p (.lst (ts.map V.ref)))
theorem cr_sortedP2 (hc : X.calm = true) : CallR X (.builtin "sorted") (rSortedP2 X.K X.prog X.w) := by
  intro pins s σ H vs us Q I r h
  obtain ⟨a, L, k, rfl, ha, hk, q⟩ := h
  have R0 : SetT0 X.prog X.w s.heap a L := (I.hok a _ ha).1
  obtain ⟨es, ep, t, R⟩ := R0.full fun p hp => I.isT (by rw [(hk p hp).2]; exact (hk p hp).1)
  rw [Vals.ref1 r]
  let kv : Value → Int × Int := fun v => match v with | .ref b => k b | _ => (0, 0)
  refine sorted_setP (k := kv) R (I.ok.hd hc) (fun p hp => (hk p hp).2) fun s' p out c kp g o hp hg pm pw => ?_
  have href : ∀ (out : List Value), (∀ v ∈ out, ∃ b, v = Value.ref b) → ∃ ts : List Addr, out = ts.map Value.ref := by
    intro out
    induction out with
    | nil => intro _; exact ⟨[], rfl⟩
    | cons v out ih =>
      intro h
      obtain ⟨b, rfl⟩ := h v (.head _)
      obtain ⟨ts, rfl⟩ := ih fun u hu => h u (.tail _ hu)
      exact ⟨b :: ts, rfl⟩
  obtain ⟨ts, rfl⟩ := href out fun v hv => by
    obtain ⟨q, _, e⟩ := List.mem_map.mp (pm.mem_iff.mp hv)
    exact ⟨_, e.symm⟩
  have pm2 : ts.Perm (L.map (·.1)) := by
    have e : L.map (fun q => Value.ref q.1) = (L.map (·.1)).map Value.ref := by rw [List.map_map]; rfl
    rw [e] at pm
    have back : ∀ l : List Addr, (l.map Value.ref).filterMap (fun v => match v with | .ref b => some b | _ => none) = l := by
      intro l
      induction l with
      | nil => rfl
      | cons b l ih =>
        show b :: _ = _
        rw [ih]
    have z := pm.filterMap (fun v => match v with | .ref b => some b | _ => none)
    rw [back, back] at z
    exact z
  have hn : H p = none := I.hok.fresh hp
  have hlen : (ts.map V.ref).length ≤ sizeLine := by
    rw [List.length_map, pm2.length_eq, List.length_map, sizeLine_eq]
    have := R.few
    omega
  have hv : ∀ ts : List Addr, Vals (ts.map V.ref) (ts.map Value.ref) := by
    intro ts
    induction ts with
    | nil => exact .nil
    | cons b ts ih => exact .cons rfl ih
  have J : Inv X pins σ (upd H p (.lst (ts.map V.ref))) { s with heap := s'.heap, gens := s'.gens, drawn := s'.drawn, toks := s'.toks } :=
    I.call (ch := []) (Un.laid kp hp hn) (I.hok.laid kp hp ⟨hlen, ts.map Value.ref, c, hv ts, hg⟩) (by rw [g]; exact I.bare) (fun _ z => nomatch z)
  have e : s' = { s with heap := s'.heap, gens := s'.gens, drawn := s'.drawn, toks := s'.toks } := by
    cases s'
    cases s
    cases o
    rfl
  rw [e]
  refine ⟨.ref p, _, J, rfl, q ts p pm2 ?_ R.nd hn⟩
  have pw : (ts.map Value.ref).Pairwise fun x y => SrtO.lexB (kv y) (kv x) = false := pw
  exact (List.pairwise_map.mp pw).imp fun h => SrtO.lexB_no.mp h
end
/-! ### readings: the set of the pairs of a list; sorted -/
open Z
theorem nodup_len {α : Type} [DecidableEq α] : ∀ {l m : List α}, l.Nodup → (∀ x ∈ l, x ∈ m) → l.length ≤ m.length
  | [], m, _, _ => Nat.zero_le _
  | x :: l, m, hn, hs => by
    have hn' := List.nodup_cons.mp hn
    have hx := hs x (.head _)
    have := nodup_len (l := l) (m := m.erase x) hn'.2 fun y hy => by
      have hy' := hs y (.tail _ hy)
      have hne : y ≠ x := fun e => hn'.1 (by rw [← e]; exact hy)
      exact (List.mem_erase_of_ne hne).mpr hy'
    rw [List.length_erase_of_mem hx] at this
    have := List.length_pos_of_mem hx
    rw [List.length_cons]
    omega
section
variable {K : PySem.W.Frag} {H : Hp} {Q : VK} {σ : L2.St} {P : Program} {w : World}
theorem z_setPr {k : Nat} {te : TE} {vs : List Nat} {a : Addr} {xs : List V} (zs : List (Int × Int)) (hlen : zs.length = xs.length) (bs : List (List Int)) (hbl : bs.length ≤ 62) (hb : ∀ z ∈ zs, [z.1, z.2] ∈ bs) (hx : H a = some (.lst xs))
    (hw : ∀ x, wipe ((wipe σ vs).set k (some x)) vs = wipe σ vs)
    (body : ∀ (i : Nat) (x : V) (z : Int × Int) (H' : Hp), xs[i]? = some x → zs[i]? = some z → Same H H' → ∀ R : VK, (∀ t H'', H' t = none → Same H' H'' → H'' t = some (.tup [.int z.1, .int z.2]) → R (.ref t) H'') → te ((wipe σ vs).set k (some x)) H' R)
    (q : ∀ D H' L, H D = none → Same H H' → H' D = some (SetTO P w D L) → (L.map (·.2)).Nodup → (∀ p ∈ L, H' p.1 = some (.tup (p.2.map V.int)) ∧ ∃ z ∈ zs, p.2 = [z.1, z.2]) → (∀ z ∈ zs, [z.1, z.2] ∈ L.map (·.2)) → Q (.ref D) H') :
    tSetE (rAddT K P w) (frT P w) K (gName k) tYes te vs σ Q (.ref a) H := by
  refine ⟨a, rfl, ⟨_, .inl (.inl hx)⟩, fun D hD => ?_⟩
  have hDa : a ≠ D := ne_of_none hx hD
  let Pv : Nat → Hp → Prop := fun i H' => Same H H' ∧ ∃ L, H' D = some (SetTO P w D L) ∧ (L.map (·.2)).Nodup ∧ (∀ p ∈ L, H' p.1 = some (.tup (p.2.map V.int)) ∧ ∃ z ∈ zs.take i, p.2 = [z.1, z.2]) ∧ ∀ z ∈ zs.take i, [z.1, z.2] ∈ L.map (·.2)
  refine ⟨fun i m H' => m = xs.length - i ∧ i ≤ xs.length ∧ Pv i H', ⟨xs.length, by simp, Nat.zero_le _, same_upd hD, [], upd_same, List.nodup_nil, (fun p hp => by cases hp), (fun z hz => by cases hz)⟩, ?_⟩
  rintro i m H' ⟨rfl, hi, sm, L, hS, nd, hL, hz⟩
  have ha := sm _ _ hx
  by_cases hlt : i < xs.length
  · refine .inr ⟨⟨_, xs[i], .inl (.inl ha), by simp [hlt]⟩, Pv (i + 1), fun H2 p2 => ⟨xs.length - (i + 1), by omega, rfl, hlt, p2⟩, fun x H2 y => ?_⟩
    obtain ⟨e, y⟩ := y
    subst e
    have e := y _ (.inl (.inl ha))
    have hzi : zs[i]? = some (zs[i]'(by omega)) := List.getElem?_eq_getElem _
    generalize zs[i]'(by omega) = z at hzi
    have tk : zs.take (i + 1) = zs.take i ++ [z] := by rw [List.take_add_one, hzi]; rfl
    refine ⟨hw _, ?_⟩
    show Keep _ _ _ _ _ true _
    unfold Keep
    rw [if_pos rfl]
    refine body i x z H2 e hzi sm _ fun t H3 f3 s3 h3 => ?_
    have sm3 := sm.trans s3
    have htD : t ≠ D := fun z => by
      rw [z, hS] at f3
      cases f3
    have hlen2 : L.length ≤ bs.length := by
      have := nodup_len nd (m := bs) fun k hk => by
        obtain ⟨p, hp, rfl⟩ := List.mem_map.mp hk
        obtain ⟨z', hz', e'⟩ := (hL p hp).2
        rw [e']
        exact hb z' (List.mem_of_mem_take hz')
      rwa [List.length_map] at this
    refine ⟨D, t, L, [z.1, z.2], rfl, rfl, s3 _ _ hS, .inl (.inl h3), fun p hp => .inl (.inl (s3 _ _ (hL p hp).1)), by omega, fun L' c1 c2 => ?_⟩
    refine ⟨fun b o e => ?_, L', upd_same, ?_, fun p hp => ?_, fun z' hz' => ?_⟩
    · rw [upd_ne (ne_of_none e hD)]
      exact sm3 _ _ e
    · by_cases c : [z.1, z.2] ∈ L.map (·.2)
      · rw [c1 c]
        exact nd
      · have := (c2 c).map (·.2)
        exact this.nodup_iff.mpr (List.nodup_cons.mpr ⟨c, nd⟩)
    · by_cases c : [z.1, z.2] ∈ L.map (·.2)
      · rw [c1 c] at hp
        have hpD : p.1 ≠ D := fun z => by
          have := (hL p hp).1
          rw [z, hS] at this
          cases this
        obtain ⟨z', hz', e'⟩ := (hL p hp).2
        exact ⟨by rw [upd_ne hpD]; exact s3 _ _ (hL p hp).1, z', by rw [tk]; exact List.mem_append.mpr (.inl hz'), e'⟩
      · rcases List.mem_cons.mp ((c2 c).mem_iff.mp hp) with e' | hp
        · rw [e']
          exact ⟨by rw [upd_ne htD]; exact h3, z, by rw [tk]; exact List.mem_append.mpr (.inr (.head _)), rfl⟩
        · have hpD : p.1 ≠ D := fun z => by
            have := (hL p hp).1
            rw [z, hS] at this
            cases this
          obtain ⟨z', hz', e'⟩ := (hL p hp).2
          exact ⟨by rw [upd_ne hpD]; exact s3 _ _ (hL p hp).1, z', by rw [tk]; exact List.mem_append.mpr (.inl hz'), e'⟩
    · have old : z' ∈ zs.take i → [z'.1, z'.2] ∈ L'.map (·.2) := fun h => by
        by_cases c : [z.1, z.2] ∈ L.map (·.2)
        · rw [c1 c]
          exact hz z' h
        · exact ((c2 c).map (·.2)).mem_iff.mpr (.tail _ (hz z' h))
      rw [tk] at hz'
      rcases List.mem_append.mp hz' with h | h
      · exact old h
      · rw [List.mem_singleton.mp h]
        by_cases c : [z.1, z.2] ∈ L.map (·.2)
        · rw [c1 c]
          exact c
        · exact ((c2 c).map (·.2)).mem_iff.mpr (.head _)
  · have e : i = xs.length := by omega
    subst e
    rw [show zs.take xs.length = zs by rw [← hlen, List.take_length]] at hL hz
    exact .inl ⟨⟨_, .inl (.inl ha), by simp⟩, q D H' L hD sm hS nd hL hz⟩
/-- by the first number, then by the second -/
def plt (a b : Int × Int) : Prop := a.1 < b.1 ∨ (a.1 = b.1 ∧ a.2 < b.2)
def atH (H : Hp) (t : Addr) : Int × Int := match H t with
  | some (.tup [.int a, .int b]) => (a, b)
  | _ => (0, 0)
theorem atH_of {t : Addr} {a b : Int} (h : H t = some (.tup [.int a, .int b])) : atH H t = (a, b) := by
  unfold atH
  rw [h]
theorem z_sortedPr {a : Addr} {L : List (Addr × List Int)} {zs : List (Int × Int)} (h : H a = some (SetTO P w a L)) (hL : ∀ p ∈ L, H p.1 = some (.tup (p.2.map V.int)) ∧ ∃ z ∈ zs, p.2 = [z.1, z.2]) (hz : ∀ z ∈ zs, [z.1, z.2] ∈ L.map (·.2))
    (q : ∀ (ts : List Addr) (us : List (Int × Int)) (p : Addr) (H' : Hp), ts.length = us.length → (∀ (i : Nat) (t : Addr) (u : Int × Int), ts[i]? = some t → us[i]? = some u → H' t = some (.tup [.int u.1, .int u.2])) → us.Pairwise plt → (∀ z, z ∈ us ↔ z ∈ zs) → us.length ≤ L.length → H p = none → Same H H' → H' p = some (.lst (ts.map V.ref)) → Q (.ref p) H') :
    rSortedP2 K P w [.ref a] H Q := by
  have key : ∀ p ∈ L, p.2 = [(atH H p.1).1, (atH H p.1).2] := fun p hp => by
    obtain ⟨h1, z, _, e⟩ := hL p hp
    rw [e] at h1 ⊢
    rw [atH_of h1]
  refine ⟨a, L, atH H, rfl, h, fun p hp => ⟨.inl (.inl ?_), key p hp⟩, fun ts p pm pw nd hp => ?_⟩
  · have := (hL p hp).1
    rw [key p hp] at this
    exact this
  have mem : ∀ t ∈ ts, ∃ r ∈ L, r.1 = t := fun t ht => List.mem_map.mp (pm.mem_iff.mp ht)
  have ndt : (ts.map (atH H)).Nodup := by
    have e1 : (L.map (·.1)).map (fun t => [(atH H t).1, (atH H t).2]) = L.map (·.2) := by
      rw [List.map_map]
      exact List.map_congr_left fun r hr => (key r hr).symm
    have e2 : (ts.map fun t => [(atH H t).1, (atH H t).2]).Nodup := (pm.map _).nodup_iff.mpr (by rw [e1]; exact nd)
    have e3 : (ts.map (atH H)).Pairwise fun u v => u ≠ v := by
      rw [List.pairwise_map]
      refine (List.pairwise_map.mp e2).imp fun hne e => hne ?_
      rw [e]
    exact e3
  refine q ts (ts.map (atH H)) p _ (by rw [List.length_map]) (fun i t u ht hu => ?_) ?_ (fun z => ?_) (by rw [List.length_map, pm.length_eq, List.length_map]; exact Nat.le_refl _) hp (same_upd hp) upd_same
  · rw [List.getElem?_map, ht] at hu
    cases hu
    obtain ⟨r, hr, rfl⟩ := mem t (List.mem_of_getElem? ht)
    have h1 := (hL r hr).1
    rw [key r hr] at h1
    rw [upd_ne (ne_of_none h1 hp)]
    exact h1
  · rw [List.pairwise_map]
    have ndt' := List.pairwise_map.mp ndt
    refine (pw.and ndt').imp fun {t u} ⟨h1, h2⟩ => ?_
    unfold plt
    have h3 : ¬ ((atH H t).1 = (atH H u).1 ∧ (atH H t).2 = (atH H u).2) := fun e => h2 (Prod.ext e.1 e.2)
    omega
  · constructor
    · intro hz'
      obtain ⟨t, ht, rfl⟩ := List.mem_map.mp hz'
      obtain ⟨r, hr, rfl⟩ := mem t ht
      obtain ⟨_, z', hz2, e⟩ := hL r hr
      rw [key r hr] at e
      have e1 : (atH H r.1).1 = z'.1 := by injection e
      have e2 : (atH H r.1).2 = z'.2 := by
        injection e with _ e
        injection e
      rw [show atH H r.1 = z' from Prod.ext e1 e2]
      exact hz2
    · intro hz'
      obtain ⟨r, hr, e⟩ := List.mem_map.mp (hz z hz')
      rw [key r hr] at e
      have e1 : (atH H r.1).1 = z.1 := by injection e
      have e2 : (atH H r.1).2 = z.2 := by
        injection e with _ e
        injection e
      exact List.mem_map.mpr ⟨r.1, pm.mem_iff.mpr (List.mem_map.mpr ⟨r, hr, rfl⟩), Prod.ext e1 e2⟩
end
end Sc

/-! tuples of whole numbers: >, and < > of pairs; in, not in, of data -/
namespace Z
open PySem PySem.Spec PyProof PyProof.Rows L2
theorem room65 {k : Nat} {A : _root_.PySem.Around} (r : L2.Room k A) : A.units + 65 < cLine := by have := r.un; omega
def rGtT (K : PySem.W.Frag) : R2 := fun x y H Q => ∃ (a b : Addr) (ns ms : List Int), x = .ref a ∧ y = .ref b ∧ SqT K H a (ns.map V.int) ∧ SqT K H b (ms.map V.int) ∧
  Q (.bl (Ob.lexAt (fun j => decide (ns.getD j 0 = ms.getD j 0)) (fun j => decide (ms.getD j 0 < ns.getD j 0)) (decide (ms.length < ns.length)) 0 (min ns.length ms.length))) H
theorem op_gtT {X : Cx} (hu : X.A.units < cLine) : OpR X (compareOp .Gt) (rGtT X.K) := by
  intro pins s σ H x y v u Q I rx ry h
  obtain ⟨a, b, ns, ms, rfl, rfl, ha, hb, q⟩ := h
  cases rx
  cases ry
  obtain ⟨its, r1, p1, _⟩ := I.tuple ha
  obtain ⟨its2, r2, p2, _⟩ := I.tuple hb
  have i1 : IntsAre its ns := Vals.ints r1
  have i2 : IntsAre its2 ms := Vals.ints r2
  have e1 : its.toArray.size = ns.length := by rw [List.size_toArray]; exact i1.length
  have e2 : its2.toArray.size = ms.length := by rw [List.size_toArray]; exact i2.length
  have at1 : ∀ j (h1 : j < its.toArray.size), ∃ t, its.toArray[j] = .int (ns.getD j 0) t := fun j h1 => PyProof.Rows.IntsAre.int_at i1 _ _ (by simp at h1; simp [h1])
  have at2 : ∀ j (h1 : j < its2.toArray.size), ∃ t, its2.toArray[j] = .int (ms.getD j 0) t := fun j h1 => PyProof.Rows.IntsAre.int_at i2 _ _ (by simp at h1; simp [h1])
  have R := Ob.RcOp.tuples_gt (A := X.A) (s := s) (e := fun j => decide (ns.getD j 0 = ms.getD j 0)) (r := fun j => decide (ms.getD j 0 < ns.getD j 0)) p1 p2 hu (fun j h1 h2 => by
    obtain ⟨t, et⟩ := at1 j h1
    obtain ⟨t', et'⟩ := at2 j h2
    rw [et, et']
    have z : (ns.getD j 0 == ms.getD j 0) = decide (ns.getD j 0 = ms.getD j 0) := by
      by_cases q : ns.getD j 0 = ms.getD j 0
      · rw [decide_eq_true q]; exact beq_iff_eq.mpr q
      · rw [decide_eq_false q]; exact beq_eq_false_iff_ne.mpr q
    rw [← z]
    exact SeqAt.EqAt.int_int _ _ _ _) (fun j h1 h2 _ => by
    obtain ⟨t, et⟩ := at1 j h1
    obtain ⟨t', et'⟩ := at2 j h2
    rw [et, et']
    exact Ob.RcOp.gt_int _ _ _ _)
  rw [e1, e2] at R
  have z : wpAny (model X.prog X.w) X.A (compareOp .Gt (.ref a) (.ref b)) (EP X pins σ Q) X.xe s := R X.prog X.w X.xe (EP X pins σ Q) ⟨.bl _, H, I, rfl, q⟩
  exact z
section
variable {K : PySem.W.Frag} {H : Hp} {Q : VK} {p q : Addr} {a b c d : Int}
theorem z_ltP (h1 : H p = some (.tup [.int a, .int b])) (h2 : H q = some (.tup [.int c, .int d])) (k : Q (.bl (decide (a < c ∨ (a = c ∧ b < d)))) H) : rLtT K (.ref p) (.ref q) H Q := by
  refine ⟨p, q, [a, b], [c, d], rfl, rfl, .inl (.inl h1), .inl (.inl h2), ?_⟩
  have e : HT.lexLt [a, b] [c, d] = decide (a < c ∨ (a = c ∧ b < d)) := by
    unfold HT.lexLt
    by_cases h : a = c
    · subst h
      rw [if_pos rfl]
      unfold HT.lexLt
      by_cases h : b = d
      · subst h
        rw [if_pos rfl]
        unfold HT.lexLt
        simp
      · rw [if_neg h]
        simp
    · rw [if_neg h]
      simp [h]
  rw [e]
  exact k
theorem z_gtP (h1 : H p = some (.tup [.int a, .int b])) (h2 : H q = some (.tup [.int c, .int d])) (k : Q (.bl (decide (c < a ∨ (c = a ∧ d < b)))) H) : rGtT K (.ref p) (.ref q) H Q := by
  refine ⟨p, q, [a, b], [c, d], rfl, rfl, .inl (.inl h1), .inl (.inl h2), ?_⟩
  have e : Ob.lexAt (fun j => decide ([a, b].getD j 0 = [c, d].getD j 0)) (fun j => decide ([c, d].getD j 0 < [a, b].getD j 0)) (decide ([c, d].length < [a, b].length)) 0 (min [a, b].length [c, d].length) = decide (c < a ∨ (c = a ∧ d < b)) := by
    show Ob.lexAt _ _ _ 0 2 = _
    rw [Ob.lexAt_succ, Ob.lexAt_succ, Ob.lexAt_zero]
    show (if decide (a = c) = true then (if decide (b = d) = true then decide ((2 : Nat) < 2) else decide (d < b)) else decide (c < a)) = _
    by_cases h : a = c
    · subst h
      by_cases h : b = d
      · subst h
        simp
      · simp [h]
    · have h' : ¬ c = a := fun z => h z.symm
      simp [h, h']
  rw [e]
  exact k
end
def rInsert : V → List V → Hp → VK → Prop := fun x vs H Q => ∃ (l : Addr) (xs : List V) (i : Int) (y : V), x = .ref l ∧ vs = [.int i, y] ∧ H l = some (.lst xs) ∧ xs.length < sizeLine ∧ 0 ≤ i ∧ i < 2 ^ 63 ∧
    Q .non (upd H l (.lst (xs.take i.toNat ++ [y] ++ xs.drop i.toNat)))
theorem mt_insertN {X : Cx} : MtR X "list.insert" rInsert := mt_insert
section
variable {K : PySem.W.Frag} {σ : L2.St} {H : Hp} {Q : VK} {p : Addr} {xs : List V} {y : V} {n : L2.St → Hp → Prop} {r : VK} {b c : L2.St → Hp → Prop} {tb : TS}
theorem z_insert {i : Nat} (hp : H p = some (.lst xs)) (hl : xs.length < 1000) (hi : i < 1000) (q : Q .non (upd H p (.lst (xs.take i ++ [y] ++ xs.drop i)))) : rInsert (.ref p) [.int (i : Int), y] H Q :=
  ⟨p, xs, (i : Int), y, rfl, rfl, hp, Nat.lt_of_lt_of_le hl (by decide), by omega, by omega, by rw [Int.toNat_natCast]; exact q⟩
def ForR (g : TG) (tb : TS) (n : L2.St → Hp → Prop) (r : VK) (b c : L2.St → Hp → Prop) (σ : L2.St) : List V → Hp → Prop := fun xs H1 => tFor (iRng1 fun _ H R => R xs H) g tb ⟨n, r, b, c⟩ σ H1
theorem z_forRE {ta : TA} {g : TG} (h : ta σ H (ForR g tb n r b c σ)) : tFor (iRng1 ta) g tb ⟨n, r, b, c⟩ σ H := h
theorem z_forRr {k : Nat} (m : Nat) (hm : m < 2 ^ 62) (Pv : Nat → L2.St → Hp → Prop) (h0 : Pv 0 σ H)
    (hs : ∀ i σ H, i < m → Pv i σ H → tb ⟨Pv (i + 1), r, n, Pv (i + 1)⟩ (σ.set k (some (.int (i : Int)))) H) (hd : ∀ σ H, Pv m σ H → n σ H) : ForR (gName k) tb n r b c σ [.int (m : Int)] H :=
  z_forR1 m hm (fun R q => q) Pv h0 hs hd
end
end Z

namespace Cw
open PySem PySem.Spec PyProof.Rows L2 Z
/-- o.m(e, .., k = v, ..) -/
def tMethN (C : Addr) (mn : Str) (n m : Nat) (sp : Sp) (gV : List V → List V → List V) (E : XK) (ta : TE) (t tk : TA) : TE := fun σ H Q => ta σ H fun x H1 => ∃ a dx fs, x = .ref a ∧ H1 a = some (.ins C dx fs) ∧ fs.lookup mn = none ∧
  t σ H1 fun vs H2 => tk σ H2 fun zs H3 => vs.length = n ∧ zs.length = m ∧ sp (gV (x :: vs) zs) H3 Q E
section
variable {X : Cx} {CX : CXT} {k n : Nat} {f C : Addr} {fd : FuncData} {ps ks : List Str} {sp : Sp} {E : XK} {m : Str} {apos pos : Pos} {o e : Expr} {es : List Expr} {kws : List Keyword} {ta : TE} {t tk : TA} {g : List Value → List Value → List Value} {gV : List V → List V → List V}
theorem pe_methN {pl : Sem Bool} (he : PE X o ta) (c : Cls X.K C) (hm : Meth X.K C m f) (F : FnOk X.prog X.w X.K X.mg X.base CX k f fd ps sp) (hr : Room k X.A) (hb : KBn X.K fd ps (n + 1) ks g gV) (hx : Passes CX X E) (ha : PA X (e :: es) t) (hkw : PK X kws tk)
    (hall : (backToKw pos (keywordEach kws X.env)).all (·.1.isSome) = true := by rfl) (hks : (backToKw pos (keywordEach kws X.env)).filterMap (·.1) = ks := by rfl)
    (hst : starEach (e :: es) X.env = (false, eval e X.env) :: starEach es X.env := by rfl)
    (hpl : ((backTo pos (starEach (e :: es) X.env)).any (·.1) || (backToKw pos (keywordEach kws X.env)).any (·.1.isNone)) = false := by rfl)
    (ht : eval (.Call (.Attribute o m apos) (e :: es) kws pos) X.env = (do
      let ov ← eval o X.env
      standAt apos.atName
      let (f, first) ← holding [ov] (getMethod ov m pl)
      callWith pos f first (backTo pos (starEach (e :: es) X.env)) (backToKw pos (keywordEach kws X.env))) := by rfl) :
    PE X (.Call (.Attribute o m apos) (e :: es) kws pos) (tMethN C m n ks.length sp gV E ta t tk) := by
  refine ⟨fun pins s σ H Q I h => ?_⟩
  refine PySem.W.methodCall_KW (pl := pl) (thn (he.run pins s σ H _ I h) fun u s1 ⟨x, H1, I1, rx, a, dx, fs, ex, ea, l, q⟩ => ?_) ht
  subst ex
  obtain rfl : u = Value.ref a := rx
  refine getmeth_ok I1 ea c hm l ?_
  refine PySem.W.callWith_KW (first := [.ref a]) (h₀ := X.base) I.ok.mod.kin hm.kp hall (thn (ha.run pos pins s1 σ H1 _ I1 q) fun us s2 ⟨vs, H2, I2, r, q2⟩ => ?_) hpl hst
  refine thn (hkw.run pos pins s2 σ H2 _ I2 q2) fun ws s3 ⟨zs, H3, I3, rz, l1, l2, q3⟩ => ⟨I3.kIn, ?_⟩
  rw [hks]
  exact run_fnN (us := .ref a :: us) (vs := .ref a :: vs) F hr hb hx I3 (.cons rfl r) rz (by rw [List.length_cons, l1]) l2 q3
end
/-! methods whose errors are wished for at the slots (in a try) -/
def tMethS (C : Addr) (m : Str) (sp : Sp) (dvs : List V) (E : L2.St → XK) (ta : TE) (t : TA) : TE := fun σ H Q => ta σ H fun x H1 => ∃ a dx fs, x = .ref a ∧ H1 a = some (.ins C dx fs) ∧ fs.lookup m = none ∧ t σ H1 fun vs H2 => sp (x :: (vs ++ dvs)) H2 Q (E σ)
def tMethNS (C : Addr) (mn : Str) (n m : Nat) (sp : Sp) (gV : List V → List V → List V) (E : L2.St → XK) (ta : TE) (t tk : TA) : TE := fun σ H Q => ta σ H fun x H1 => ∃ a dx fs, x = .ref a ∧ H1 a = some (.ins C dx fs) ∧ fs.lookup mn = none ∧
  t σ H1 fun vs H2 => tk σ H2 fun zs H3 => vs.length = n ∧ zs.length = m ∧ sp (gV (x :: vs) zs) H3 Q (E σ)
section
variable {X : Cx} {CX : CXT} {k n : Nat} {f C : Addr} {fd : FuncData} {ps ks : List Str} {sp : Sp} {E : L2.St → XK} {m : Str} {apos pos : Pos} {o e : Expr} {es : List Expr} {kws : List Keyword} {ta : TE} {t tk : TA} {dvs : List V} {ds : List Value} {g : List Value → List Value → List Value} {gV : List V → List V → List V}
theorem pe_methS {pl : Sem Bool} (he : PE X o ta) (c : Cls X.K C) (hm : Meth X.K C m f) (F : FnOk X.prog X.w X.K X.mg X.base CX k f fd ps sp) (hr : Room k X.A) (hb : Binds X.K fd ps ds) (hd : Vals dvs ds) (hx : ∀ σ, PassesAt CX X σ (E σ)) (ha : PA X (e :: es) t)
    (hst : starEach (e :: es) X.env = (false, eval e X.env) :: starEach es X.env := by rfl) (hpl : (backTo pos (starEach es X.env)).any (·.1) = false := by rfl)
    (ht : eval (.Call (.Attribute o m apos) (e :: es) [] pos) X.env = (do
      let ov ← eval o X.env
      standAt apos.atName
      let (f, first) ← holding [ov] (getMethod ov m pl)
      callWith pos f first (backTo pos (starEach (e :: es) X.env)) (backToKw pos (keywordEach [] X.env))) := by rfl) :
    PE X (.Call (.Attribute o m apos) (e :: es) [] pos) (tMethS C m sp dvs E ta t) := by
  refine ⟨fun pins s σ H Q I h => ?_⟩
  refine PySem.W.methodCall_KW (pl := pl) (thn (he.run pins s σ H _ I h) fun u s1 ⟨x, H1, I1, rx, a, dx, fs, ex, ea, l, q⟩ => ?_) ht
  subst ex
  obtain rfl : u = Value.ref a := rx
  refine getmeth_ok I1 ea c hm l ?_
  refine PySem.W.callWith_K (first := [.ref a]) (h₀ := X.base) I.ok.mod.kin hm.kp (thn (ha.run pos pins s1 σ H1 _ I1 q) fun us s2 ⟨vs, H2, I2, r, q2⟩ => ⟨I2.kIn, ?_⟩) hst hpl
  exact run_fnSD (us := .ref a :: us) (vs := .ref a :: vs) F hr hb hd (hx σ) I2 (.cons rfl r) q2
theorem pe_meth0S {pl : Sem Bool} (he : PE X o ta) (c : Cls X.K C) (hm : Meth X.K C m f) (F : FnOk X.prog X.w X.K X.mg X.base CX k f fd ps sp) (hr : Room k X.A) (hb : Binds X.K fd ps ds) (hd : Vals dvs ds) (hx : ∀ σ, PassesAt CX X σ (E σ))
    (ht : eval (.Call (.Attribute o m apos) [] [] pos) X.env = (do
      let ov ← eval o X.env
      standAt apos.atName
      let (f, first) ← holding [ov] (getMethod ov m pl)
      callWith pos f first (backTo pos (starEach [] X.env)) (backToKw pos (keywordEach [] X.env))) := by rfl) :
    PE X (.Call (.Attribute o m apos) [] [] pos) (tMethS C m sp dvs E ta tNil) := by
  refine ⟨fun pins s σ H Q I h => ?_⟩
  refine PySem.W.methodCall_KW (pl := pl) (thn (he.run pins s σ H _ I h) fun u s1 ⟨x, H1, I1, rx, a, dx, fs, ex, ea, l, q⟩ => ?_) ht
  subst ex
  obtain rfl : u = Value.ref a := rx
  refine getmeth_ok I1 ea c hm l ?_
  exact PySem.W.callWith_K0 (first := [.ref a]) I1.kIn hm.kp (run_fnSD (us := [.ref a]) (vs := [.ref a]) F hr hb hd (hx σ) I1 (.cons rfl .nil) q)
theorem run_fnNS {pins : List (Addr × Obj)} {σ : L2.St} {H : Hp} {s : Shared} {Q : VK} {us ws : List Value} {vs zs : List V} (F : FnOk X.prog X.w X.K X.mg X.base CX k f fd ps sp) (hr : Room k X.A) (hb : KBn X.K fd ps n ks g gV) (hx : PassesAt CX X σ (E σ))
    (I : Inv X pins σ H s) (r : Vals vs us) (rz : Vals zs ws) (l1 : vs.length = n) (l2 : zs.length = ks.length) (h : sp (gV vs zs) H Q (E σ)) : wpAny (model X.prog X.w) X.A (call (.ref f) us (ks.zip ws)) (EP X pins σ Q) X.xe s := by
  have r2 := hb.rel r rz
  refine wpAny_call (codeAny_mono (F.run X.A X.stack s H ⟨us, ks.zip ws⟩ (g us ws) (gV vs zs) Q (E σ) hr I.env0 (hb.to s us ws I.kIn (r.length.symm.trans l1) (rz.length.symm.trans l2)) r2 h) fun r s' hq => ?_)
  cases r with
  | error e => exact hx pins H s e s' I hq
  | ok fl =>
    cases fl with
    | ret u => exact I.after hq
    | next => exact False.elim hq
    | brk => exact False.elim hq
    | cont => exact False.elim hq
theorem pe_methNS {pl : Sem Bool} (he : PE X o ta) (c : Cls X.K C) (hm : Meth X.K C m f) (F : FnOk X.prog X.w X.K X.mg X.base CX k f fd ps sp) (hr : Room k X.A) (hb : KBn X.K fd ps (n + 1) ks g gV) (hx : ∀ σ, PassesAt CX X σ (E σ)) (ha : PA X (e :: es) t) (hkw : PK X kws tk)
    (hall : (backToKw pos (keywordEach kws X.env)).all (·.1.isSome) = true := by rfl) (hks : (backToKw pos (keywordEach kws X.env)).filterMap (·.1) = ks := by rfl)
    (hst : starEach (e :: es) X.env = (false, eval e X.env) :: starEach es X.env := by rfl)
    (hpl : ((backTo pos (starEach (e :: es) X.env)).any (·.1) || (backToKw pos (keywordEach kws X.env)).any (·.1.isNone)) = false := by rfl)
    (ht : eval (.Call (.Attribute o m apos) (e :: es) kws pos) X.env = (do
      let ov ← eval o X.env
      standAt apos.atName
      let (f, first) ← holding [ov] (getMethod ov m pl)
      callWith pos f first (backTo pos (starEach (e :: es) X.env)) (backToKw pos (keywordEach kws X.env))) := by rfl) :
    PE X (.Call (.Attribute o m apos) (e :: es) kws pos) (tMethNS C m n ks.length sp gV E ta t tk) := by
  refine ⟨fun pins s σ H Q I h => ?_⟩
  refine PySem.W.methodCall_KW (pl := pl) (thn (he.run pins s σ H _ I h) fun u s1 ⟨x, H1, I1, rx, a, dx, fs, ex, ea, l, q⟩ => ?_) ht
  subst ex
  obtain rfl : u = Value.ref a := rx
  refine getmeth_ok I1 ea c hm l ?_
  refine PySem.W.callWith_KW (first := [.ref a]) (h₀ := X.base) I.ok.mod.kin hm.kp hall (thn (ha.run pos pins s1 σ H1 _ I1 q) fun us s2 ⟨vs, H2, I2, r, q2⟩ => ?_) hpl hst
  refine thn (hkw.run pos pins s2 σ H2 _ I2 q2) fun ws s3 ⟨zs, H3, I3, rz, l1, l2, q3⟩ => ⟨I3.kIn, ?_⟩
  rw [hks]
  exact run_fnNS (us := .ref a :: us) (vs := .ref a :: vs) F hr hb (hx σ) I3 (.cons rfl r) rz (by rw [List.length_cons, l1]) l2 q3
end
/-! the readings -/
section
variable {K : PySem.W.Frag} {H : Hp} {Q : VK} {σ : L2.St} {a C dx : Addr} {fs : List (Str × V)} {f m : Str} {v : V} {ta tv : TE} {t tk : TA} {n : L2.St → Hp → Prop} {r : VK} {b c : L2.St → Hp → Prop} {sp : Sp} {dvs : List V} {E : XK} {gV : List V → List V → List V}
def QFld (K : PySem.W.Frag) (f : Str) (Q : VK) : VK := fun x H1 => ∃ a C dx fs v, x = .ref a ∧ H1 a = some (.ins C dx fs) ∧ Cls K C ∧ NoAttr K C f ∧ fs.lookup f = some v ∧ Q v H1
theorem z_fldE (h : ta σ H (QFld K f Q)) : tFld K ta f σ H Q := h
theorem z_fld (e : H a = some (.ins C dx fs)) (c : Cls K C) (no : NoAttr K C f) (l : fs.lookup f = some v) (q : Q v H) : QFld K f Q (.ref a) H := ⟨a, C, dx, fs, v, rfl, e, c, no, l, q⟩
def QSet (K : PySem.W.Frag) (f : Str) (y : V) (n : Hp → Prop) : VK := fun x H2 => ∃ a C dx fs, x = .ref a ∧ H2 a = some (.ins C dx fs) ∧ Cls K C ∧ NoAttr K C f ∧ fs.length < 1000 ∧ n (upd H2 a (.ins C dx (putF f y fs)))
theorem z_sfldE (h : tv σ H fun y H1 => ta σ H1 (QSet K f y (n σ))) : sFld K ta tv f ⟨n, r, b, c⟩ σ H := h
theorem z_sfld {n : Hp → Prop} (e : H a = some (.ins C dx fs)) (c : Cls K C) (no : NoAttr K C f) (l : fs.length < 1000) (q : n (upd H a (.ins C dx (putF f v fs)))) : QSet K f v n (.ref a) H := ⟨a, C, dx, fs, rfl, e, c, no, l, q⟩
def QMeth (C : Addr) (m : Str) (σ : L2.St) (t : TA) (sp : List V → Hp → Prop) : VK := fun x H1 => ∃ a dx fs, x = .ref a ∧ H1 a = some (.ins C dx fs) ∧ fs.lookup m = none ∧ t σ H1 fun vs H2 => sp (x :: vs) H2
theorem z_methSE {E : L2.St → XK} (h : ta σ H (QMeth C m σ t fun vs H2 => sp (vs ++ dvs) H2 Q (E σ))) : tMethS C m sp dvs E ta t σ H Q := h
theorem z_methE (h : ta σ H (QMeth C m σ t fun vs H2 => sp (vs ++ dvs) H2 Q E)) : tMeth C m sp dvs E ta t σ H Q := h
theorem z_meth {sp : List V → Hp → Prop} (e : H a = some (.ins C dx fs)) (l : fs.lookup m = none) (q : t σ H fun vs H2 => sp (.ref a :: vs) H2) : QMeth C m σ t sp (.ref a) H := ⟨a, dx, fs, rfl, e, l, q⟩
def QMethN (C : Addr) (mn : Str) (k j : Nat) (sp : Sp) (gV : List V → List V → List V) (E : XK) (σ : L2.St) (t tk : TA) (Q : VK) : VK := fun x H1 => ∃ a dx fs, x = .ref a ∧ H1 a = some (.ins C dx fs) ∧ fs.lookup mn = none ∧
  t σ H1 fun vs H2 => tk σ H2 fun zs H3 => vs.length = k ∧ zs.length = j ∧ sp (gV (x :: vs) zs) H3 Q E
theorem z_methNE {k j : Nat} (h : ta σ H (QMethN C m k j sp gV E σ t tk Q)) : tMethN C m k j sp gV E ta t tk σ H Q := h
theorem z_methNSE {k j : Nat} {E : L2.St → XK} (h : ta σ H (QMethN C m k j sp gV (E σ) σ t tk Q)) : tMethNS C m k j sp gV E ta t tk σ H Q := h
theorem z_methN {k j : Nat} (e : H a = some (.ins C dx fs)) (l : fs.lookup m = none) (q : t σ H fun vs H2 => tk σ H2 fun zs H3 => vs.length = k ∧ zs.length = j ∧ sp (gV (.ref a :: vs) zs) H3 Q E) : QMethN C m k j sp gV E σ t tk Q (.ref a) H := ⟨a, dx, fs, rfl, e, l, q⟩
theorem z_lens {xs ys : List V} {k j : Nat} {P : Prop} (h1 : xs.length = k) (h2 : ys.length = j) (q : P) : xs.length = k ∧ ys.length = j ∧ P := ⟨h1, h2, q⟩
theorem z_make (h : t σ H fun vs H1 => ∀ x dx, H1 x = none → H1 dx = none → dx ≠ x → sp (.ref x :: (vs ++ dvs)) (upd (upd H1 dx (.own x)) x (.ins C dx [])) (fun v H2 => v = .non ∧ Q (.ref x) H2) E) : tMake C sp dvs E t σ H Q := h
end
/-! for and comprehensions over any walk -/
section
variable {K : PySem.W.Frag} {H : Hp} {Q : VK} {σ : L2.St} {wi : TI} {J : It} {m : Nat} {G : Hp → Prop} {Y : Nat → Hp → V → Hp → Prop} {g : TG} {tb : TS} {te : TE} {n : L2.St → Hp → Prop} {r : VK} {b c : L2.St → Hp → Prop} {vs : List Nat}
theorem z_forW (w : Walk J m G Y) (hi : ∀ R : It → Hp → Prop, R J H → wi σ H R) (Pv : Nat → L2.St → Hp → Prop) (h0 : Pv 0 σ H) (hG : ∀ i σ H, i ≤ m → Pv i σ H → G H)
    (hs : ∀ i x σ H H', i < m → Pv i σ H → Y i H x H' → g x σ H' fun σ2 H2 => tb ⟨Pv (i + 1), r, n, Pv (i + 1)⟩ σ2 H2) (hd : ∀ σ H, Pv m σ H → n σ H) : tFor wi g tb ⟨n, r, b, c⟩ σ H :=
  hi _ (for_it w Pv h0 hG hs hd)
theorem z_lcW (w : Walk J m G Y) (hi : ∀ R : It → Hp → Prop, R J H → wi σ H R) (Pv : Nat → Addr → List V → Hp → Prop)
    (h0 : ∀ D H', H D = none → Same H H' → H' D = some (.lst []) → Pv 0 D [] H') (hG : ∀ i D acc H', Pv i D acc H' → G H')
    (hs : ∀ i x D acc H' H2, i < m → acc.length = i → H' D = some (.lst acc) → Pv i D acc H' → Y i H' x H2 → g x (wipe σ vs) H2 fun σ2 H3 => wipe σ2 vs = wipe σ vs ∧ te σ2 H3 (LcN D i Pv))
    (hd : ∀ D acc H', H D = none → acc.length = m → H' D = some (.lst acc) → Pv m D acc H' → Q (.ref D) H') : tLc wi g tYes te vs σ H Q := by
  refine hi _ fun D hD => ?_
  refine lc_it w (fun i H' => ∃ acc, acc.length = i ∧ H' D = some (.lst acc) ∧ Pv i D acc H') ⟨[], rfl, upd_same, h0 D _ hD (same_upd hD) upd_same⟩ (fun i H' _ ⟨acc, _, _, pv⟩ => hG _ _ _ _ pv) (fun i x H' H2 hi' ⟨acc, hl, hH, pv⟩ y => ?_) (fun H' ⟨acc, hl, hH, pv⟩ => hd D acc H' hD hl hH pv)
  have h := hs i x D acc H' H2 hi' hl hH pv y
  have e : (fun σ2 H2 => wipe σ2 vs = wipe σ vs ∧ te σ2 H2 (LcN D i Pv)) = (fun (σ2 : L2.St) (H2 : Hp) => wipe σ2 vs = wipe σ vs ∧ tYes σ2 H2 fun b H3 => if b = true then te σ2 H3 (LcN D i Pv) else ∃ acc', acc'.length = i + 1 ∧ H3 D = some (.lst acc') ∧ Pv (i + 1) D acc' H3) := by
    funext σ2 H2
    show _ = (wipe σ2 vs = wipe σ vs ∧ if true = true then te σ2 H2 (LcN D i Pv) else ∃ acc', acc'.length = i + 1 ∧ H2 D = some (.lst acc') ∧ Pv (i + 1) D acc' H2)
    rw [if_pos rfl]
  rw [e] at h
  exact h
/-- [e for x in ..]: the values ws -/
theorem z_valsW {ws : List V} (w : Walk J m G Y) (hm : m ≤ 1000) (hi : ∀ R : It → Hp → Prop, R J H → wi σ H R) (hG : ∀ H', Same H H' → G H') (hl : ws.length = m)
    (hs : ∀ i x v H' H2 (R : VK), ws[i]? = some v → i < m → Same H H' → Y i H' x H2 → (∀ H3, Same H' H3 → R v H3) → g x (wipe σ vs) H2 fun σ2 H3 => wipe σ2 vs = wipe σ vs ∧ te σ2 H3 R)
    (hd : ∀ D H', H D = none → Same H H' → H' D = some (.lst ws) → Q (.ref D) H') : tLc wi g tYes te vs σ H Q := by
  refine z_lcW w hi (fun i D acc H' => Same H H' ∧ H D = none ∧ acc = ws.take i) (fun D H' f s _ => ⟨s, f, rfl⟩) (fun i D acc H' h => hG _ h.1) (fun i x D acc H' H2 hi' hl' hD ⟨s', fD, ea⟩ y => ?_) (fun D acc H' fD hl' hD ⟨s', _, ea⟩ => ?_)
  · have hw : ws[i]? = some ws[i] := List.getElem?_eq_getElem (by omega)
    refine hs i x ws[i] H' H2 _ hw hi' s' y fun H3 s3 => ?_
    refine z_lcB (s3 _ _ hD) hl' (by omega) fun H5 hD5 k5 e5 => ⟨fun b o h => ?_, fD, ?_⟩
    · rw [e5 b (ne_of_none h fD)]
      exact s3 _ _ (s' _ _ h)
    · subst ea
      rw [List.take_add_one, hw]
      rfl
  · refine hd D H' fD s' ?_
    rw [hD, ea, ← hl, List.take_length]
/-- [e for x in ..]: a new object each time -/
theorem z_objsW {ob : Nat → HO} (w : Walk J m G Y) (hm : m ≤ 1000) (hi : ∀ R : It → Hp → Prop, R J H → wi σ H R) (hG : ∀ H', Same H H' → G H')
    (hs : ∀ i x H' H2 (R : VK), i < m → Same H H' → Y i H' x H2 → (∀ a H3, H' a = none → Same H' H3 → H3 a = some (ob i) → R (.ref a) H3) → g x (wipe σ vs) H2 fun σ2 H3 => wipe σ2 vs = wipe σ vs ∧ te σ2 H3 R)
    (hd : ∀ (D : Addr) (H' : Hp) (as : List Addr), H D = none → Same H H' → H' D = some (.lst (as.map V.ref)) → as.length = m → as.Nodup → D ∉ as → (∀ i a, as[i]? = some a → H a = none ∧ H' a = some (ob i)) → Q (.ref D) H') : tLc wi g tYes te vs σ H Q := by
  refine z_lcW w hi (fun i D acc H' => Same H H' ∧ H D = none ∧ ∃ as : List Addr, acc = as.map V.ref ∧ as.Nodup ∧ D ∉ as ∧ ∀ i a, as[i]? = some a → H a = none ∧ H' a = some (ob i)) (fun D H' f s _ => ⟨s, f, [], rfl, List.nodup_nil, List.not_mem_nil, fun i a h => (by simp at h)⟩) (fun i D acc H' h => hG _ h.1) (fun i x D acc H' H2 hi' hl' hD ⟨s', fD, as, ea, nd, nD, hv⟩ y => ?_) (fun D acc H' fD hl' hD ⟨s', _, as, ea, nd, nD, hv⟩ => ?_)
  · have la : as.length = i := by
      have := congrArg List.length ea
      rw [List.length_map, hl'] at this
      exact this.symm
    refine hs i x H' H2 _ hi' s' y fun a H3 fa s3 h3 => ?_
    have na : a ∉ as := fun hm => by
      obtain ⟨j, hj⟩ := List.mem_iff_getElem?.mp hm
      have := (hv j a hj).2
      rw [fa] at this
      cases this
    have nDa : a ≠ D := fun z => by
      rw [z, hD] at fa
      cases fa
    refine z_lcB (s3 _ _ hD) hl' (by omega) fun H5 hD5 k5 e5 => ⟨fun b o h => ?_, fD, as ++ [a], by rw [ea, List.map_append]; rfl, ?_, ?_, fun j b hb => ?_⟩
    · rw [e5 b (ne_of_none h fD)]
      exact s3 _ _ (s' _ _ h)
    · rw [List.nodup_append]
      refine ⟨nd, List.pairwise_singleton _ _, fun x hx y hy z => ?_⟩
      rw [List.mem_singleton.mp hy] at z
      exact na (by rw [← z]; exact hx)
    · rw [List.mem_append, List.mem_singleton]
      rintro (h | h)
      · exact nD h
      · exact nDa h.symm
    · rcases Nat.lt_or_ge j as.length with h | h
      · rw [List.getElem?_append_left h] at hb
        have hne : b ≠ D := fun z => nD (by rw [← z]; exact List.mem_of_getElem? hb)
        refine ⟨(hv j b hb).1, ?_⟩
        rw [e5 b hne]
        exact s3 _ _ (hv j b hb).2
      · have hr : j = i := by
          have := (List.getElem?_eq_some_iff.mp hb).1
          rw [List.length_append, List.length_singleton] at this
          omega
        subst hr
        rw [List.getElem?_append_right h, la, Nat.sub_self] at hb
        cases hb
        refine ⟨?_, by rw [e5 a nDa]; exact h3⟩
        cases z : H a with
        | none => rfl
        | some o =>
          have := s' _ _ z
          rw [fa] at this
          cases this
  · have la : as.length = m := by
      have := congrArg List.length ea
      rw [List.length_map, hl'] at this
      exact this.symm
    exact hd D H' as fD s' (by rw [hD, ea]) la nd nD hv
/-! what is walked -/
def It0 (R : It → Hp → Prop) : List V → Hp → Prop := fun _ _ => True
theorem z_iRng {ta : TA} {k : Nat} {R : It → Hp → Prop} (ha : ∀ S : List V → Hp → Prop, S [.int (k : Int)] H → ta σ H S) (hk : k ≤ 1000) (q : R (Itr 0 k) H) : iRng1 ta σ H R := by
  refine ha _ ⟨(k : Int), rfl, by omega, by omega, ?_⟩
  rw [Int.toNat_natCast]
  exact q
theorem z_iList {te : TE} {a : Addr} {xs : List V} {R : It → Hp → Prop} (ha : ∀ S : VK, S (.ref a) H → te σ H S) (h : SqL K H a xs) (q : R (Itl K a) H) : iList K te σ H R := ha _ ⟨a, rfl, ⟨xs, h⟩, q⟩
theorem z_iZip {ta : TA} {a b : Addr} {xs ys : List V} {R : It → Hp → Prop} (ha : ∀ S : List V → Hp → Prop, S [.ref a, .ref b] H → ta σ H S) (h1 : SqL K H a xs) (h2 : SqL K H b ys) (q : R (Itz K a b) H) : iZip K ta σ H R := ha _ ⟨a, b, xs, ys, rfl, h1, h2, q⟩
theorem z_iEnum {ta : TA} {a : Addr} {xs : List V} {R : It → Hp → Prop} (ha : ∀ S : List V → Hp → Prop, S [.ref a] H → ta σ H S) (h1 : SqL K H a xs) (q : R (Ite K a) H) : iEnum K ta σ H R := ha _ ⟨a, xs, rfl, h1, q⟩
def rSumN (K : PySem.W.Frag) : List V → Hp → VK → Prop := rSum K
theorem z_sum {ns : List Int} {a : Addr} (h : SqL K H a (ns.map V.int)) (q : Q (.int ns.sum) H) : rSum K [.ref a] H Q := ⟨a, ns, rfl, h, q⟩
theorem z_reverse {xs : List V} {l : Addr} (h : H l = some (.lst xs)) (q : Q .non (upd H l (.lst xs.reverse))) : rReverse (.ref l) [] H Q := ⟨l, xs, rfl, rfl, h, q⟩
end
/-! one field -/
theorem look1 {f : Str} {v : V} : ([(f, v)] : List (Str × V)).lookup f = some v := by
  unfold List.lookup
  rw [show (f == f) = true from beq_self_eq_true f]
theorem look1n {f m : Str} {v : V} (h : (m == f) = false) : ([(f, v)] : List (Str × V)).lookup m = none := by
  unfold List.lookup
  rw [h]
  rfl
theorem put1 {f : Str} {v w : V} : putF f w [(f, v)] = [(f, w)] := by
  unfold putF
  rw [if_pos rfl]
theorem put0 {f : Str} {w : V} : putF f w [] = [(f, w)] := rfl
end Cw

namespace Co
open PySem PySem.Spec PyProof.Rows L2 Z
/-- a value is never NotImplemented -/
theorem notNI {v : V} {u : Value} (r : RelV v u) {Q : Value → Shared → Prop} {s : Shared} (q : Q u s) : PySem.W.CmpBack Q u s := by
  cases u <;> first | exact q | (cases v <;> first | (cases r; done) | (obtain ⟨_, r⟩ := r; cases r; done) | exact absurd r (by intro z; cases z))
/-- x op y by an own method -/
def rOwn (C : Addr) (sp : Sp) (E : L2.St → XK) : L2.St → R2 := fun σ x y H Q => ∃ a b dx dy fs gs, x = .ref a ∧ y = .ref b ∧ H a = some (.ins C dx fs) ∧ H b = some (.ins C dy gs) ∧ sp [.ref a, .ref b] H Q (E σ)
def rOwn1 (C : Addr) (sp : Sp) (E : L2.St → XK) : L2.St → V → Hp → VK → Prop := fun σ x H Q => ∃ a dx fs, x = .ref a ∧ H a = some (.ins C dx fs) ∧ sp [.ref a] H Q (E σ)
def tOpS (r : L2.St → R2) (ta tb : TE) : TE := fun σ H Q => ta σ H fun x H1 => tb σ H1 fun y H2 => r σ x y H2 Q
def tUnS (r : L2.St → V → Hp → VK → Prop) (ta : TE) : TE := fun σ H Q => ta σ H fun x H1 => r σ x H1 Q
section
variable {X : Cx} {CX : CXT} {k : Nat} {f C : Addr} {fd : FuncData} {ps : List Str} {sp : Sp} {E : L2.St → XK} {op : Operator} {nm : Str}
theorem own_bin {pins : List (Addr × Obj)} {s : Shared} {σ : L2.St} {H : Hp} {x y : V} {v u : Value} {Q : VK} (c : PySem.W.selfFirst X.K C = true) (hs : PySem.W.findIn X.K (.ref C) nm = some (some (.ref f))) (hf : PySem.W.isFn X.K (.ref f) = true) (F : FnOk X.prog X.w X.K X.mg X.base CX k f fd ps sp) (hr : Room k X.A) (hb : Binds X.K fd ps []) (hx : ∀ σ, PassesAt CX X σ (E σ))
    (hn : PySem.dunder op.info.2 = nm) (I : Inv X pins σ H s) (rx : RelV x v) (ry : RelV y u) (h : rOwn C sp E σ x y H Q) : wpAny (model X.prog X.w) X.A (binaryOp op v u) (EP X pins σ Q) X.xe s := by
  obtain ⟨a, b, dx, dy, fs, gs, rfl, rfl, ha, hb', hq⟩ := h
  cases rx
  cases ry
  obtain ⟨mA, J, _⟩ := ins_get I.hok ha
  obtain ⟨mB, J', _⟩ := ins_get I.hok hb'
  obtain ⟨od, J, _⟩ := J.look
  obtain ⟨od', J', _⟩ := J'.look
  obtain ⟨m, hF⟩ := I.fr
  subst hn
  refine PySem.W.binop_K hF I.ok.mod.kin J J'.type c hs hf ?_
  refine wpAny_mono (run_fnSD (us := [.ref a, .ref b]) (vs := [.ref a, .ref b]) F hr hb .nil (hx σ) I (.cons rfl (.cons rfl .nil)) hq) (fun r s' q => ?_) fun _ _ x => x
  obtain ⟨z, H', I', rz, q⟩ := q
  exact notNI rz ⟨z, H', I', rz, q⟩
theorem pe_own {a b : Expr} {ta tb : TE} {pos : Pos} (c : PySem.W.selfFirst X.K C = true) (hs : PySem.W.findIn X.K (.ref C) nm = some (some (.ref f))) (hf : PySem.W.isFn X.K (.ref f) = true) (F : FnOk X.prog X.w X.K X.mg X.base CX k f fd ps sp) (hr : Room k X.A) (hb : Binds X.K fd ps []) (hx : ∀ σ, PassesAt CX X σ (E σ))
    (ha : PE X a ta) (hbb : PE X b tb) (hn : PySem.dunder op.info.2 = nm := by decide +kernel) : PE X (.BinOp a op b pos) (tOpS (rOwn C sp E) ta tb) := by
  refine ⟨fun pins s σ H Q I h => ?_⟩
  exact wpAny_BinOp (binT ha hbb I h fun v u s2 x y H2 I2 rx ry q => own_bin c hs hf F hr hb hx hn I2 rx ry q)
theorem own_neg {pins : List (Addr × Obj)} {s : Shared} {σ : L2.St} {H : Hp} {x : V} {v : Value} {Q : VK} (hs : PySem.W.findIn X.K (.ref C) "__neg__" = some (some (.ref f))) (hf : PySem.W.isFn X.K (.ref f) = true) (F : FnOk X.prog X.w X.K X.mg X.base CX k f fd ps sp) (hr : Room k X.A) (hb : Binds X.K fd ps []) (hx : ∀ σ, PassesAt CX X σ (E σ))
    (I : Inv X pins σ H s) (rx : RelV x v) (h : rOwn1 C sp E σ x H Q) : wpAny (model X.prog X.w) X.A (unaryOp .USub v) (EP X pins σ Q) X.xe s := by
  obtain ⟨a, dx, fs, rfl, ha, hq⟩ := h
  cases rx
  obtain ⟨mA, J, _⟩ := ins_get I.hok ha
  obtain ⟨od, J, _⟩ := J.look
  obtain ⟨m, hF⟩ := I.fr
  unfold unaryOp
  refine wpAny_holding ?_
  show wpAny _ _ (if (UnaryOp.USub == UnaryOp.Not) = true then _ else _) _ _ _
  rw [if_neg (by decide)]
  refine wpAny_bind (PySem.W.special_fn (args := []) (I.ok.mod.kin.keeps hF.keep) J hs (beq_iff_eq.mp hf) ?_)
  refine wpAny_mono (run_fnSD (us := [.ref a]) (vs := [.ref a]) F hr hb .nil (hx σ) I (.cons rfl .nil) hq) (fun r s' q => ?_) fun _ _ x => x
  exact wpAny_pure q
theorem pe_ownNeg {a : Expr} {ta : TE} {pos : Pos} (hs : PySem.W.findIn X.K (.ref C) "__neg__" = some (some (.ref f))) (hf : PySem.W.isFn X.K (.ref f) = true) (F : FnOk X.prog X.w X.K X.mg X.base CX k f fd ps sp) (hr : Room k X.A) (hb : Binds X.K fd ps []) (hx : ∀ σ, PassesAt CX X σ (E σ))
    (ha : PE X a ta) : PE X (.UnaryOp .USub a pos) (tUnS (rOwn1 C sp E) ta) := by
  refine ⟨fun pins s σ H Q I h => ?_⟩
  exact UnaryOp_ (thn (ha.run pins s σ H _ I h) fun v s1 ⟨x, H1, I1, r1, q1⟩ => own_neg hs hf F hr hb hx I1 r1 q1)
end
theorem passAll {X : Cx} {CX : CXT} {E : XK} (h : Passes CX X E) : ∀ σ, PassesAt CX X σ ((fun _ => E) σ) := fun σ pins H s e s' I q => h pins σ H s e s' I q
section
variable {ta tb : TE} {σ : L2.St} {H : Hp} {Q : VK} {C a b dx dy : Addr} {fs gs : List (Str × V)} {sp : Sp} {E : L2.St → XK}
theorem z_opS {r : L2.St → R2} (h : ta σ H fun x H1 => tb σ H1 fun y H2 => r σ x y H2 Q) : tOpS r ta tb σ H Q := h
theorem z_unS {r : L2.St → V → Hp → VK → Prop} (h : ta σ H fun x H1 => r σ x H1 Q) : tUnS r ta σ H Q := h
theorem z_own (h1 : H a = some (.ins C dx fs)) (h2 : H b = some (.ins C dy gs)) (q : sp [.ref a, .ref b] H Q (E σ)) : rOwn C sp E σ (.ref a) (.ref b) H Q := ⟨a, b, dx, dy, fs, gs, rfl, rfl, h1, h2, q⟩
theorem z_own1 (h1 : H a = some (.ins C dx fs)) (q : sp [.ref a] H Q (E σ)) : rOwn1 C sp E σ (.ref a) H Q := ⟨a, dx, fs, rfl, h1, q⟩
end
end Co

/-! an exception that leaves a list comprehension, also a nested one -/
namespace Xc
open PySem PySem.Spec PyProof.Rows L2 Z
section
variable {M : Model} {A : Around} {E : Value → Shared → Prop} {s : Shared} {env : Env}
/-- what a comprehension's run is to leave; the frame of its environment is told -/
def cpX (M : Model) (A : Around) (E : Value → Shared → Prop) (Q : Value → Shared → Prop) (acc : Value) (cenv : Env) (r : Result) (s' : Shared) : Prop :=
  match r with
  | .ok _ => ∃ m, s'.heap.Ns cenv.locals m ∧ ∀ h', Heap.SameBut cenv.locals s'.heap h' → Q acc { s' with heap := h' }
  | .error x => ∃ m, s'.heap.Ns cenv.locals m ∧ ∀ h', Heap.SameBut cenv.locals s'.heap h' → ∀ c' : Env, c'.frame = cenv.frame → wpAny M A (passOn "comprehension.variables-let-go" x c' : Sem Value) (fun _ _ => False) E { s' with heap := h' }
theorem comp_x {e : Expr} {scope : Scope} {pos : Pos} {newAcc first : Sem Value} {g : Comprehension} {gs : List Comprehension} {cl : List (Str × Addr)} {Q : Value → Shared → Prop}
    (hcl : clausesOf e = g :: gs) (hs : ∀ x, foldedSetIterable g.iter env x = pure x) (hclos : closureFor scope env = pure cl)
    (hkind : scope.kind = .function) (hnames : ∀ x ∈ scope.names, x.2 = .local → scope.names.lookup x.1 = some .local)
    (h : wpAny M A first (fun x s₁ => wpAny M A (pyIter x) (fun it s₂ => wpAny M A newAcc (fun acc s₃ =>
      wpAny M A (newFunctionEnv scope env.globals cl [] env.qual none .none (some env)) (fun cenv s₄ =>
        codeAny M A (.compStart e 0 it acc { cenv with scope := relabel scope env }) (cpX M A E Q acc cenv) s₄) E s₃) E s₂) E s₁) E s) :
    wpAny M A (comprehension e scope env pos newAcc false first none) Q E s := by
  unfold comprehension
  rw [hclos, hcl]
  refine wpAny_bind (wpAny_mono h (fun x s₁ h₁ => wpAny_bind (wpAny_standAt (wpAny_bind (wpAny_of_eq (hs x) (wpAny_bind (wpAny_holding (wpAny_mono h₁ (fun it s₂ h₂ =>
    wpAny_standIf (wpAny_bind (wpAny_mono h₂ (fun acc s₃ h₃ => wpAny_bind (wpAny_pure (wpAny_bind (wpAny_mono h₃ (fun cenv s₄ h₄ => ?_) fun _ _ h' => h')))) fun _ _ h' => h')))
      fun _ _ h' => h'))))))) fun _ _ h' => h')
  dsimp only
  have hv : ∀ x ∈ (scope.names.filter fun x => (x.2 == .local || x.2 == .cell) && x.1 != (".0" : Str)).reverse, x.2 = .local →
      Env.kindOf { cenv with scope := relabel scope env } x.1 = some .local := fun x hx hl => lookup_relabel_local (hnames x (List.mem_filter.mp (List.mem_reverse.mp hx)).1 hl)
  refine wpAny_holding (wpAny_bind (wpAny_attempt (wpAny_holding (wpAny_run (codeAny_mono h₄ fun r s' hr => ?_)))))
  cases r with
  | ok f =>
    obtain ⟨m, hn, hr⟩ := hr
    exact wpAny_bind (wpAny_holding (wpAny_comp_letGo (cenv := { cenv with scope := relabel scope env }) hkind _ s' m hv hn fun h' m' _ hs' => wpAny_pure (hr h' hs')))
  | error x =>
    obtain ⟨m, hn, hr⟩ := hr
    exact wpAny_bind (wpAny_holding (wpAny_comp_letGo (cenv := { cenv with scope := relabel scope env }) hkind _ s' m hv hn fun h' m' _ hs' => wpAny_mono (hr h' hs' _ rfl) (fun _ _ f => f.elim) fun _ _ y => y))
end

/-- an exception in the air of X, its frame at L -/
def XF (X : Cx) (L : Addr) (E : XK) (P : Heap → List Env → Addr → (Obj → Prop) → Addr → Heap → Prop) (u : Value) (s' : Shared) : Prop :=
  ∃ (a : Addr) (B : Heap) (sI : Shared) (pins : List (Addr × Obj)) (σ : L2.St) (H : Hp) (cls : Value) (d : Option Addr),
    u = .ref a ∧ Inv X pins σ H sI ∧ (∀ b o, sI.heap.get? b = some o → b ∉ frs X.stack → B.get? b = some o) ∧ sI.heap.UpToSlots s'.heap ∧
      P B X.stack a (Zc cls d) L s'.heap ∧ H a = none ∧ s'.os = sI.os ∧ AllBare s'.gens ∧ E cls d H
def Tk (X : Cx) (E : XK) : Prop := ∃ L D outs, X.stack = D :: outs ∧ D.frame = some L ∧ X.env.frame = some L ∧ ∀ u s', XF X L E Sky u s' → X.xe u s'
abbrev Held (B : Heap) (l : List Env) (a : Addr) (Z : Obj → Prop) (L : Addr) (h : Heap) : Prop := HandSPX.HeldZ B l a Z L h

section
variable {X : Cx} {E : XK} {L : Addr} {pins : List (Addr × Obj)} {σ : L2.St} {H : Hp} {s s' : Shared} {u : Value}
theorem tk_def (hs : X.stack = X.env :: X.outer) (hf : X.env.frame = some X.env.locals) (tk : Takes X (fun cls d _ H => E cls d H)) : Tk X E := ⟨X.env.locals, X.env, X.outer, hs, hf, hf, fun u s' h => tk u s' h⟩

/-- a call's exception -/
theorem XF.of_call (I : Inv X pins σ H s) (c : L2.CX X.prog X.w X.stack H s E u s') : XF X L E Sky u s' := by
  obtain ⟨a, B, H', cls, d, rfl, fl, hok, ub, na, os, ag, hE⟩ := c
  obtain ⟨G, gy, gn⟩ := restrict s'.heap fun b => (B.get? b).isSome || decide (b ∈ frs X.stack)
  have keepB : ∀ b o, B.get? b = some o → G.get? b = some o := fun b o e => (gy b (by simp [e])).trans (fl.1 b o e)
  have atF : ∀ b, b ∈ frs X.stack → G.get? b = s'.heap.get? b := fun b hb => gy b (by simp [hb])
  have inG : ∀ b o, G.get? b = some o → s'.heap.get? b = some o ∧ ((B.get? b).isSome = true ∨ b ∈ frs X.stack) := fun b o e => by
    by_cases q : ((B.get? b).isSome || decide (b ∈ frs X.stack)) = true
    · rw [gy b q] at e
      exact ⟨e, by simpa [Bool.or_eq_true] using q⟩
    · rw [gn b (by simpa using q)] at e; cases e
  have J : Inv X pins σ H' { s with heap := G, gens := s'.gens, drawn := s'.drawn, toks := s'.toks } := by
    refine I.call (ch := []) ⟨fun b o e n hb _ => keepB b o (ub.keep b o e n hb), fun b o e _ hb _ => ?_, fun b o e n _ => ub.free b o e n, fun b o e _ => ?_, ub.tups, ub.frzs, ub.tbls⟩ (hok.kept keepB) ag (fun _ z => nomatch z)
    · obtain ⟨sl, q⟩ := ub.slot b o e hb
      exact ⟨sl, (atF b hb).trans q⟩
    · by_cases hb : b ∈ frs X.stack
      · obtain ⟨sl, q⟩ := ub.slot b o e hb
        exact ⟨_, (atF b hb).trans q⟩
      · obtain ⟨o', q⟩ := ub.there b o e hb
        exact ⟨o', keepB b o' q⟩
  refine ⟨a, B, _, pins, σ, H', cls, d, rfl, J, fun b o e hb => ?_, Heap.UpToSlots.of_keeps fun b o e => (inG b o e).1, .inr (.inl fl), na, os, ag, hE⟩
  obtain ⟨e', h⟩ := inG b o e
  rcases h with h | h
  · obtain ⟨o', q⟩ := Option.isSome_iff_exists.mp h
    have z := fl.1 b o' q
    rw [e'] at z; cases z
    exact q
  · exact absurd h hb
theorem pass (tk : Tk X E) : Passes (L2.CX X.prog X.w) X E := fun pins σ H s e s' I c => by
  obtain ⟨L, D, outs, _, _, _, t⟩ := tk
  exact t e s' (XF.of_call I c)

/-- noted -/
theorem XF.noted {E₁ : Value → Shared → Prop} {D : Env} {outs : List Env} (hs : X.stack = D :: outs) (hD : D.frame = some L) (hf : X.env.frame = some L) (hA : X.A.frames = some X.stack) (x : XF X L E Sky u s') :
    wpAny (model X.prog X.w) X.A (noteFrame u X.env) (fun _ s'' => XF X L E Held u s'') E₁ s' := by
  obtain ⟨a, B, sI, pins, σ, H, cls, d, rfl, I, nb, up, sky, na, os, ag, hE⟩ := x
  have e : noteFrame (.ref a) X.env = noteFrame (.ref a) D := by unfold noteFrame PySem.frameOf; rw [hf, hD]
  rw [e]
  have hfr : X.A.frames = some (D :: outs) := by rw [hA, hs]
  have fin : ∀ h', HandSPX.HeldZ B X.stack a (Zc cls d) L h' → s'.heap.UpToSlots h' → XF X L E Held (.ref a) { s' with heap := h' } := fun h' hh up' => ⟨a, B, sI, pins, σ, H, cls, d, rfl, I, nb, up.trans up', hh, na, os, ag, hE⟩
  rw [hs] at sky fin
  rcases sky with ⟨hB, hn, hl, oe, vs, he, hz, hd, h1⟩ | fl | hh
  · exact HandSPX.look_newZ Zc.steady hfr hl hD he hB hn hd h1 hz fin
  · exact HandSPX.looks_onZ Zc.steady hfr hD fl fin
  · exact HandSPX.againZ hD hh.2.2.2 (fin s'.heap hh (Heap.UpToSlots.refl _))
/-- handed on -/
theorem XF.passed {E₁ : Value → Shared → Prop} {ce : Env} {what : String} (hf : ce.frame = some L) (x : XF X L E Held u s') (h : ∀ s'', XF X L E Sky u s'' → E₁ u s'') :
    wpAny (model X.prog X.w) X.A (passOn what u ce : Sem Value) (fun _ _ => False) E₁ s' := by
  obtain ⟨a, B, sI, pins, σ, H, cls, d, rfl, I, nb, up, hh, na, os, ag, hE⟩ := x
  unfold PySem.passOn
  obtain ⟨oe, vs, T, oT, ts, he, hz, hd, h1, hnT, hTe, hT, hdT, h3⟩ := hh.2.2.2
  refine wpAny_bind (wpAny_field he hd h1 ?_)
  rw [if_neg (show ¬ ((Value.ref T == Value.none) = true) from by simp)]
  rw [hf]
  refine wpAny_bind (HandSPX.setFlight_onZ hh fun h' hh' up' => ?_)
  exact wpAny_throw (h _ ⟨a, B, sI, pins, σ, H, cls, d, rfl, I, nb, up.trans up', .inr (.inr hh'), na, os, ag, hE⟩)
end
/-- the context of a block, with what is wanted of an exception -/
abbrev blkE (X : Cx) (s : Shared) (H : Hp) (scope : Scope) (cenv : Env) (fp : List Addr) (xe : Value → Shared → Prop) : Cx := { X with s_0 := s, H_0 := H, env := cenv, outer := X.stack, ex := fp, fn := fun x => scope.names.lookup x == some .cell, pn := [], xe := xe }
theorem toE {X : Cx} {s : Shared} {H : Hp} {scope : Scope} {ce : Env} {fp : List Addr} {xe : Value → Shared → Prop} {pins : List (Addr × Obj)} {σ : L2.St} {H' : Hp} {s' : Shared} (I : Inv (X.blk s H scope ce fp) pins σ H' s') : Inv (blkE X s H scope ce fp xe) pins σ H' s' :=
  ⟨⟨I.ok.mod, I.ok.kind, I.ok.glob, I.ok.blt, I.ok.above, I.ok.inj, I.ok.has, I.ok.cab, I.ok.hd, I.ok.frames, I.ok.stk, I.ok.exf, I.ok.bs, I.ok.bsz, I.ok.noex, I.ok.exfs, I.ok.funs, I.ok.frf⟩, I.os, I.bare, I.base, I.loc, I.cell, I.free, I.freeC, I.pin, I.hok, I.len⟩

theorem fun_hide {h h' B B' : Heap} {C : Addr} (sb : Heap.SameBut C h h') (gone : ∀ b, B.get? b = none → B'.get? b = none) : ∀ {l : List Env}, C ∉ frs l → h.FunFrames B l → h'.FunFrames B' l
  | [], _, _ => trivial
  | env :: l, hn, ⟨hk, ⟨L, o, hf, hb, ho, hd⟩, hr⟩ => by
    have hm : L ∈ frs (env :: l) := List.mem_filterMap.mpr ⟨env, List.mem_cons_self, hf⟩
    exact ⟨hk, ⟨L, o, hf, gone L hb, (sb.2 L fun z => hn (z ▸ hm)).trans ho, hd⟩, fun_hide sb gone (fun q => hn (by
      obtain ⟨e, he, q⟩ := List.mem_filterMap.mp q
      exact List.mem_filterMap.mpr ⟨e, List.mem_cons_of_mem _ he, q⟩)) hr⟩
/-- out of a block: the block's own names go -/
theorem XF.out {X : Cx} {E : XK} {L : Addr} {pins : List (Addr × Obj)} {σ : L2.St} {H : Hp} {s3 s' : Shared} {u : Value} {scope : Scope} {ce : Env} {fp : List Addr} {xe : Value → Shared → Prop} (I3 : Inv X pins σ H s3) (hC : s3.heap.objs.size ≤ ce.locals)
    (f3 : ∀ b ∈ fp, FpOk X pins H b ∧ b < s3.heap.objs.size) (x : XF (blkE X s3 H scope ce fp xe) L E Held u s') :
    (∃ m, s'.heap.Ns ce.locals m) ∧ ∀ h', Heap.SameBut ce.locals s'.heap h' → XF X L E Held u { s' with heap := h' } := by
  obtain ⟨a, B, sI, pn, σ', H', cls, d, rfl, I, nb, up, hh, na, os, ag, hE⟩ := x
  have J : Inv X pins σ H' sI := I3.call' (ch := fp) I.os I.base I.hok I.bare fun b hb => ⟨(f3 b hb).1.2.2.2.1, (f3 b hb).1.2.1, (f3 b hb).1.2.2.2.2.1, (f3 b hb).1.2.2.2.2.2⟩
  have nf : ce.locals ∉ frs X.stack := fun hm => by
    obtain ⟨_, o, e, _⟩ := I3.stack.mem hm
    exact absurd (Nat.lt_of_lt_of_le (Heap.lt_size e) hC) (Nat.lt_irrefl _)
  have nC : H' ce.locals = none := I.free
  obtain ⟨m, hn, _⟩ := I.loc
  have hn : sI.heap.Ns ce.locals m := hn
  obtain ⟨oc, es, ep, ho, hd, hk, hf⟩ := hn
  have hB : B.get? ce.locals = some oc := nb _ _ ho nf
  have hs' : s'.heap.get? ce.locals = some oc := hh.1 _ _ hB
  refine ⟨⟨m, oc, es, ep, hs', hd, hk, hf⟩, fun h' sb => ?_⟩
  have f := I3.fpOk (H' := H') hC nC
  obtain ⟨f0, f1, f2, f3', f4, f5⟩ := f
  have J2 : Inv X pins σ H' { sI with heap := PySem.W.hideAll sI.heap [ce.locals], toks := sI.toks } := J.turned (it := ce.locals) (fun b o hb e => PySem.W.hideAll_get _ e (by simpa using hb)) f0 f1 f3' f4 f5
  have aC : a ≠ ce.locals := fun z => by
    have q := hh.2.1
    rw [z, hB] at q; cases q
  have inB : ∀ b o, (PySem.W.hideAll B [ce.locals]).get? b = some o → B.get? b = some o ∧ b ≠ ce.locals := fun b o e => ⟨PySem.W.of_hideAll _ e, fun z => by
    rw [z, PySem.W.hideAll_none [ce.locals] (by simp)] at e; cases e⟩
  have inS : ∀ b o, (PySem.W.hideAll sI.heap [ce.locals]).get? b = some o → sI.heap.get? b = some o ∧ b ≠ ce.locals := fun b o e => ⟨PySem.W.of_hideAll _ e, fun z => by
    rw [z, PySem.W.hideAll_none [ce.locals] (by simp)] at e; cases e⟩
  have gone : ∀ b, B.get? b = none → (PySem.W.hideAll B [ce.locals]).get? b = none := fun b e => by
    cases q : (PySem.W.hideAll B [ce.locals]).get? b with
    | none => rfl
    | some o => rw [(inB b o q).1] at e; cases e
  have hh0 := hh
  obtain ⟨k1, k2, k3, k4⟩ := hh
  have k3 : s'.heap.FunFrames B X.stack := k3
  have k4 := k4
  refine ⟨a, PySem.W.hideAll B [ce.locals], _, pins, σ, H', cls, d, rfl, J2, fun b o e hb => ?_, fun b o e hnf => ?_, ⟨fun b o e => ?_, gone a k2, ?_, ?_⟩, na, os, ag, hE⟩
  · have e : (PySem.W.hideAll sI.heap [ce.locals]).get? b = some o := e
    obtain ⟨e1, e2⟩ := inS b o e
    exact PySem.W.hideAll_get _ (nb b o e1 hb) (by simpa using e2)
  · have e : (PySem.W.hideAll sI.heap [ce.locals]).get? b = some o := e
    obtain ⟨e1, e2⟩ := inS b o e
    obtain ⟨sl, q⟩ := up b o e1 hnf
    exact ⟨sl, (sb.2 b e2).trans q⟩
  · obtain ⟨e1, e2⟩ := inB b o e
    exact (sb.2 b e2).trans (k1 b o e1)
  · exact fun_hide sb gone nf k3
  · obtain ⟨oe, vs, T, oT, ts, he, hz, hd', h1, hnT, hTe, hT, hdT, h3⟩ := k4
    have tC : T ≠ ce.locals := fun z => by rw [z, hB] at hnT; cases hnT
    exact ⟨oe, vs, T, oT, ts, (sb.2 a aC).trans he, hz, hd', h1, gone T hnT, hTe, (sb.2 T tC).trans hT, hdT, h3⟩

section
variable {X : Cx} {E : XK}
/-- [elt for target in iter if ..], what may raise E inside -/
theorem pe_lcX {elt tg iter : Expr} {ifs : List Expr} {scope : Scope} {own : List (Str × Nat)} {pos : Pos} {wi : TI} {g : TG} {tt : TT} {te : TE} (tk : Tk X E) (hc : X.calm = true) (hN : X.N.Nodup) (hi : PI X tg iter wi) (ok : BlkOk X.N X.env.scope scope own)
    (hg : ∀ (s : Shared) (H : Hp) (C : Addr) (cl : List (Str × Addr)) (fp : List Addr) (xe : Value → Shared → Prop), Tk (blkE X s H scope (compEnvC scope cl C X.env) fp xe) E → PG (blkE X s H scope (compEnvC scope cl C X.env) fp xe) tg g)
    (ht : ∀ (s : Shared) (H : Hp) (C : Addr) (cl : List (Str × Addr)) (fp : List Addr) (xe : Value → Shared → Prop), Tk (blkE X s H scope (compEnvC scope cl C X.env) fp xe) E → PTs (blkE X s H scope (compEnvC scope cl C X.env) fp xe) ifs tt)
    (he : ∀ (s : Shared) (H : Hp) (C : Addr) (cl : List (Str × Addr)) (fp : List Addr) (xe : Value → Shared → Prop), Tk (blkE X s H scope (compEnvC scope cl C X.env) fp xe) E → PE (blkE X s H scope (compEnvC scope cl C X.env) fp xe) elt te)
    (hs : ∀ x, foldedSetIterable iter X.env x = pure x := by intro _; rfl) :
    PE X (.ListComp elt [⟨tg, iter, ifs, 0⟩] scope pos) (tLc wi g tt te (own.map (·.2))) := by
  refine ⟨fun pins s σ H Q I h => ?_⟩
  obtain ⟨L, Dm, outs, hstk, hDf, hXf, htk⟩ := tk
  rw [eval_ListComp]
  have hfree : ∀ y ∈ scope.names, y.2 = .free → ∃ c, X.env.cells.lookup y.1 = some c := fun y hy e => by
    rcases ok.free y hy e with k | k
    · exact I.ok.has _ (.inl k)
    · exact I.ok.has _ (.inr k)
  refine comp_x rfl hs (closure_ok hfree) ok.kind (fun y hy e => by rw [ok.uniq y hy, e])
    (thn (hi.run pins s σ H _ I h) fun xv s1 hx => thn hx fun itv s2 h2 => ?_)
  obtain ⟨it, fp, tn, J, H2, e, I2, T, st2, f2, q⟩ := h2
  subst e
  refine wpAny_newObj_type (newEnv_comp ?_) (by show 0 ≤ sizeLine; decide)
  generalize hD : s2.heap.objs.size = D
  have hDn : H2 D = none := I2.hok.fresh (Nat.le_of_eq hD)
  obtain ⟨W, ⟨m0, w0⟩, turn⟩ := q D hDn
  generalize hs3 : ({ s2 with heap := s2.heap.push { cls := .type "list", data := .seq ([] : List Value).toArray } } : Shared) = s3
  have I3 : Inv X pins σ (upd H2 D (.lst [])) s3 := by
    rw [← hs3]
    refine I2.laid (t' := s2.toks) (fun b o e => Heap.get?_push_of_some _ e) (Nat.le_of_eq hD) ⟨Nat.zero_le _, [], 0, .nil, ?_⟩
    rw [← hD]
    exact Heap.get?_push_size _ rfl
  have h3 : s3.heap = s2.heap.push { cls := .type "list", data := .seq ([] : List Value).toArray } := by rw [← hs3]
  have sz : ∀ b ∈ fp, b < s2.heap.objs.size := fun b hb => by
    obtain ⟨o, e, _⟩ := T.obj _ _ st2 b hb
    exact Heap.lt_size e
  have f3 : ∀ b ∈ fp, FpOk X pins (upd H2 D (.lst [])) b ∧ b < s3.heap.objs.size := fun b hb => by
    have hlt := sz b hb
    refine ⟨⟨?_, (f2 b hb).2⟩, by rw [h3, Heap.size_push]; exact Nat.lt_succ_of_lt hlt⟩
    rw [upd_ne (by rw [← hD]; exact Nat.ne_of_lt hlt)]
    exact (f2 b hb).1
  have st3 : tn 0 s3.heap := T.keep _ _ _ st2 fun b _ o e => by rw [h3]; exact Heap.get?_push_of_some _ e
  have I4 := block_start I3 ok hN f3
  generalize hcl : cellsFrom (s3.heap.objs.size + 1) scope.names (cloFrom X.env.cells scope.names []) = cl at I4
  have pg := hg s3 (upd H2 D (.lst [])) s3.heap.objs.size cl fp
  have pt := ht s3 (upd H2 D (.lst [])) s3.heap.objs.size cl fp
  have pe := he s3 (upd H2 D (.lst [])) s3.heap.objs.size cl fp
  show codeAny _ _ (.compStart (.ListComp elt [⟨tg, iter, ifs, 0⟩] scope pos) 0 (.ref it) (.ref D) (compEnvC scope cl s3.heap.objs.size X.env)) (cpX (model X.prog X.w) X.A X.xe (fun v s' => EP X pins σ Q v s') (.ref D) (newEnv scope s3.heap.objs.size X.env.globals cl X.env.qual none .none (some X.env) builtinsNs)) { s3 with heap := pushCells (s3.heap.push { cls := .type "dict", data := .dict #[] }) scope.names }
  have nL : (newEnv scope s3.heap.objs.size X.env.globals cl X.env.qual none .none (some X.env) builtinsNs).locals = s3.heap.objs.size := rfl
  have nF : (newEnv scope s3.heap.objs.size X.env.globals cl X.env.qual none .none (some X.env) builtinsNs).frame = some L := hXf
  generalize newEnv scope s3.heap.objs.size X.env.globals cl X.env.qual none .none (some X.env) builtinsNs = cn at nL nF ⊢
  have nfp : ∀ b ∈ fp, (upd H2 D (.lst [])) b = none := fun b hb => (f3 b hb).1.1
  have cF : (compEnvC scope cl s3.heap.objs.size X.env).frame = some L := hXf
  have cL : (compEnvC scope cl s3.heap.objs.size X.env).locals = s3.heap.objs.size := rfl
  generalize hce : compEnvC scope cl s3.heap.objs.size X.env = ce at I4 pg pt pe cF cL ⊢
  generalize hH3 : upd H2 D (.lst []) = H3 at I3 I4 pg pt pe w0 nfp f3
  generalize hs4 : ({ s3 with heap := pushCells (s3.heap.push { cls := .type "dict", data := .dict #[] }) scope.names } : Shared) = s4 at I4 ⊢
  have st4 : tn 0 s4.heap := T.keep _ _ _ st3 fun b _ o e => by rw [← hs4]; exact pushCells_keeps _ _ _ _ (Heap.get?_push_of_some _ e)
  generalize hR : cpX (model X.prog X.w) X.A X.xe (fun v s' => EP X pins σ Q v s') (.ref D) cn = R
  generalize hxe : notedBy (model X.prog X.w) X.A ce (fun e s' => R (.error e) s') = xe
  have tkb : Tk (blkE X s3 H3 scope ce fp xe) E := by
    refine ⟨L, Dm, outs, hstk, hDf, cF, fun u s' x => ?_⟩
    show xe u s'
    rw [← hxe]
    show wpAny _ _ (noteFrame u ce) _ _ s'
    refine wpAny_mono (XF.noted (X := blkE X s3 H3 scope ce fp xe) (E₁ := fun e s' => R (.error e) s') hstk hDf cF I3.ok.frames x) (fun _ s'' x' => ?_) fun _ _ z => z
    rw [← hR]
    obtain ⟨⟨m, hm⟩, ho⟩ := XF.out I3 (Nat.le_of_eq cL.symm) f3 x'
    rw [cL] at hm ho
    refine ⟨m, by rw [nL]; exact hm, fun h' sb c' hc' => ?_⟩
    rw [nL] at sb
    exact XF.passed (hc'.trans nF) (ho h' sb) (htk u)
  have pg := pg xe tkb
  have pt := pt xe tkb
  have pe := pe xe tkb
  have I4 := toE (xe := xe) I4
  have stat : ∀ {σ' : L2.St} {H' : Hp} {s' : Shared}, Inv (blkE X s3 H3 scope ce fp xe) [] σ' H' s' → (∀ b ∈ fp, H' b = none) → ∀ b ∈ fp, FpOk (blkE X s3 H3 scope ce fp xe) [] H' b := fun {σ' H' s'} I' hn b hb =>
    ⟨hn b hb, (I'.ok.exf b hb).1, I'.ok.exfs b hb, .inl hb, fun x c e => (I'.ok.exf b hb).2 x c e, fun p hp => absurd (show p ∈ ([] : List (Addr × Obj)) ++ [] from hp) (by simp)⟩
  have loop : codeAny (model X.prog X.w) X.A (.compLoop (.ListComp elt [⟨tg, iter, ifs, 0⟩] scope pos) 0 (.ref it) (.ref D) ce) R s4 := by
    refine compLoop_any (fun n s' => ∃ i H', Inv (blkE X s3 H3 scope ce fp xe) [] (wipe σ (own.map (·.2))) H' s' ∧ tn i s'.heap ∧ (∀ b ∈ fp, H' b = none) ∧ W i n H') ?_ m0 ⟨0, H3, I4, st4, nfp, w0⟩
    rintro n s5 ⟨i, H5, I5, st5, n5, w5⟩
    rw [hxe]
    rcases turn i n H5 w5 with ⟨stop, qq⟩ | ⟨go, Nx, hNx, step⟩
    · refine thnF (T.done (blkE X s3 H3 scope ce fp xe) rfl rfl rfl hc i [] s5 _ H5 (fun _ _ => False) I5 (stat I5 n5) st5 stop) fun r s6 ⟨hr, I6⟩ => ?_
      subst hr
      have I7 : Inv X pins σ H5 s6 := I3.call' (ch := fp) I6.os I6.base I6.hok I6.bare fun b hb => ⟨(f3 b hb).1.2.2.2.1, (f3 b hb).1.2.1, (f3 b hb).1.2.2.2.2.1, (f3 b hb).1.2.2.2.2.2⟩
      have nC : H5 s3.heap.objs.size = none := by
        have z : H5 ce.locals = none := I6.free
        rw [cL] at z
        exact z
      obtain ⟨m, hn, _⟩ := I6.loc
      have hn : s6.heap.Ns ce.locals m := hn
      rw [cL] at hn
      show R (.ok .next) s6
      rw [← hR]
      refine ⟨m, by rw [nL]; exact hn, fun h'' sb => ?_⟩
      rw [nL] at sb
      obtain ⟨f0, f1, f2, f3', f4, f5⟩ := I3.fpOk (H' := H5) (Nat.le_refl _) nC
      exact ⟨.ref D, H5, I7.turned (t' := s6.toks) (fun b o hb e => (sb.2 b hb).trans e) f0 f1 f3' f4 f5, rfl, qq⟩
    · refine thnF (T.item (blkE X s3 H3 scope ce fp xe) rfl rfl rfl hc i [] s5 _ H5 (fun _ _ => False) I5 (stat I5 n5) st5 go) fun r s6 ⟨u, hr, h6⟩ => ?_
      subst hr
      refine thnF h6 fun _ s7 ⟨x, H7, I7, r7, y7, st7, n7⟩ => ?_
      have I7' := I7.pinned (stat I7 n7) (T.obj _ _ st7)
      refine thn (pg.run _ s7 _ H7 x u _ I7' r7 (step x H7 y7)) fun _ s8 ⟨σ8, H8, I8, hw8, q8⟩ => ?_
      refine thn (pt.run _ s8 σ8 H8 _ I8 q8) fun b s9 ⟨H9, I9, q9⟩ => ?_
      have fin : ∀ {s' : Shared} {H' : Hp}, Inv (blkE X s3 H3 scope ce fp xe) ([] ++ pinsAt fp s7.heap) σ8 H' s' → Nx H' → ∃ m, m < n ∧ ∃ i H', Inv (blkE X s3 H3 scope ce fp xe) [] (wipe σ (own.map (·.2))) H' s' ∧ tn i s'.heap ∧ (∀ b ∈ fp, H' b = none) ∧ W i m H' := fun {s' H'} I' nx => by
        obtain ⟨m', hm, w'⟩ := hNx H' nx
        have pin' : ∀ b ∈ fp, ∀ o, s7.heap.get? b = some o → s'.heap.get? b = some o ∧ H' b = none := fun b hb o e =>
          let z := I'.pin (b, o) (List.mem_append_right _ (List.mem_append_right _ (mem_pinsAt hb e)))
          ⟨z.1, z.2.1⟩
        have hl : (wipe σ (own.map (·.2))).length = σ8.length := by rw [← hw8, wipe_length]
        refine ⟨m', hm, i + 1, H', (I'.unpinned (pins := [])).weak hl (fun j v e => ?_), T.keep _ _ _ st7 fun b hb o e => (pin' b hb o e).1, fun b hb => ?_, w'⟩
        · rw [← hw8] at e
          exact (wipe_some e).1
        · obtain ⟨o, e, _⟩ := T.obj _ _ st7 b hb
          exact (pin' b hb o e).2
      cases b with
      | false =>
        simp only [Bool.false_eq_true, if_false] at q9 ⊢
        exact fin I9 q9
      | true =>
        simp only [if_true] at q9 ⊢
        refine thn (pe.run _ s9 σ8 H9 _ I9 q9) fun z s10 ⟨yv, H10, I10, r10, acc, hD10, hz10, nx⟩ => ?_
        exact app_ok (X := blkE X s3 H3 scope ce fp xe) I10 hD10 hz10 r10 fun s11 I11 => fin I11 nx
  exact codeAny_compStart_list loop (T.self X.A 0 _ _ _ st4 loop)
end
section
variable {H : Hp} {Q : VK} {σ : L2.St} {wi : TI} {J : It} {m : Nat} {G : Hp → Prop} {Y : Nat → Hp → V → Hp → Prop} {g : TG} {te : TE} {vs : List Nat}
/-- a comprehension that can't come to its end: an element without P raises -/
theorem z_failW (P : Nat → Prop) (w : Walk J m G Y) (hm : m ≤ 1000) (hi : ∀ R : It → Hp → Prop, R J H → wi σ H R) (hG : ∀ H', Same H H' → G H') (no : ¬ ∀ i, i < m → P i)
    (hs : ∀ i x H' H2 (R : VK), i < m → Same H H' → Y i H' x H2 → (P i → ∀ v H3, Same H' H3 → R v H3) → g x (wipe σ vs) H2 fun σ2 H3 => wipe σ2 vs = wipe σ vs ∧ te σ2 H3 R) : tLc wi g tYes te vs σ H Q := by
  refine Cw.z_lcW w hi (fun i D acc H' => Same H H' ∧ H D = none ∧ ∀ k, k < i → P k) (fun D H' f s _ => ⟨s, f, fun k h => absurd h (Nat.not_lt_zero _)⟩) (fun i D acc H' h => hG _ h.1) (fun i x D acc H' H2 hi' hl' hD ⟨s', fD, hp⟩ y => ?_) (fun D acc H' fD hl' hD ⟨s', _, hp⟩ => absurd hp no)
  refine hs i x H' H2 _ hi' s' y fun p v H3 s3 => ?_
  refine z_lcB (s3 _ _ hD) hl' (by omega) fun H5 hD5 k5 e5 => ⟨fun b o h => ?_, fD, fun k hk => ?_⟩
  · rw [e5 b (ne_of_none h fD)]
    exact s3 _ _ (s' _ _ h)
  · rcases Nat.lt_succ_iff_lt_or_eq.mp hk with h | h
    · exact hp k h
    · exact h ▸ p
end
end Xc

/-! tuple(e for x in xs), whose element may call defs of the program -/
namespace Tg
open PySem PySem.Spec PyProof.Rows L2 GenW Gl GxR
/-- the context of a generator expression's own run -/
abbrev gx (X : Cx) (A' : Around) (s : Shared) (H : Hp) (ce : Env) (fp : List Addr) : Cx :=
  { X with A := A', s_0 := s, H_0 := H, env := ce, outer := X.stack, stack := ce :: X.stack, ex := fp, fn := fun _ => false, calm := true, pn := [], xe := fun _ _ => False }
section
variable {X : Cx} {pins : List (Addr × Obj)} {σ : L2.St} {H : Hp} {s : Shared}
theorem gen_start {A' : Around} {scope : Scope} {own : List (Str × Nat)} {fp : List Addr} {code : Value} {s' : Shared} (I : Inv X pins σ H s) (ok : BlkOk X.N X.env.scope scope own) (hcell : ∀ y ∈ scope.names, y.2 ≠ .cell) (hN : X.N.Nodup)
    (hfp : ∀ b ∈ fp, FpOk X pins H b ∧ b < s.heap.objs.size) (hd : A'.handled = none) (hA : A'.frames = some (genEnv scope (cloFrom X.env.cells scope.names []) s.heap.objs.size code builtinsNs X.env :: X.stack))
    (kp : ∀ b o, s.heap.get? b = some o → s'.heap.get? b = some o) (os : s'.os = s.os) (hb : AllBare s'.gens) (hns : ∃ m, s'.heap.Ns s.heap.objs.size m) :
    Inv (gx X A' s H (genEnv scope (cloFrom X.env.cells scope.names []) s.heap.objs.size code builtinsNs X.env) fp) [] (wipe σ (own.map (·.2))) H s' := by
  have hfree : ∀ y ∈ scope.names, y.2 = .free → ∃ c, X.env.cells.lookup y.1 = some c := fun y hy e => by
    rcases ok.free y hy e with k | k
    · exact I.ok.has _ (.inl k)
    · exact I.ok.has _ (.inr k)
  generalize hcenv : genEnv scope (cloFrom X.env.cells scope.names []) s.heap.objs.size code builtinsNs X.env = ce at hA ⊢
  have hL : ce.locals = s.heap.objs.size := by rw [← hcenv]; rfl
  have hcl : ce.cells = cloFrom X.env.cells scope.names [] := by rw [← hcenv]; rfl
  have hsc : ce.scope = scope := by rw [← hcenv]; rfl
  have cm : ∀ {y c}, (y, c) ∈ cloFrom X.env.cells scope.names [] → X.env.cells.lookup y = some c ∧ c < s.heap.objs.size := fun {y c} hm => by
    rcases cloFrom_mem hm with hm | ⟨h1, rfl⟩
    · cases hm
    · obtain ⟨c, hc⟩ := hfree _ h1 rfl
      rw [hc]
      obtain ⟨w, z⟩ := I.cell _ _ hc
      exact ⟨rfl, z.lt⟩
  have mem : ∀ {y c}, ce.cells.lookup y = some c → X.env.cells.lookup y = some c ∧ c < s.heap.objs.size := fun {y c} e => by
    rw [hcl] at e
    exact cm (PySem.mem_of_lookup e)
  have look : ∀ {y}, scope.names.lookup y = some .free → ∃ c, ce.cells.lookup y = some c ∧ X.env.cells.lookup y = some c := fun {y} hl => by
    have hy : (y, NameKind.free) ∈ scope.names := PySem.mem_of_lookup hl
    obtain ⟨c', e'⟩ := mem_lookup (cloFrom_has (cells := X.env.cells) (acc := []) hy)
    rw [← hcl] at e'
    exact ⟨c', e', (mem e').1⟩
  have noc : ∀ {y}, ce.kindOf y ≠ some .cell := fun {y} z => by
    unfold Env.kindOf at z
    rw [hsc] at z
    exact hcell _ (PySem.mem_of_lookup z) rfl
  obtain ⟨m, hm⟩ := hns
  have okB : (gx X A' s H ce fp).Ok := by
    refine ⟨I.ok.mod, by show ce.scope.kind = _; rw [hsc]; exact ok.kind, by show ce.globals = _; rw [← hcenv]; exact I.ok.glob, by show ce.builtins = _; rw [← hcenv]; rfl, by show s.heap.objs.size ≤ ce.locals; rw [hL]; exact Nat.le_refl _,
      fun y z c e1 e2 => I.ok.inj y z c (mem e1).1 (mem e2).1, fun y hy => ?_, fun y c z e => Bool.noConfusion z, fun _ => hd, hA, .inr ⟨rfl, ?_⟩, fun b hb => ⟨?_, fun y c e z => ?_⟩, I.bs, Nat.le_trans I.ok.bsz I.sz, fun b o e hb => ?_, fun b hb z => ?_, I.stack, I.stkFree⟩
    · rcases hy with hy | hy
      · exact absurd hy noc
      · have hy : ce.scope.names.lookup y = some .free := hy
        rw [hsc] at hy
        obtain ⟨c, h1, _⟩ := look hy
        exact ⟨c, h1⟩
    · show ce.frame = some ce.locals
      rw [← hcenv]
      rfl
    · show b ≠ ce.locals
      rw [hL]; exact Nat.ne_of_lt (hfp b hb).2
    · exact (hfp b hb).1.2.2.2.2.1 y c (mem e).1 z
    · rcases (hfp b hb).1.2.2.2.1 with z | z
      · exact I.ok.noex b o e z
      · exact absurd (Nat.lt_of_lt_of_le (Heap.lt_size e) (Nat.le_trans I.ok.bsz z)) (Nat.lt_irrefl _)
    · rcases List.mem_cons.mp (I.stkSub b z) with z | z
      · exact (hfp b hb).1.2.1 z
      · exact (hfp b hb).1.2.2.1 z
  refine ⟨okB, os, hb, Un.kept kp, ⟨m, ?_, fun i y av e1 e2 e3 => ?_⟩, fun y c e => ?_, ?_, fun y c e => I.freeC y c (mem e).1, fun p hp => ?_, I.hok.kept kp, by rw [wipe_length]; exact I.len⟩
  · show Heap.Ns _ ce.locals _
    rw [hL]
    exact hm
  · obtain ⟨e2, hne⟩ := wipe_some e2
    have hfr : scope.names.lookup y = some .free := by
      have e3 : Vis ce.scope y := e3
      rw [hsc] at e3
      have no : ∀ k', scope.names.lookup y = some k' → ¬ (k' = .local ∨ k' = .cell) := fun k' e hh => by
        rcases ok.own _ (PySem.mem_of_lookup e) hh with e' | e'
        · obtain ⟨p, hp, hpy⟩ := List.mem_map.mp e'
          have e3 := ok.ix p hp
          have : p.1 = y := hpy
          rw [this] at e3
          exact hne (List.mem_map.mpr ⟨p, hp, nodup_ix hN e3 e1⟩)
        · exact e' (List.mem_of_getElem? e1)
      rcases e3 with e3 | e3 | e3
      · exact absurd (.inl rfl) (no _ e3)
      · exact absurd (.inr rfl) (no _ e3)
      · exact e3
    obtain ⟨m, hn, hl⟩ := I.loc
    have hvis : Vis X.env.scope y := (ok.free _ (PySem.mem_of_lookup hfr) rfl).elim (fun k => .inr (.inl k)) (fun k => .inr (.inr k))
    obtain ⟨w, r, q⟩ := hl i y av e1 e2 hvis
    have kf : ce.kindOf y = some .free := by
      unfold Env.kindOf
      rw [hsc]
      exact hfr
    refine ⟨w, r, .inr ⟨.inr kf, ?_⟩⟩
    obtain ⟨c, h1, h2⟩ := look hfr
    rcases q with ⟨k, _⟩ | ⟨_, c', e', z⟩
    · have k : X.env.scope.names.lookup y = some .local := k
      rcases ok.free _ (PySem.mem_of_lookup hfr) rfl with k' | k' <;> rw [show X.env.scope.names.lookup y = _ from k'] at k <;> cases k
    · rw [h2] at e'; cases e'
      exact ⟨c, h1, z.keeps kp⟩
  · obtain ⟨w, z⟩ := I.cell y c (mem e).1
    exact ⟨w, z.keeps kp⟩
  · show H ce.locals = none
    rw [hL]; exact I.hok.fresh (Nat.le_refl _)
  · exact absurd (show p ∈ ([] : List (Addr × Obj)) ++ [] from hp) (by simp)
end
/-! ### a turn of the generator -/
abbrev gE (elt tg iter : Expr) (scope : Scope) (pos : Pos) : Expr := .GeneratorExp elt [⟨tg, iter, [], 0⟩] scope pos
abbrev cL (elt tg iter : Expr) (scope : Scope) (pos : Pos) (it : Addr) (ce : Env) : Code := .compLoop (gE elt tg iter scope pos) 0 (.ref it) .none ce
abbrev cS (elt tg iter : Expr) (scope : Scope) (pos : Pos) (it : Addr) (ce : Env) : Code := .compStart (gE elt tg iter scope pos) 0 (.ref it) .none ce
section
variable {A : Around} {elt tg iter : Expr} {scope : Scope} {pos : Pos} {it : Addr} {ce : Env}
theorem over_cL : A.over (cL elt tg iter scope pos it ce) [] = A.deeper ce := by
  first
    | rfl
    | (obtain ⟨hd, d, fr, gs, u⟩ := A; simp [Around.over, Around.deeper, marksOver, frameCount, unitsOf, envsOf, guardsOf, pushEnvs, pushGuards, Code.envs, Code.env?, Code.isFrame, Code.guards, Code.isGuard, Code.weight, Code.frames, Code.isCreation, Code.isCaller, Code.cUnits])
variable {GX : Cx} {pins : List (Addr × Obj)} {σ : L2.St} {H : Hp} {s : Shared} {fp : List Addr} {tn : Nat → Heap → Prop} {J : It} {g : TG} {te : TE} {i : Nat} {Φ : End → Shared → Prop} {vs : List Nat}
theorem sg_item (hA : A.over (cL elt tg iter scope pos it GX.env) [] = GX.A) (hco : GX.env.scope.isCoroutine = false) (hc : GX.calm = true) (hxe : GX.xe = fun _ _ => False)
    (hg : PG GX tg g) (he : PE GX elt te) (T : Turn GX.prog GX.w GX.K tg J fp it tn) (I : Inv GX pins σ H s) (hf : ∀ b ∈ fp, FpOk GX pins H b) (st : tn i s.heap) (go : J.go i H) {Post : V → Hp → Prop}
    (step : ∀ x H', J.yld i H x H' → g x σ H' fun σ2 H2 => wipe σ2 vs = σ ∧ te σ2 H2 fun y H3 => Post y H3)
    (hΦ : ∀ v y σ1 pl H3 s1, Inv GX (pins ++ pl) σ1 H3 s1 → wipe σ1 vs = σ → tn (i + 1) s1.heap → (∀ b ∈ fp, H3 b = none) → RelV y v → Post y H3 → ∀ k l p, Again GX.prog GX.w A (cL elt tg iter scope pos it GX.env) [] k → Φ (.susp v false l k (cL elt tg iter scope pos it GX.env) p []) s1) :
    Sg (model GX.prog GX.w) A Φ (cL elt tg iter scope pos it GX.env) ((model GX.prog GX.w).den (cL elt tg iter scope pos it GX.env)) [] s := by
  show Sg _ A Φ _ ((compTurn (gE elt tg iter scope pos) 0 (.ref it) .none GX.env).onRaise (leaving GX.env)) [] s
  rw [compTurn_gen, Sem.onRaise_eq_wrap]
  refine sg_bindw (wpAny_standAt ?_)
  refine sg_bindw ?_
  rw [hA]
  refine wpAny_mono (T.item GX rfl rfl rfl hc i pins s σ H (fun _ _ => False) I hf st go) (fun r s1 hr => ?_) fun _ _ z => z.elim
  obtain ⟨u, rfl, hu⟩ := hr
  refine sg_bindw ?_
  rw [hA]
  refine wpAny_mono hu (fun _ s2 h2 => ?_) fun _ _ z => z.elim
  obtain ⟨x, H2, I2, rx, yx, st2, fr2⟩ := h2
  have I2' := I2.pinned (fun b hb => ⟨fr2 b hb, (hf b hb).2⟩) (T.obj _ _ st2)
  refine sg_bindw ?_
  rw [hA]
  refine wpAny_mono (hg.run _ s2 σ H2 x u _ I2' rx (step x H2 yx)) (fun _ s3 h3 => ?_) fun _ _ z => by rw [hxe] at z; exact z.elim
  obtain ⟨σ3, H3, I3, hw3, q3⟩ := h3
  refine sg_bindw ?_
  rw [hA]
  simp only [List.forIn_nil]
  refine wpAny_pure ?_
  have hy : ∀ v, yieldOut GX.env v = yieldValue v := fun v => by
    simp only [yieldOut, hco, Bool.false_eq_true, if_false]
  simp only [if_true, hy]
  rw [Sem.bind_eq_wrap', Sem.bind_eq_wrap', Sem.wrap_wrap, Sem.wrap_wrap]
  refine sg_wrap ?_
  rw [hA]
  refine wpAny_mono (he.run _ s3 σ3 H3 _ I3 q3) (fun v s4 h4 => ?_) fun _ _ z => by rw [hxe] at z; exact z.elim
  obtain ⟨y, H4, I4, ry, q4⟩ := h4
  have keepT : tn (i + 1) s4.heap := T.keep _ _ _ st2 fun b hb o q => (I4.pin (b, o) (List.mem_append_right _ (List.mem_append_right _ (mem_pinsAt hb q)))).1
  have frT : ∀ b ∈ fp, H4 b = none := fun b hb => by
    obtain ⟨o, q, _⟩ := T.obj _ _ st2 b hb
    exact (I4.pin (b, o) (List.mem_append_right _ (List.mem_append_right _ (mem_pinsAt hb q)))).2.1
  refine sg_at (sg_yield rfl fun p => ?_)
  exact hΦ v y σ3 _ H4 s4 I4 hw3 keepT frT ry q4 _ _ p fun Φ' s' h' => sg_again rfl h'
theorem sg_done (hA : A.over (cL elt tg iter scope pos it GX.env) [] = GX.A) (hc : GX.calm = true) (T : Turn GX.prog GX.w GX.K tg J fp it tn) (I : Inv GX pins σ H s) (hf : ∀ b ∈ fp, FpOk GX pins H b) (st : tn i s.heap) (stop : J.stop i H)
    (hΦ : ∀ s1, Inv GX pins σ H s1 → Φ (.ret (.ok .next)) s1) :
    Sg (model GX.prog GX.w) A Φ (cL elt tg iter scope pos it GX.env) ((model GX.prog GX.w).den (cL elt tg iter scope pos it GX.env)) [] s := by
  show Sg _ A Φ _ ((compTurn (gE elt tg iter scope pos) 0 (.ref it) .none GX.env).onRaise (leaving GX.env)) [] s
  rw [compTurn_gen, Sem.onRaise_eq_wrap]
  refine sg_bindw (wpAny_standAt ?_)
  refine sg_bindw ?_
  rw [hA]
  refine wpAny_mono (T.done GX rfl rfl rfl hc i pins s σ H (fun _ _ => False) I hf st stop) (fun r s1 hr => ?_) fun _ _ z => z.elim
  obtain ⟨rfl, I1⟩ := hr
  exact sg_end (.ok .next) (hΦ s1 I1)
theorem sg_start {P : Program} {w : World} {K : PySem.W.Frag} (T : Turn P w K tg J fp it tn) (st : tn i s.heap) (loop : Sg (model P w) A Φ (cL elt tg iter scope pos it ce) ((model P w).den (cL elt tg iter scope pos it ce)) [] s) :
    Sg (model P w) A Φ (cS elt tg iter scope pos it ce) ((model P w).den (cS elt tg iter scope pos it ce)) [] s := by
  show Sg _ A Φ _ ((compStart (gE elt tg iter scope pos) 0 (.ref it) .none ce).onRaise (leaving ce)) [] s
  unfold compStart
  rw [Sem.onRaise_eq_wrap]
  show Sg _ A Φ _ ((ask >>= _).wrap _ _ _ _) [] s
  refine sg_bindw (wpAny_askSetting ?_)
  split
  · exact sg_again rfl loop
  · refine sg_bindw (wpAny_rule ?_)
    show Sg _ A Φ _ ((standAt iter.pos >>= _).wrap _ _ _ _) [] s
    exact sg_bindw (wpAny_standAt (sg_bindw (T.self _ i s _ _ st (sg_again rfl loop))))
end
section
variable {P : Program} {w : World} {A : Around} {E : Value → Shared → Prop} {s : Shared}
/-- the next item of a generator expression, or its end -/
theorem next_gx {a : Addr} {g : Nat} {gs : GenState} {Φ : End → Shared → Prop} {Q : Option Value → Shared → Prop} (hh : A.handled = none) (hl : s.heap.NoLimit) (hroom : A.depth < recursionLimit) (hg : s.heap.IsGen a g) (hgs : s.gens[g]? = some gs)
    (hgo : Wk (model P w) A.in1 Φ gs (s.setGen g .running))
    (hΦ : ∀ e s1, Φ e s1 → (∃ v l k c p fs, e = .susp v false l k c p fs ∧ fs.any Frame.guarded = false ∧ Q (some v) (s1.setGen g e.genState)) ∨
      (e = .ret (.ok .next) ∧ ∀ h', (∀ b o, s1.heap.get? b = some o → h'.get? b = some o) → Q none { s1.setGen g .finished with heap := h' })) : wpAny (model P w) A (pyNext (.ref a)) Q E s := by
  unfold pyNext
  apply wpAny_bind
  apply wpAny_attempt
  refine wpAny_callSpecial?_slot (name := Str.ofString "__next__") hg.typeIs slot_gen_next ?_
  refine wpAny_call_entry slot_gen_next hg.typeIs entry_gen_next ?_ (args_gen_next _)
  show wpAny _ A.in1 (Builtin.Generator.genWake (.ref a) (.send .none)) _ _ s
  unfold Builtin.Generator.genWake
  refine wpAny_bind (wpAny_holding (wpAny_genNumber hg ?_))
  refine wpAny_bind (wpAny_genState hgs ?_)
  have fin : ∀ e s1, Φ e s1 → e.quiet = true := fun e s1 h => by
    rcases hΦ e s1 h with ⟨v, l, k, c, p, fs, rfl, hfs, _⟩ | ⟨rfl, _⟩
    · show (!(false || fs.any Frame.guarded)) = true
      rw [hfs]
      rfl
    · rfl
  cases gs with
  | running => exact hgo.elim
  | finished => exact hgo.elim
  | fresh c0 =>
    apply wpAny_bind
    refine wpAny_roomToWake hl hroom ?_
    show wpAny (model P w) A.in1 (.resume g (.send .none) [] _) _ _ s
    refine wpAny_wake hgs hgo fun e s1 he => ⟨fin e s1 he, ?_⟩
    rcases hΦ e s1 he with ⟨v, l, k, c, p, fs, rfl, _, q⟩ | ⟨rfl, q⟩
    · exact wpAny_pure ⟨v, rfl, wpAny_pure q⟩
    · show wpAny (model P w) A.in1 (newExc (.type "StopIteration") [] >>= _) _ _ _
      apply wpAny_bind
      simp only [newExc, newTuple]
      apply wpAny_bind
      refine wpAny_newObj_type ?_ (by size_fits)
      refine wpAny_bind (m := firstArgMember _ _) (wpAny_of_eq (a := Value.none) ?_ ?_)
      · first
          | rfl
          | (simp only [firstArgMember]; rfl)
      refine wpAny_newObj_type ?_ (by size_fits)
      simp only [raiseNew]
      refine wpAny_bind (wpAny_bind (wpAny_handled ?_))
      rw [show A.in1.handled = none from hh]
      refine wpAny_throw (wpAny_bind ?_)
      refine wpAny_isInstance (T := "StopIteration") (b := true) ⟨_, Heap.get?_push_size _ rfl, rfl⟩ isSubtype_stop ?_
      exact wpAny_pure (q _ fun b o hb => Heap.get?_push_of_some _ (Heap.get?_push_of_some _ hb))
  | suspended k0 l0 c0 p0 fs0 cl =>
    apply wpAny_bind
    refine wpAny_roomToWake hl hroom ?_
    show wpAny (model P w) A.in1 (.resume g (.send .none) [] _) _ _ s
    refine wpAny_wake hgs hgo fun e s1 he => ⟨fin e s1 he, ?_⟩
    rcases hΦ e s1 he with ⟨v, l, k, c, p, fs, rfl, _, q⟩ | ⟨rfl, q⟩
    · exact wpAny_pure ⟨v, rfl, wpAny_pure q⟩
    · show wpAny (model P w) A.in1 (newExc (.type "StopIteration") [] >>= _) _ _ _
      apply wpAny_bind
      simp only [newExc, newTuple]
      apply wpAny_bind
      refine wpAny_newObj_type ?_ (by size_fits)
      refine wpAny_bind (m := firstArgMember _ _) (wpAny_of_eq (a := Value.none) ?_ ?_)
      · first
          | rfl
          | (simp only [firstArgMember]; rfl)
      refine wpAny_newObj_type ?_ (by size_fits)
      simp only [raiseNew]
      refine wpAny_bind (wpAny_bind (wpAny_handled ?_))
      rw [show A.in1.handled = none from hh]
      refine wpAny_throw (wpAny_bind ?_)
      refine wpAny_isInstance (T := "StopIteration") (b := true) ⟨_, Heap.get?_push_size _ rfl, rfl⟩ isSubtype_stop ?_
      exact wpAny_pure (q _ fun b o hb => Heap.get?_push_of_some _ (Heap.get?_push_of_some _ hb))
end
end Tg

namespace Tg
open PySem PySem.Spec PyProof.Rows L2 GenW Gl GxR
section
variable {GX : Cx} {A A1 : Around} {elt tg iter : Expr} {scope : Scope} {pos : Pos} {it : Addr} {pins : List (Addr × Obj)} {σ : L2.St} {H : Hp} {s : Shared} {fp : List Addr} {tn : Nat → Heap → Prop} {J : It} {g : TG} {te : TE} {i : Nat} {vs : List Nat} {E : Value → Shared → Prop}
/-- an address of ours: nothing knows it -/
structure Apart (GX : Cx) (fp : List Addr) (b : Addr) : Prop where
  loc : b ≠ GX.env.locals
  fs : b ∉ GX.fs
  new : GX.s_0.heap.objs.size ≤ b
  cell : ∀ x c, GX.env.cells.lookup x = some c → c ≠ b
  fp : b ∉ fp
/-- the generator asleep, i items taken; the collector's list at S -/
structure Alive (GX : Cx) (A1 : Around) (elt tg iter : Expr) (scope : Scope) (pos : Pos) (it : Addr) (σ : L2.St) (fp : List Addr) (tn : Nat → Heap → Prop) (a S gn i : Nat) (H : Hp) (us : List Value) (s : Shared) : Prop where
  inv : Inv GX [] σ H s
  at_ : tn i s.heap
  its : ∀ b ∈ fp, FpOk GX [] H b
  un : H a = none ∧ H S = none
  gen : s.heap.IsGen a gn
  gs : ∃ gs, s.gens[gn]? = some gs ∧ ∀ Φ s', tn i s'.heap → Sg (model GX.prog GX.w) A1 Φ (cL elt tg iter scope pos it GX.env) ((model GX.prog GX.w).den (cL elt tg iter scope pos it GX.env)) [] s' → Wk (model GX.prog GX.w) A1 Φ gs s'
  lst : ∃ c, s.heap.get? S = some { cls := .type "list", data := .seq us.toArray c }
theorem next_alive {a S gn : Nat} {us : List Value} (hA : A.in1.over (cL elt tg iter scope pos it GX.env) [] = GX.A) (hco : GX.env.scope.isCoroutine = false) (hc : GX.calm = true) (hxe : GX.xe = fun _ _ => False) (hpn : GX.pn = []) (hh : A.handled = none) (hroom : A.depth < recursionLimit)
    (hg : PG GX tg g) (he : PE GX elt te) (T : Turn GX.prog GX.w GX.K tg J fp it tn) (ea : Apart GX fp a) (eS : Apart GX fp S) (haS : a ≠ S) (al : Alive GX A.in1 elt tg iter scope pos it σ fp tn a S gn i H us s)
    (hl : σ.length = σ.length) {B : Prop} {Post : V → Hp → Prop} (turn : (B ∧ J.stop i H) ∨ (J.go i H ∧ ∀ x H', J.yld i H x H' → g x σ H' fun σ2 H2 => wipe σ2 vs = σ ∧ te σ2 H2 fun y H3 => Post y H3)) :
    wpAny (model GX.prog GX.w) A (pyNext (.ref a)) (fun r s' => (r = none ∧ B ∧ Inv GX [] σ H s' ∧ ∃ c, s'.heap.get? S = some { cls := .type "list", data := .seq us.toArray c }) ∨
      (∃ u y H', r = some u ∧ RelV y u ∧ Post y H' ∧ Alive GX A.in1 elt tg iter scope pos it σ fp tn a S gn (i + 1) H' us s')) E s := by
  obtain ⟨gs, hgs, wk⟩ := al.gs
  obtain ⟨cS, hS⟩ := al.lst
  obtain ⟨oa, nm, qn, hoa, ra⟩ := id al.gen
  have hgl : gn < s.gens.size := (Array.getElem?_eq_some_iff.mp hgs).1
  have I0 : Inv GX [] σ H (s.setGen gn .running) := inv_gens (s0 := s) al.inv ⟨s.gens, rfl⟩ (allBare_setGen al.inv.bare rfl)
  -- pins: a and S
  have I1 : Inv GX [(a, oa), (S, { cls := .type "list", data := .seq us.toArray cS })] σ H (s.setGen gn .running) := I0.pins_of fun p hp => by
    rcases List.mem_cons.mp hp with rfl | hp
    · refine ⟨hoa, al.un.1, ea.loc, ea.fs, fun v z => ?_⟩
      have := ra.2.1
      rw [z] at this
      cases this
    · obtain rfl := List.mem_singleton.mp hp
      exact ⟨hS, al.un.2, eS.loc, eS.fs, fun v z => by cases z⟩
  have hf : ∀ b ∈ fp, FpOk GX [(a, oa), (S, { cls := .type "list", data := .seq us.toArray cS })] H b := fun b hb => by
    obtain ⟨f0, f1, f2, f3, f4, _⟩ := al.its b hb
    refine ⟨f0, f1, f2, f3, f4, fun p hp => ?_⟩
    rw [hpn] at hp
    rcases List.mem_cons.mp hp with rfl | hp
    · exact fun z => ea.fp (by rw [show a = b from z]; exact hb)
    · obtain rfl := List.mem_singleton.mp hp
      exact fun z => eS.fp (by rw [show S = b from z]; exact hb)
  refine wpAny_gsz (n := gn + 1) hgl ?_
  refine next_gx (Φ := fun e s1 => (∃ v l k p y σ1 pl H1, e = .susp v false l k (cL elt tg iter scope pos it GX.env) p [] ∧ Inv GX ([(a, oa), (S, { cls := .type "list", data := .seq us.toArray cS })] ++ pl) σ1 H1 s1 ∧ wipe σ1 vs = σ ∧ tn (i + 1) s1.heap ∧ (∀ b ∈ fp, H1 b = none) ∧ RelV y v ∧ Post y H1 ∧
      Again GX.prog GX.w A.in1 (cL elt tg iter scope pos it GX.env) [] k) ∨ (e = .ret (.ok .next) ∧ B ∧ Inv GX [(a, oa), (S, { cls := .type "list", data := .seq us.toArray cS })] σ H s1)) hh al.inv.nolimit hroom al.gen hgs ?_ ?_
  · refine wk _ _ al.at_ ?_
    rcases turn with ⟨stop', stop⟩ | ⟨go, step⟩
    · exact sg_done hA hc T I1 hf al.at_ stop fun s1 I2 => .inr ⟨rfl, stop', I2⟩
    · exact sg_item (vs := vs) hA hco hc hxe hg he T I1 hf al.at_ go step fun v y σ1 pl H3 s1 I2 hw t2 f2 rv q k l p ag => .inl ⟨v, l, k, p, y, σ1, pl, H3, rfl, I2, hw, t2, f2, rv, q, ag⟩
  · rintro e s1 (⟨v, l, k, p, y, σ1, pl, H1, rfl, I2, hw, t2, f2, rv, q, ag⟩ | ⟨rfl, stop, I2⟩)
    · refine .inl ⟨v, l, k, _, p, [], rfl, rfl, fun hsz => ?_⟩
      have egs : (End.susp v false l k (cL elt tg iter scope pos it GX.env) p []).genState = .suspended k l (cL elt tg iter scope pos it GX.env) p [] false := rfl
      rw [egs] at hsz ⊢
      rw [setGen_size] at hsz
      have pa := I2.pin (a, oa) (List.mem_append_right _ (List.mem_append_left _ List.mem_cons_self))
      have pS := I2.pin (S, { cls := .type "list", data := .seq us.toArray cS }) (List.mem_append_right _ (List.mem_append_left _ (List.mem_cons_of_mem _ List.mem_cons_self)))
      have hlen : σ.length = σ1.length := by rw [← hw, wipe_length]
      have I3 : Inv GX [] σ H1 s1 := ((I2.unpinned (pins := [(a, oa), (S, { cls := .type "list", data := .seq us.toArray cS })])).unpinned (pins := [])).weak hlen fun j v e => by
        rw [← hw] at e
        exact (wipe_some e).1
      refine .inr ⟨v, y, H1, rfl, rv, q, ⟨inv_gens (s0 := s1) I3 ⟨s1.gens, rfl⟩ (allBare_setGen I3.bare rfl), t2, fun b hb => ⟨f2 b hb, (al.its b hb).2⟩, ⟨pa.2.1, pS.2.1⟩, ⟨oa, nm, qn, pa.1, ra⟩, ⟨_, setGen_at hsz, fun Φ' s' _ h' => ag Φ' s' h'⟩, cS, pS.1⟩⟩
    · refine .inr ⟨rfl, fun h' hk _ => .inl ⟨rfl, stop, ?_, cS, ?_⟩⟩
      · have I3 : Inv GX [] σ H s1 := I2.unpinned (pins := [])
        have I4 : Inv GX [] σ H (s1.setGen gn .finished) := inv_gens (s0 := s1) I3 ⟨s1.gens, rfl⟩ (allBare_setGen I3.bare rfl)
        exact I4.kept (t' := s1.toks) hk
      · exact hk _ _ (I2.pin (S, { cls := .type "list", data := .seq us.toArray cS }) (List.mem_append_right _ (List.mem_cons_of_mem _ List.mem_cons_self))).1
/-- what the reading asks of the generator's turns -/
def Wx (J : It) (g : TG) (te : TE) (vs : List Nat) (σ : L2.St) (W : Nat → Nat → List V → Hp → Prop) (Fin : List V → Hp → Prop) : Prop :=
  ∀ i m acc H, W i m acc H → (J.stop i H ∧ acc.length ≤ sizeLine ∧ Fin acc H) ∨ (J.go i H ∧ acc.length < sizeLine ∧ ∃ Nx : V → Hp → Prop, (∀ y H', Nx y H' → ∃ m', m' < m ∧ W (i + 1) m' (acc ++ [y]) H') ∧
    ∀ x H', J.yld i H x H' → g x σ H' fun σ2 H2 => wipe σ2 vs = σ ∧ te σ2 H2 Nx)
theorem drain {A0 : Around} {a S gn : Nat} {res : Value} {R : Result → Shared → Prop} {W : Nat → Nat → List V → Hp → Prop} {Fin : List V → Hp → Prop} (hA : A0.in1.in1.over (cL elt tg iter scope pos it GX.env) [] = GX.A) (hco : GX.env.scope.isCoroutine = false) (hc : GX.calm = true) (hxe : GX.xe = fun _ _ => False) (hpn : GX.pn = []) (hh : A0.handled = none) (hroom : A0.depth < recursionLimit)
    (hg : PG GX tg g) (he : PE GX elt te) (T : Turn GX.prog GX.w GX.K tg J fp it tn) (ea : Apart GX fp a) (eS : Apart GX fp S) (haS : a ≠ S) (wx : Wx J g te vs σ W Fin)
    (hR : ∀ s' H' acc us c, Inv GX [] σ H' s' → Vals acc us → acc.length ≤ sizeLine → Fin acc H' → s'.heap.get? S = some { cls := .type "list", data := .seq us.toArray c } → R (.ok (.ret res)) s') :
    ∀ m i H acc us s, Alive GX A0.in1.in1 elt tg iter scope pos it σ fp tn a S gn i H us s → Vals acc us → W i m acc H → codeAny (model GX.prog GX.w) A0 (.builtin "list.extend.loop" ⟨[.ref S, .ref a, res], []⟩) R s := by
  intro m
  induction m using Nat.strongRecOn with
  | ind m ih =>
  intro i H acc us s al rv w0
  refine codeAny_builtin F.entry_extend_loop ?_
  rw [Around.under_plainId F.plain_extend_loop _]
  show wpAny _ A0.in1 (pyNext (.ref a) >>= _) _ _ s
  rcases wx i m acc H w0 with ⟨stop, hz, fin⟩ | ⟨go, hz, Nx, hNx, step⟩
  · refine wpAny_bind (wpAny_mono (next_alive (E := fun _ _ => False) (A := A0.in1) (vs := vs) (B := True) (Post := fun _ _ => False) hA hco hc hxe hpn hh hroom hg he T ea eS haS al rfl (.inl ⟨trivial, stop⟩)) (fun r s1 h1 => ?_) fun _ _ z => z.elim)
    rcases h1 with ⟨rfl, _, I1, c, e1⟩ | ⟨_, _, _, _, _, z, _⟩
    · exact wpAny_pure (hR s1 H acc us c I1 rv hz fin e1)
    · exact z.elim
  · refine wpAny_bind (wpAny_mono (next_alive (E := fun _ _ => False) (A := A0.in1) (vs := vs) (B := False) (Post := Nx) hA hco hc hxe hpn hh hroom hg he T ea eS haS al rfl (.inr ⟨go, step⟩)) (fun r s1 h1 => ?_) fun _ _ z => z.elim)
    rcases h1 with ⟨rfl, stop, I1, c, e1⟩ | ⟨u, y, H1, rfl, ry, nx, al1⟩
    · exact stop.elim
    · obtain ⟨c, e1⟩ := al1.lst
      have lenV := rv.length
      show wpAny _ _ (updateSeq S (·.push u) >>= _) _ _ _
      have b1 : us.toArray.size ≤ sizeLine := by rw [List.size_toArray]; omega
      have b2 : (us.toArray.push u).size ≤ sizeLine + 1 := by rw [Array.size_push, List.size_toArray]; omega
      refine wpAny_bind ?_
      refine wpAny_updateSeq e1 rfl (wpAny_pure ⟨plainId_quiet F.plain_extend_loop _, ?_⟩) b1 b2
      obtain ⟨m', hm, w1⟩ := hNx y H1 nx
      have oth : ∀ b o, b ≠ S → s1.heap.get? b = some o → (s1.heap.update S (Obj.mapSeq (·.push u))).get? b = some o := fun b o h q => (Heap.get?_update_other _ _ (Ne.symm h)).trans q
      refine ih m' hm (i + 1) H1 (acc ++ [y]) (us ++ [u]) _ ⟨?_, ?_, al1.its, al1.un, ?_, al1.gs, ?_⟩ (rv.append (.cons ry .nil)) w1
      · exact al1.inv.turned (it := S) (t' := s1.toks) oth al1.un.2 eS.loc (.inr eS.new) eS.cell fun p hp => by
          rw [hpn] at hp
          exact absurd hp (by simp)
      · refine T.keep _ _ _ al1.at_ fun b hb o q => oth b o (fun z => eS.fp (by rw [← z]; exact hb)) q
      · obtain ⟨o, nm, qn, ho, r⟩ := al1.gen
        exact ⟨o, nm, qn, oth a o haS ho, r⟩
      · have := Heap.get?_update_self (Obj.mapSeq (·.push u)) e1 rfl
        refine ⟨c + 1, ?_⟩
        rw [this]
        simp [Obj.mapSeq]
end
end Tg

namespace Tg
open PySem PySem.Spec PyProof.Rows L2 GenW Gl GxR
section
variable {prog : Program} {w : World} {A : Around} {E : Value → Shared → Prop} {s : Shared} {I : Addr} {Fin : Array Value → Shared → Prop}
/-- the loop that the collector runs, from its list S just laid -/
def LoopOk (prog : Program) (w : World) (A : Around) (I : Addr) (s : Shared) (Fin : Array Value → Shared → Prop) : Prop :=
  ∀ (h1 : Heap) (t1 : Nat) (R : Result → Shared → Prop), (∀ b o, s.heap.get? b = some o → h1.get? b = some o) → (∃ c, h1.get? s.heap.objs.size = some { cls := .type "list", data := .seq #[] c }) →
    (∀ s' acc c, Fin acc s' → s'.heap.get? s.heap.objs.size = some { cls := .type "list", data := .seq acc c } → R (.ok (.ret (.ref s.heap.objs.size))) s') →
    codeAny (model prog w) A (.builtin "list.extend.loop" ⟨[.ref s.heap.objs.size, .ref I, .ref s.heap.objs.size], []⟩) R { s with heap := h1 }
theorem collect_g {Q : List Value → Shared → Prop} {gn : Nat} (hg : s.heap.IsGen I gn) (hl : LoopOk prog w A I s Fin) (hQ : ∀ s' acc, Fin acc s' → Q acc.toList s') : wpAny (model prog w) A (collect (.ref I)) Q E s := by
  obtain ⟨oa, _, _, hoa, _⟩ := id hg
  have hSI : s.heap.objs.size ≠ I := Nat.ne_of_gt (Heap.lt_size hoa)
  have gty : ∀ {h : Heap}, (∀ b o, s.heap.get? b = some o → h.get? b = some o) → h.IsGen I gn := fun {h} q => hg.keeps q
  unfold collect
  refine wpAny_bind (wpAny_runValue (codeAny_builtin F.entry_proto_collect ?_))
  rw [Around.under_plainId F.plain_proto_collect _]
  show wpAny _ A.in1 (newList [] >>= fun l => again (.builtin "list.__iadd__" ⟨[l, .ref I], []⟩)) _ _ s
  refine wpAny_bind (wpAny_newObj_type ?_ (by show 0 ≤ sizeLine; decide))
  refine wpAny_pure ⟨plainId_quiet F.plain_list_iadd _, codeAny_builtin F.entry_list_iadd ?_⟩
  rw [Around.under_plainId F.plain_list_iadd _]
  show wpAny _ A.in1 (Builtin.List.listExtendWith (.ref s.heap.objs.size) (.ref I) (.ref s.heap.objs.size)) _ _ _
  have k1 : ∀ b o, s.heap.get? b = some o → (s.heap.push { cls := .type "list", data := .seq ([] : List Value).toArray }).get? b = some o := fun b o e => Heap.get?_push_of_some _ e
  unfold Builtin.List.listExtendWith
  refine wpAny_bind (wpAny_typeOf (Heap.IsGen.typeIs (s := { s with heap := _ }) (gty k1)) ?_)
  have h1 : Builtin.List.listSameRef (.ref s.heap.objs.size) (.ref I) = false := by simp [Builtin.List.listSameRef, hSI]
  have h2 : (Value.type "generator" == Value.type "list") = false := by decide
  have h3 : (Value.type "generator" == Value.type "tuple") = false := by decide
  simp only [h1, h2, h3, Bool.or_false, Bool.false_eq_true, if_false]
  refine wpAny_bind (wpAny_pyIter_gen (s := { s with heap := _ }) (gty k1) ?_)
  refine wpAny_bind (wpAny_holding ?_)
  unfold Builtin.List.listLengthHint
  refine wpAny_bind (wpAny_specialOf (Heap.IsGen.typeIs (s := { s with heap := _ }) (gty k1)) F.gen_no_len ?_)
  show wpAny _ A.in1 (specialOf (Value.ref I) (Str.ofString "__length_hint__") >>= _) _ _ _
  refine wpAny_bind (wpAny_specialOf (Heap.IsGen.typeIs (s := { s with heap := _ }) (gty k1)) F.gen_no_hint ?_)
  refine wpAny_pure ?_
  show wpAny _ A.in1 (rule "list.extend.makes-room" >>= fun _ => Builtin.List.listTouch (.ref s.heap.objs.size) >>= fun _ =>
    again (.builtin "list.extend.loop" ⟨[.ref s.heap.objs.size, .ref I, .ref s.heap.objs.size], []⟩)) _ _ _
  refine wpAny_bind (wpAny_rule ?_)
  have hS₁ : (s.heap.push { cls := .type "list", data := .seq ([] : List Value).toArray }).get? s.heap.objs.size = some { cls := .type "list", data := .seq ([] : List Value).toArray } := Heap.get?_push_size _ rfl
  refine wpAny_bind ?_
  show wpAny _ A.in1 (updateSeq s.heap.objs.size (·.push .none) >>= fun _ => updateSeq s.heap.objs.size (·.pop)) _ _ _
  refine wpAny_bind (wpAny_updateSeq hS₁ rfl ?_)
  have hS₂ := Heap.get?_update_self (Obj.mapSeq (·.push Value.none)) hS₁ rfl
  refine wpAny_updateSeq (hz := by seq_fits) hS₂ rfl ?_
  have hS₃ := Heap.get?_update_self (Obj.mapSeq (·.pop)) hS₂ rfl
  have oth : ∀ b o, s.heap.get? b = some o →
      (((s.heap.push { cls := .type "list", data := .seq ([] : List Value).toArray }).update s.heap.objs.size (Obj.mapSeq (·.push Value.none))).update s.heap.objs.size (Obj.mapSeq (·.pop))).get? b = some o :=
    fun b o e => have hb := Nat.ne_of_lt (Heap.lt_size e); (Heap.get?_update_other _ _ (Ne.symm hb)).trans ((Heap.get?_update_other _ _ (Ne.symm hb)).trans (k1 b o e))
  refine wpAny_pure ⟨plainId_quiet F.plain_extend_loop _, hl _ s.toks _ oth ⟨_, hS₃⟩ fun s' acc c hm hS' => ?_⟩
  show wpAny _ A (load s.heap.objs.size >>= _) _ _ s'
  refine wpAny_bind (wpAny_load hS' ?_)
  exact wpAny_pure (hQ s' acc hm)
theorem code_tuple_g {Q₁ : Value → Shared → Prop} {gn : Nat} (hg : s.heap.IsGen I gn) (hl : LoopOk prog w A.in1 I s Fin) (hsz : ∀ s' acc, Fin acc s' → acc.size ≤ sizeLine)
    (h : ∀ s' acc, Fin acc s' → Q₁ (.ref s'.heap.objs.size) { s' with heap := s'.heap.push { cls := .type "tuple", data := .seq acc } }) :
    codeAny (model prog w) A (.call (.builtin "tuple.__new__") ⟨[.type "tuple", .ref I], []⟩) (wants Q₁ E) s := by
  refine codeAny_of_tree ?_
  show wpAny _ A.in1 (do checkBuiltinCall "tuple.__new__" ⟨[.type "tuple", .ref I], []⟩; again (.builtin "tuple.__new__" ⟨[.type "tuple", .ref I], []⟩)) _ _ s
  refine wpAny_bind (wpAny_of_eq (F.newCall_tuple_1 _) (wpAny_pure ⟨plainId_quiet F.plain_tuple_new _, codeAny_builtin F.entry_tuple_new ?_⟩))
  rw [Around.under_plainId F.plain_tuple_new _]
  have hsub := sub_tuple_self
  have hinit := init_tuple_lookup
  have hmh := madeHere_tuple
  have hTI := hg.typeIs (s := s)
  wp_walk using wpAny_typeOf hTI, collect_g (Fin := Fin) hg hl
  intro s' acc hacc
  show wpAny _ _ (Builtin.Tuple.tupleExact acc.toList.toArray >>= fun v => ret v) _ _ _
  unfold Builtin.Tuple.tupleExact
  refine wpAny_bind (wpAny_newObj_type ?_ (by show acc.toList.toArray.size ≤ sizeLine; simp only [Array.toArray_toList]; exact hsz _ _ hacc))
  refine wpAny_pure ?_
  have e : acc.toList.toArray = acc := by simp
  rw [e]
  exact h s' acc hacc
theorem call_tuple_g {Q : Value → Shared → Prop} {gn : Nat} (hg : s.heap.IsGen I gn) (hl : LoopOk prog w A.in1.in1 I s Fin) (hsz : ∀ s' acc, Fin acc s' → acc.size ≤ sizeLine)
    (hQ : ∀ s' acc, Fin acc s' → Q (.ref s'.heap.objs.size) { s' with heap := s'.heap.push { cls := .type "tuple", data := .seq acc } }) :
    wpAny (model prog w) A (call (.type "tuple") [.ref I]) Q E s := by
  refine callType_codes (Q₁ := fun obj s₁ => s₁.TypeIs obj "tuple" ∧ Q obj s₁) F.called_tuple (F.typeCall_tuple_1 _) F.entry_object_init
    (code_tuple_g hg hl hsz fun s' acc hacc => ⟨⟨_, Heap.get?_push_size _ rfl, rfl⟩, hQ s' acc hacc⟩) fun obj s₁ h₁ => ?_
  exact ⟨h₁.1, F.args_object_init_2 obj _, object_init_meets F.called_tuple.init.lookup F.called_tuple.made (by decide) prog w A.in1 _ s₁ ⟨h₁.1, rfl, h₁.2⟩⟩
end
section
variable {X : Cx} {k : Nat} {c P : Addr} {elt tg iter : Expr} {scope : Scope} {own : List (Str × Nat)} {pos gpos p : Pos} {wi : TI} {g : TG} {te : TE}
/-- tuple(e for target in iter): W by the turn, a measure and the values so far -/
def tTupG (P : Addr) (wi : TI) (g : TG) (te : TE) (vs : List Nat) : TE := fun σ H Q => wi σ H fun J H1 => TabG H1 P ∧ ∀ H2, Tabbed P H1 H2 → ∃ W : Nat → Nat → List V → Hp → Prop, (∃ m, W 0 m [] H2) ∧
  Wx J g te vs (wipe σ vs) W fun acc H' => ∀ q, H' q = none → Q (.ref q) (upd H' q (.tup acc))
theorem pe_tupG (hr : Room (k + 1) X.A) (TB : TabB X.base X.mg c P) (hcode : X.env.code = .ref c) (hN : X.N.Nodup) (hi : PI X tg iter wi) (ok : BlkOk X.N X.env.scope scope own) (hcell : ∀ y ∈ scope.names, y.2 ≠ .cell)
    (h0 : scope.names.lookup (".0" : Str) = some NameKind.local) (hco : scope.isCoroutine = false)
    (hg : ∀ (A' : Around) (s : Shared) (H : Hp) (C : Addr) (code : Value) (cl : List (Str × Addr)) (fp : List Addr), PG (gx X A' s H (genEnv scope cl C code builtinsNs X.env) fp) tg g)
    (he : ∀ (A' : Around) (s : Shared) (H : Hp) (C : Addr) (code : Value) (cl : List (Str × Addr)) (fp : List Addr), Room k A' → PE (gx X A' s H (genEnv scope cl C code builtinsNs X.env) fp) elt te)
    (hgl : Gl X "tuple") (hml : X.mg "tuple" = none)
    (hs : ∀ x, genFold iter X.env x = pure x := by intro _; rfl)
    (hst : starEach [.GeneratorExp elt [⟨tg, iter, [], 0⟩] scope gpos] X.env = (false, eval (.GeneratorExp elt [⟨tg, iter, [], 0⟩] scope gpos) X.env) :: starEach [] X.env := by rfl) :
    PE X (.Call (.Name "tuple" p) [.GeneratorExp elt [⟨tg, iter, [], 0⟩] scope gpos] [] pos) (tTupG P wi g te (own.map (·.2))) := by
  refine ⟨fun pins s σ H Q I h => ?_⟩
  refine wpAny_Call_Name_kw (ld_blt I hgl hml (by decide +kernel : bootBuiltins "tuple" = some (.type "tuple")) ?_)
  refine PyProof.Rows.callWith_type1 ?_ hst rfl
  rw [hst]
  show wpAny _ _ (spliced ((false, eval (.GeneratorExp elt [⟨tg, iter, [], 0⟩] scope gpos) X.env) :: backTo pos (starEach [] X.env))) _ _ s
  have hfree : ∀ y ∈ scope.names, y.2 = .free → ∃ c, X.env.cells.lookup y.1 = some c := fun y hy e => by
    rcases ok.free y hy e with k | k
    · exact I.ok.has _ (.inl k)
    · exact I.ok.has _ (.inr k)
  -- the generator is made
  have mk : wpAny (model X.prog X.w) X.A (eval (.GeneratorExp elt [⟨tg, iter, [], 0⟩] scope gpos) X.env) (fun v s6 => ∃ (it : Addr) (fp : List Addr) (tn : Nat → Heap → Prop) (J : It) (H2 : Hp) (s4 : Shared) (code : Value) (a gn : Nat), v = .ref a ∧
      Inv X pins σ H2 s4 ∧ Turn X.prog X.w X.K tg J fp it tn ∧ tn 0 s6.heap ∧ (∀ b ∈ fp, FpOk X pins H2 b ∧ b < s4.heap.objs.size) ∧ (∃ W : Nat → Nat → List V → Hp → Prop, (∃ m, W 0 m [] H2) ∧ Wx J g te (own.map (·.2)) (wipe σ (own.map (·.2))) W fun acc H' => ∀ q, H' q = none → Q (.ref q) (upd H' q (.tup acc))) ∧
      (∀ b o, s4.heap.get? b = some o → s6.heap.get? b = some o) ∧ s6.os = s4.os ∧ AllBare s6.gens ∧ (∃ m, s6.heap.Ns s4.heap.objs.size m) ∧ s6.heap.IsGen a gn ∧ s4.heap.objs.size < a ∧
      s6.gens[gn]? = some (.fresh (cS elt tg iter scope gpos it (genEnv scope (cloFrom X.env.cells scope.names []) s4.heap.objs.size code builtinsNs X.env)))) X.xe s := by
    refine wpAny_GeneratorExp_make hco (closure_ok hfree) hcell h0 ok.kind (by have := hr.dp; omega) ?_ hs
    refine thn (hi.run pins s σ H _ I h) fun xv s1 hx => thn hx fun itv s2 h2 => ?_
    obtain ⟨it, fp, tn, J, H1, rfl, I1, T, st, f1, ⟨ps, hP, ht⟩, q⟩ := h2
    have hPs : s2.heap.get? P = some { cls := .none, data := .fields ps } := I1.hok P _ hP
    have cd : PySem.W.CodeHd s2.heap c P := TB.code.keeps fun b u e => I1.bk b u e
    have nPfp : P ∉ fp := fun z => by
      have := (f1 P z).1
      rw [hP] at this; cases this
    have cont : ∀ (code : Value) (h3 : Heap) (tk : Nat) (more : Array Value), Heap.ExtBut P s2.heap h3 → s2.heap.objs.size ≤ h3.objs.size → h3.get? P = some { cls := .none, data := .fields (ps ++ more) } → TriplesOk (ps ++ more).toList →
        wpAny (model X.prog X.w) X.A (builtinsFor X.env.globals X.env.builtins) (fun bi s₄ =>
          ∀ h', h'.Ns s₄.heap.objs.size (fun y => if y = ".0" then some (Value.ref it) else none) → Heap.SameBut s₄.heap.objs.size (s₄.heap.push { cls := .type "frame", data := .dict #[] }) h' →
            ∃ (it1 : Addr) (fp : List Addr) (tn : Nat → Heap → Prop) (J : It) (H2 : Hp) (s4 : Shared) (code' : Value) (a gn : Nat), Value.ref h'.objs.size = .ref a ∧
      Inv X pins σ H2 s4 ∧ Turn X.prog X.w X.K tg J fp it1 tn ∧ tn 0 (h'.push { cls := .type "generator", data := .fields #[.int s₄.gens.size 0, .str "<genexpr>" (s₄.toks + 1), .str (X.env.qual ++ "<genexpr>") (s₄.toks + 1 + 1)] }) ∧ (∀ b ∈ fp, FpOk X pins H2 b ∧ b < s4.heap.objs.size) ∧ (∃ W : Nat → Nat → List V → Hp → Prop, (∃ m, W 0 m [] H2) ∧ Wx J g te (own.map (·.2)) (wipe σ (own.map (·.2))) W fun acc H' => ∀ q, H' q = none → Q (.ref q) (upd H' q (.tup acc))) ∧
      (∀ b o, s4.heap.get? b = some o → (h'.push { cls := .type "generator", data := .fields #[.int s₄.gens.size 0, .str "<genexpr>" (s₄.toks + 1), .str (X.env.qual ++ "<genexpr>") (s₄.toks + 1 + 1)] }).get? b = some o) ∧ s₄.os = s4.os ∧ AllBare (s₄.gens.push (.fresh (cS elt tg iter scope gpos it (genEnv scope (cloFrom X.env.cells scope.names []) s₄.heap.objs.size code bi X.env)))) ∧
      (∃ m, (h'.push { cls := .type "generator", data := .fields #[.int s₄.gens.size 0, .str "<genexpr>" (s₄.toks + 1), .str (X.env.qual ++ "<genexpr>") (s₄.toks + 1 + 1)] }).Ns s4.heap.objs.size m) ∧ (h'.push { cls := .type "generator", data := .fields #[.int s₄.gens.size 0, .str "<genexpr>" (s₄.toks + 1), .str (X.env.qual ++ "<genexpr>") (s₄.toks + 1 + 1)] }).IsGen a gn ∧ s4.heap.objs.size < a ∧
      (s₄.gens.push (.fresh (cS elt tg iter scope gpos it (genEnv scope (cloFrom X.env.cells scope.names []) s₄.heap.objs.size code bi X.env))))[gn]? = some (.fresh (cS elt tg iter scope gpos it1 (genEnv scope (cloFrom X.env.cells scope.names []) s4.heap.objs.size code' builtinsNs X.env)))) X.xe { s2 with heap := h3, toks := tk } := by
      intro code h3 tk more hx hsz hP3 ht3
      obtain ⟨bm, ob, e1, e2, e3, e4, e5, e6, e7, e8⟩ := TB.bm
      have keep3 : ∀ b u, b ≠ P → s2.heap.get? b = some u → h3.get? b = some u := fun b u hb e => hx b u hb e
      refine wpAny_builtinsFor (m := X.mg) (by rw [I1.ok.glob]; exact (I1.mod.glob.keeps I1.bk).extBut hx TB.gP) e1 e2 (keep3 _ _ e4 (I1.bk _ _ e5)) e6 e7 e8 ?_
      intro h' hn' hs'
      have I2 := inv_tab (more := more) (h' := h3) (g' := s2.gens) (d' := s2.drawn) (t' := tk) I1 hP (fun b o hb e => keep3 b o hb e) hP3 I1.bare
      have keep4 : ∀ b o, h3.get? b = some o → h'.get? b = some o := fun b o e => hs'.extBut b o (Nat.ne_of_lt (Heap.lt_size e)) (Heap.get?_push_of_some _ e)
      have hsz' : h'.objs.size = h3.objs.size + 1 := by rw [hs'.1, Heap.size_push]
      have q2 := q (upd H1 P (.tbl (ps ++ more))) ⟨⟨ps ++ more, upd_same, ht3⟩, fun b hb => upd_ne hb⟩
      refine ⟨it, fp, tn, J, _, _, code, h'.objs.size, s2.gens.size, rfl, I2, T, ?_, fun b hb => ?_, q2, fun b o e => Heap.get?_push_of_some _ (keep4 b o e), rfl, AllBare.push I1.bare rfl, ⟨_, hn'.push _⟩, ⟨_, _, _, Heap.get?_push_size _ rfl, rfl, rfl, rfl⟩, ?_, Array.getElem?_push_size ..⟩
      · refine T.keep _ _ _ st fun b hb o e => Heap.get?_push_of_some _ (keep4 b o (keep3 b o (fun z => nPfp (by rw [← z]; exact hb)) e))
      · obtain ⟨f0, fr⟩ := f1 b hb
        obtain ⟨o, e, _⟩ := T.obj _ _ st b hb
        refine ⟨⟨?_, fr⟩, Heap.lt_size (keep3 b o (fun z => nPfp (by rw [← z]; exact hb)) e)⟩
        rw [upd_ne (fun z => nPfp (by rw [← z]; exact hb))]
        exact f0
      · show h3.objs.size < h'.objs.size
        omega
    refine ⟨I1.nolimit, ?_⟩
    cases hf : codeAmong gpos ps.toList with
    | none =>
      refine wpAny_genexprCodeX hcode (cd.code hPs ht) (cd.tab hPs) hf fun c' h' tk hx hge hlt hco' _ htab' _ => ?_
      obtain ⟨o1, vs, f1, tf, fl, tg, inF, tx, tt, op, _, _, _, _, _, _, _, _, _, htr, _⟩ := hco'
      exact cont _ h' tk _ hx (Nat.le_trans hge (Nat.le_of_lt hlt)) htab'.2 htr
    | some cv =>
      refine wpAny_genexprCode_hit hcode (cd.code hPs ht) hf ?_
      have := cont cv s2.heap s2.toks #[] (Heap.ExtBut.refl _ _) (Nat.le_refl _) (by rw [Array.append_empty]; exact hPs) (by rw [Array.append_empty]; exact ht)
      exact this
  refine Calls.spliced_cons (thn mk fun v s6 hv => ?_)
  obtain ⟨it, fp, tn, J, H2, s4, code, a, gn, rfl, I4, T, st6, f4, ⟨W, ⟨m0, w0⟩, wx⟩, k6, os6, b6, ns6, gen6, ha6, gs6⟩ := hv
  refine Calls.spliced_nil ?_
  generalize hce : genEnv scope (cloFrom X.env.cells scope.names []) s4.heap.objs.size code builtinsNs X.env = ce at gs6
  have hceL : ce.locals = s4.heap.objs.size := by rw [← hce]; rfl
  have hAf : (X.A.in1.in1.in1.in1.deeper ce).frames = some (ce :: X.stack) := Around.frames_deeper (env := ce) I4.ok.frames
  have IG : Inv (gx X (X.A.in1.in1.in1.in1.deeper ce) s4 H2 ce fp) [] (wipe σ (own.map (·.2))) H2 s6 := by
    rw [← hce]
    exact gen_start I4 ok hcell hN f4 hr.hd (by rw [hce]; exact hAf) k6 os6 b6 ns6
  have hroom : Room k (X.A.in1.in1.in1.in1.deeper ce) := ⟨hr.hd, by have := hr.dp; show X.A.depth + 1 + 3 * k + 5 < _; omega, by have := hr.un; show X.A.units + 1 + 1 + 1 + 1 + 3 + 16 * k + 200 < _; omega⟩
  have pg := hg (X.A.in1.in1.in1.in1.deeper ce) s4 H2 s4.heap.objs.size code (cloFrom X.env.cells scope.names []) fp
  have pe := he (X.A.in1.in1.in1.in1.deeper ce) s4 H2 s4.heap.objs.size code (cloFrom X.env.cells scope.names []) fp hroom
  rw [hce] at pg pe
  have cell4 : ∀ x c, ce.cells.lookup x = some c → c < s4.heap.objs.size := fun x c e => by
    rw [← hce] at e
    rcases cloFrom_mem (PySem.mem_of_lookup (show (cloFrom X.env.cells scope.names []).lookup x = some c from e)) with hm | ⟨h1, rfl⟩
    · cases hm
    · obtain ⟨c, hc⟩ := hfree _ h1 rfl
      rw [hc]
      obtain ⟨w, z⟩ := I4.cell _ _ hc
      exact z.lt
  have fs4 : ∀ b, s4.heap.objs.size ≤ b → b ∉ frs X.stack := fun b hb z => by
    obtain ⟨_, o, ho, _⟩ := I4.stack.mem z
    exact absurd (Nat.lt_of_lt_of_le (Heap.lt_size ho) hb) (Nat.lt_irrefl _)
  have apart : ∀ b, s4.heap.objs.size < b → Apart (gx X (X.A.in1.in1.in1.in1.deeper ce) s4 H2 ce fp) fp b := fun b hb =>
    ⟨by show b ≠ ce.locals; rw [hceL]; exact Nat.ne_of_gt hb, fs4 b (Nat.le_of_lt hb), Nat.le_of_lt hb, fun x c e => Nat.ne_of_lt (Nat.lt_trans (cell4 x c e) hb), fun z => absurd (Nat.lt_trans hb (f4 b z).2) (Nat.lt_irrefl _)⟩
  obtain ⟨oa, nm, qn, hoa, ra⟩ := id gen6
  have aS : a < s6.heap.objs.size := Heap.lt_size hoa
  have ha2 : H2 a = none := I4.hok.fresh (Nat.le_of_lt ha6)
  have hS2 : H2 s6.heap.objs.size = none := I4.hok.fresh (Nat.le_of_lt (Nat.lt_trans ha6 aS))
  refine call_tuple_g (Fin := fun acc s' => ∃ vs H', Vals vs acc.toList ∧ vs.length ≤ sizeLine ∧ Inv X pins σ H' s' ∧ ∀ q, H' q = none → Q (.ref q) (upd H' q (.tup vs))) gen6 ?_ ?_ ?_
  · intro h1 t1 R kh ⟨cS, hS⟩ hR
    refine drain (iter := iter) (scope := scope) (pos := gpos) (GX := gx X (X.A.in1.in1.in1.in1.deeper ce) s4 H2 ce fp) (A0 := X.A.in1.in1) (W := W) (Fin := fun acc H' => ∀ q, H' q = none → Q (.ref q) (upd H' q (.tup acc))) (vs := own.map (·.2)) over_cL (by show ce.scope.isCoroutine = false; rw [← hce]; exact hco) rfl rfl rfl hr.hd (by have := hr.dp; show X.A.depth < _; omega) pg pe T (apart a ha6) (apart _ (Nat.lt_trans ha6 aS)) (Nat.ne_of_lt aS) wx ?_ m0 0 H2 [] [] _
      ⟨IG.kept (t' := s6.toks) kh, T.keep _ _ _ st6 fun b _ o e => kh b o e, fun b hb => ?_, ⟨ha2, hS2⟩, gen6.keeps kh, ⟨_, gs6, fun Φ s' st' loop => ?_⟩, cS, hS⟩ .nil w0
    · intro s' H' acc us cc I' rv hz fin e
      have I7 : Inv X pins σ H' s' := I4.call' (ch := fp) I'.os I'.base I'.hok I'.bare fun b hb => ⟨(f4 b hb).1.2.2.2.1, (f4 b hb).1.2.1, (f4 b hb).1.2.2.2.2.1, (f4 b hb).1.2.2.2.2.2⟩
      exact hR s' us.toArray cc ⟨acc, H', by simpa using rv, hz, I7, fin⟩ e
    · obtain ⟨⟨f0, f1, f2, f3, f4', f5⟩, hlt⟩ := f4 b hb
      refine ⟨f0, ?_, ?_, .inl hb, fun x c e => ?_, fun p hp => absurd (show p ∈ ([] : List (Addr × Obj)) ++ [] from hp) (by simp)⟩
      · exact (IG.ok.exf b hb).1
      · exact IG.ok.exfs b hb
      · exact (IG.ok.exf b hb).2 x c e
    · exact sg_start T st' loop
  · rintro s' acc ⟨vs, H', rv, hz, _⟩
    have := rv.length
    have e2 : acc.toList.length = acc.size := Array.length_toList
    omega
  · rintro s' acc ⟨vs, H', rv, hz, I7, fin⟩
    refine ⟨.ref s'.heap.objs.size, upd H' s'.heap.objs.size (.tup vs), ?_, rfl, fin _ (I7.hok.fresh (Nat.le_refl _))⟩
    refine I7.laid (t' := s'.toks) (fun b o e => Heap.get?_push_of_some _ e) (Nat.le_refl _) ⟨hz, acc.toList, rv, ?_⟩
    exact ⟨_, Heap.get?_push_size _ rfl, rfl, 0, by simp⟩
end
end Tg

namespace Tg
open PySem PySem.Spec PyProof.Rows L2 Z GxR LamX
/-- all but the tables of code objects is kept -/
structure SameX (H H' : Hp) : Prop where
  keep : ∀ b x, (∀ ps, x ≠ .tbl ps) → H b = some x → H' b = some x
  tab : ∀ P, TabG H P → TabG H' P
section
variable {K : PySem.W.Frag} {H H' H'' : Hp}
theorem SameX.of (s : Same H H') : SameX H H' := ⟨fun b x _ h => s b x h, fun P ⟨ps, h, t⟩ => ⟨ps, s _ _ h, t⟩⟩
theorem SameX.refl : SameX H H := ⟨fun _ _ _ h => h, fun _ h => h⟩
theorem SameX.trans (a : SameX H H') (b : SameX H' H'') : SameX H H'' := ⟨fun c x n h => b.keep c x n (a.keep c x n h), fun P h => b.tab P (a.tab P h)⟩
theorem SameX.th (a : SameX H H') (b : Same H' H'') : SameX H H'' := a.trans (.of b)
theorem SameX.ofTab {P : Addr} (t : Tabbed P H H') (h : TabG H P) : SameX H H' := by
  obtain ⟨t1, t2⟩ := t
  refine ⟨fun b x n e => ?_, fun R q => ?_⟩
  · by_cases hb : b = P
    · obtain ⟨ps, hP, _⟩ := h
      rw [hb, hP] at e
      cases e
      exact absurd rfl (n ps)
    · rw [t2 b hb]; exact e
  · by_cases hb : R = P
    · rw [hb]; exact t1
    · obtain ⟨ps, hR, z⟩ := q
      exact ⟨ps, by rw [t2 R hb]; exact hR, z⟩
theorem SameX.lst {a : Addr} {xs : List V} (s : SameX H H') (h : H a = some (.lst xs)) : H' a = some (.lst xs) := s.keep _ _ (fun _ z => by cases z) h
theorem SameX.tup {a : Addr} {xs : List V} (s : SameX H H') (h : H a = some (.tup xs)) : H' a = some (.tup xs) := s.keep _ _ (fun _ z => by cases z) h
theorem SameX.seqT {a : Addr} {xs : List V} (s : SameX H H') (h : SqT K H a xs) : SqT K H' a xs := by
  rcases h with (h | ⟨o, h⟩) | h
  · exact .inl (.inl (s.tup h))
  · exact .inl (.inr ⟨o, s.keep _ _ (fun _ z => by cases z) h⟩)
  · exact .inr h
theorem SameX.seqL {a : Addr} {xs : List V} (s : SameX H H') (h : SqL K H a xs) : SqL K H' a xs := by
  rcases h with (h | ⟨o, h⟩) | h
  · exact .inl (.inl (s.lst h))
  · exact .inl (.inr ⟨o, s.keep _ _ (fun _ z => by cases z) h⟩)
  · exact .inr h
mutual
theorem SameX.dp (s : SameX H H') : ∀ {d : PyData} {v : V}, Dp K H v d → Dp K H' v d
  | _, _, .non => .non
  | _, _, .bl b => .bl b
  | _, _, .int i => .int i
  | _, _, .str x => .str x
  | _, _, .lst h a => .lst (s.seqL h) (SameX.dpA s a)
  | _, _, .tup h a => .tup (s.seqT h) (SameX.dpA s a)
theorem SameX.dpA (s : SameX H H') : ∀ {ds : List PyData} {vs : List V}, DpAll K H vs ds → DpAll K H' vs ds
  | _, _, .nil => .nil
  | _, _, .cons h a => .cons (SameX.dp s h) (SameX.dpA s a)
end
theorem dpA_app : ∀ {vs ws : List V} {ds es : List PyData}, DpAll K H vs ds → DpAll K H ws es → DpAll K H (vs ++ ws) (ds ++ es)
  | _, _, _, _, .nil, k => k
  | _, _, _, _, .cons h a, k => .cons h (dpA_app a k)
end
section
variable {K : PySem.W.Frag} {H : Hp} {Q : VK} {σ : L2.St} {wi : TI} {J : It} {m : Nat} {G : Hp → Prop} {Y : Nat → Hp → V → Hp → Prop} {g : TG} {te : TE} {P : Addr} {vs : List Nat}
theorem z_tupG (w : Walk J m G Y) (hm : m ≤ 1000) (hi : ∀ R : It → Hp → Prop, R J H → wi σ H R) (hP : TabG H P) (Pv : Nat → List V → Hp → Prop) (h0 : ∀ H', SameX H H' → Pv 0 [] H') (hG : ∀ i acc H', Pv i acc H' → G H')
    (hs : ∀ i x acc H' H2, i < m → acc.length = i → Pv i acc H' → Y i H' x H2 → g x (wipe σ vs) H2 fun σ2 H3 => wipe σ2 vs = wipe σ vs ∧ te σ2 H3 fun y H4 => Pv (i + 1) (acc ++ [y]) H4)
    (hd : ∀ acc H' p H'', acc.length = m → Pv m acc H' → H' p = none → Same H' H'' → H'' p = some (.tup acc) → Q (.ref p) H'') : tTupG P wi g te vs σ H Q := by
  refine hi _ ⟨hP, fun H2 t => ⟨fun i n acc H' => n = m - i ∧ i ≤ m ∧ acc.length = i ∧ Pv i acc H', ⟨m, by simp, Nat.zero_le _, rfl, h0 _ (.ofTab t hP)⟩, ?_⟩⟩
  rintro i n acc H' ⟨rfl, hi', hl, p⟩
  have q := hG i acc H' p
  have h1000 : (1000 : Nat) < sizeLine := by decide
  by_cases hlt : i < m
  · refine .inr ⟨w.goes i H' hlt q, by omega, fun y H4 => Pv (i + 1) (acc ++ [y]) H4, fun y H4 p4 => ⟨m - (i + 1), by omega, rfl, hlt, by rw [List.length_append, hl]; rfl, p4⟩, fun x H2 y => hs i x acc H' H2 hlt hl p (w.yields i H' x H2 hlt q y)⟩
  · have e : i = m := by omega
    subst e
    exact .inl ⟨w.stops H' q, by omega, fun p' hp => hd acc H' p' _ hl p hp (same_upd hp) upd_same⟩
/-- .. whose elements are data -/
theorem z_tupD (ds : List PyData) (w : Walk J m G Y) (hl : ds.length = m) (hm : m ≤ 1000) (hi : ∀ R : It → Hp → Prop, R J H → wi σ H R) (hP : TabG H P) (hG : ∀ H', SameX H H' → G H')
    (hs : ∀ i x d H' H2 (R : VK), ds[i]? = some d → i < m → SameX H H' → Y i H' x H2 → (∀ v H3, SameX H' H3 → Dp K H3 v d → R v H3) → g x (wipe σ vs) H2 fun σ2 H3 => wipe σ2 vs = wipe σ vs ∧ te σ2 H3 R)
    (hd : ∀ acc p H', SameX H H' → acc.length = m → H' p = some (.tup acc) → DpAll K H' acc ds → Q (.ref p) H') : tTupG P wi g te vs σ H Q := by
  refine z_tupG w hm hi hP (fun i acc H' => SameX H H' ∧ DpAll K H' acc (ds.take i)) (fun H' s => ⟨s, .nil⟩) (fun i acc H' h => hG _ h.1) (fun i x acc H' H2 hi' hl' ⟨s, a⟩ y => ?_) fun acc H' p H'' hl' ⟨s, a⟩ hp s2 e => ?_
  · have hw : ds[i]? = some ds[i] := List.getElem?_eq_getElem (by omega)
    refine hs i x ds[i] H' H2 _ hw hi' s y fun v H3 s3 dv => ⟨s.trans s3, ?_⟩
    rw [List.take_add_one, hw]
    exact dpA_app (s3.dpA a) (.cons dv .nil)
  · rw [← hl, List.take_length] at a
    exact hd acc p H'' (s.th s2) hl' e (SameX.dpA (.of s2) a)
end
/-! ### defs with a generator expression; the end of a law with tables -/
section
variable {P : Program} {w : World} {K : PySem.W.Frag} {mg : Str → Option Value} {base : Heap}
theorem _root_.L2.Fun.okC {x qual : Str} {st : Stmt} {f c : Addr} {fd : FuncData} {N ps : List Str} {k : Nat} {sp : Sp} (F : Fun K x qual st f fd) (hc : fd.code = .ref c) (S : FnScope N ps (defScope st)) (len : ∀ vs H Q E, sp vs H Q E → vs.length = ps.length)
    (hbody : ∀ (A : Around) (outer : List Env) (s : Shared) (H : Hp) (vs : List V) (Q : VK) (E : XK), Room k (A.deeper (envOfC qual (defScope st) s.heap.objs.size f (.ref c))) → sp vs H Q E →
      ∃ t, PSs (cxOf (L2.CX P w) P w K mg base N qual (defScope st) f (.ref c) A outer s H E) (defBody st) t ∧ t { nx := fun _ H' => Q .non H', rt := Q } (start N vs) H) : FnOk P w K mg base (L2.CX P w) (k + 1) f fd ps sp := by
  obtain ⟨oc, od, kV, doc, pm, an, cdv, ct, osl, rfl, lk, hcd⟩ := F.ex
  obtain rfl : cdv = .ref c := hc
  exact fn_of lk hcd S len fun A outer s H vs Q E hr hsp => hbody A outer s H vs Q E hr hsp
end
/-- the tables of the module's defs stand empty -/
def TabAll (q : Program) (K : PySem.W.Frag) (mg : Str → Option Value) (h : Heap) : Prop := ∀ (x : Str) (fa c P : Addr) (o : Obj) (fd : FuncData) (e : Value) (dd : Option Addr) (vs : Array Value) (sl : Array (Option Value)), ((recsOf q).any fun e => e.name == x) = true → mg x = some (.ref fa) →
  K.lookup fa = some o → o.data = .func fd → fd.code = .ref c → K.lookup c = some ⟨e, dd, .fields vs, sl⟩ → vs[11]? = some (.ref P) → h.get? P = some { cls := .none, data := .fields #[] } ∧ PySem.W.CodeHd h c P
theorem walk_tabs {l : PySem.W.OpenLaw} {n k : Nat} {q : Program} {loose : List Str} {XP : (Str → Option Value) → Heap → Prop} {YP : World → Heap → Prop} {d : DefRec} {K : Params → PySem.W.Frag} {CX : World → CXT} {x : Str}
    (hn : l.most = some n) (hn2 : n ≤ sizeLine) (hdf : d.params.defaults = []) (hr : Room k callerA) (hY : ∀ (w : World) (h : Heap), YP w h → (K w.params).In h)
    (F : ∀ (w : World) (mg : Str → Option Value) (fa : Addr) (h : Heap), (K w.params).In h → h.Ns mainGlobals mg → mg d.name = some (.ref fa) → TabAll q (K w.params) mg h → LawAtS l w (K w.params) (CX w) k n x mg fa h)
    (hCX : ∀ (w : World) (H : Hp) (s : Shared) (e : Value) (s' : Shared), CX w [] H s (fun _ _ _ => False) e s' → False) :
    PySem.W.WalkO q loose XP YP l.row.toRowW d [] (fun f vs => PySem.call f vs) := by
  refine Att.attach_callB hn hdf fun w s₀ s₁ mg mb fa o pm cd doc a vs ns G Y ho hd hcd hmg hobj hints hlen hbits hg => ?_
  have KX := hY w _ Y
  have own : TabAll q (K w.params) mg s₁.heap := fun y fb c P o1 fd1 e dd vs1 sl k0 kg k1 k2 k3 k4 k5 => by
    obtain ⟨dL, hm, hn1⟩ := List.any_eq_true.mp k0
    have hn2 : dL.name = y := beq_iff_eq.mp hn1
    obtain ⟨a', o', fd', c', P', h1, h2, h3, h4, h5, h6⟩ := G.T.tab dL hm
    rw [hn2, kg] at h1
    cases h1
    have g1 := KX _ _ k1
    rw [g1] at h2
    cases h2
    rw [k2] at h3
    cases h3
    rw [k3] at h4
    cases h4
    have hcd := PySem.W.CodeHd.of h5 h6
    obtain ⟨⟨oc, vc, e1, _, e3, e4⟩, hP⟩ := h6
    have g2 := KX _ _ k4
    rw [g2] at e1
    cases e1
    cases e3
    rw [k5] at e4
    cases e4
    exact ⟨hP, hcd⟩
  obtain ⟨fd, cs, sp, hT, nT, C, hb, hsp, hF⟩ := F w mg fa _ KX G.T.g hmg own
  exact law_callTs KX G.T.g G.T.b G.T.builtins G.T.nolimit hg hT nT C G.T.bmain hobj hints (Nat.le_trans hlen hn2) hr hF hb (fun H hH hS => hsp H a ns hlen hbits hH hS) fun H e s' => hCX w H s₁ e s'
end Tg

/-! t[:h:-1] of a tuple -/
namespace Tg
open PySem PySem.Spec PyProof.Rows L2 Z GxR HT
def cntR (n : Nat) : Option Int → Nat
  | none => n
  | some h => n - (h.toNat + 1)
theorem adjust_rev (hi : Option Int) (n : Nat) (h0 : ∀ h, hi = some h → 0 ≤ h) : Builtin.Slice.slicePlaces (Builtin.Slice.sliceAdjust none hi (-1) (n : Int)).1 (Builtin.Slice.sliceAdjust none hi (-1) (n : Int)).2 (-1) = cntR n hi ∧ (Builtin.Slice.sliceAdjust none hi (-1) (n : Int)).1 = (n : Int) - 1 := by
  refine ⟨?_, rfl⟩
  unfold Builtin.Slice.slicePlaces Builtin.Slice.sliceAdjust cntR
  have h1 : ¬ ((-1 : Int) > 0) := by omega
  have h2 : ((-1 : Int) < 0) := by omega
  have h3 : (- -1 : Int) = 1 := by decide
  simp only [h1, h2, if_true, if_false, h3, Int.ediv_one]
  cases hi with
  | none => dsimp only; split <;> omega
  | some h =>
    have := h0 h rfl
    have h4 : ¬ h < 0 := by omega
    simp only [h4, if_false]
    split <;> omega
theorem fm_congr {α β : Type} {f g : α → Option β} : ∀ {l : List α}, (∀ a ∈ l, f a = g a) → l.filterMap f = l.filterMap g
  | [], _ => rfl
  | a :: l, h => by
    rw [List.filterMap_cons, List.filterMap_cons, h a List.mem_cons_self, fm_congr fun b hb => h b (List.mem_cons_of_mem _ hb)]
theorem pick_rev (xs : Array Value) (k : Nat) (hk : k ≤ xs.size) : ((List.range k).filterMap fun (m : Nat) => xs[(((xs.size : Int) - 1) + (m : Int) * (-1)).toNat]?).toArray = (xs.toList.reverse.take k).toArray := by
  have e : (List.range k).filterMap (fun (m : Nat) => xs[(((xs.size : Int) - 1) + (m : Int) * (-1)).toNat]?) = (List.range k).filterMap fun m => xs.reverse[m]? := by
    refine fm_congr fun m hm => ?_
    have hm := List.mem_range.mp hm
    have : (((xs.size : Int) - 1) + (m : Int) * (-1)).toNat = xs.size - 1 - m := by omega
    rw [this, Array.getElem?_eq_getElem (by omega), Array.getElem?_eq_getElem (by rw [Array.size_reverse]; omega), Array.getElem_reverse]
  rw [e]
  have := pick_run xs.reverse 0 k
  have e2 : (List.range k).map (0 + ·) = List.range k := by
    rw [show ((0 + ·) : Nat → Nat) = id from funext fun k => Nat.zero_add k, List.map_id]
  rw [e2, List.drop_zero, Array.toList_reverse] at this
  rw [this]
section
variable {prog : Program} {w : World} {A : Around} {E : Value → Shared → Prop} {s : Shared}
theorem sliceApplied_rev {sl : Addr} {vu vs : Value} {hi : Option Int} {n : Nat} {Q : Int × Int × Nat → Shared → Prop} (hs : s.heap.IsSliceOf sl .none vu vs) (pu : IsPart vu hi) (ps : IsPart vs (some (-1))) (h0 : ∀ h, hi = some h → 0 ≤ h)
    (h : Q ((n : Int) - 1, -1, cntR n hi) s) : wpAny (model prog w) A (Builtin.Slice.sliceApplied (.ref sl) (pure (n : Int))) Q E s := by
  obtain ⟨os, hos, hcs, hds⟩ := id hs
  unfold Builtin.Slice.sliceApplied Builtin.Slice.sliceFields
  refine wpAny_bind (wpAny_bind (wpAny_field hos hds (x := .none) rfl (wpAny_bind (wpAny_field hos hds (x := vu) rfl (wpAny_bind (wpAny_field hos hds (x := vs) rfl (wpAny_pure ?_)))))))
  refine wpAny_bind (slicePart_ ps ?_)
  show wpAny _ _ (if ((-1 : Int) == 0) = true then _ else _) _ _ s
  rw [if_neg (by decide)]
  refine wpAny_bind (slicePart_none (wpAny_bind (slicePart_ pu (wpAny_bind (wpAny_pure ?_)))))
  obtain ⟨e1, e2⟩ := adjust_rev hi n h0
  show wpAny _ _ (pure ((Builtin.Slice.sliceAdjust none hi (-1) (n : Int)).1, (-1 : Int), Builtin.Slice.slicePlaces (Builtin.Slice.sliceAdjust none hi (-1) (n : Int)).1 (Builtin.Slice.sliceAdjust none hi (-1) (n : Int)).2 (-1))) _ _ s
  rw [e1, e2]
  exact wpAny_pure h
theorem cntR_le (n : Nat) (hi : Option Int) : cntR n hi ≤ n := by
  cases hi with
  | none => exact Nat.le_refl _
  | some h => exact Nat.sub_le _ _
theorem getItem_tuple_rev {t sl : Addr} {items : Array Value} {vu vs : Value} {hi : Option Int} {Q : Value → Shared → Prop} (ht : IsTup s.heap t items) (hs : s.heap.IsSliceOf sl .none vu vs) (pu : IsPart vu hi) (ps : IsPart vs (some (-1))) (h0 : ∀ h, hi = some h → 0 ≤ h)
    (h : Q (.ref s.heap.objs.size) { s with heap := s.heap.push { cls := .type "tuple", data := .seq (items.toList.reverse.take (cntR items.size hi)).toArray } })
    (hsz : items.size ≤ sizeLine) : wpAny (model prog w) A (getItem (.ref t) (.ref sl)) Q E s := by
  have htake : sizeOk (.seq (items.toList.reverse.take (cntR items.size hi)).toArray) := by
    show (items.toList.reverse.take (cntR items.size hi)).toArray.size ≤ sizeLine
    rw [List.size_toArray, List.length_take, List.length_reverse, Array.length_toList]
    omega
  obtain ⟨os, hos, hcs, hds⟩ := id hs
  have hTs : s.TypeIs (.ref sl) "slice" := ⟨os, hos, hcs⟩
  unfold getItem
  try with_reducible refine wpAny_holding ?_
  first | refine wpAny_bind (wpAny_pure ?_) | skip
  refine wpAny_bind (wpAny_sequenceKey ht.typeIs (by decide) ?_)
  refine wpAny_bind (wpAny_callSpecial?_slot (name := Str.ofString "__getitem__") ht.typeIs PyProof.Rows.slot_tuple_getitem
    (wpAny_call_entry PyProof.Rows.slot_tuple_getitem ht.typeIs entry_tuple_getitem ?_ (args_tuple_getitem _ _)))
  show wpAny _ _ (Builtin.Tuple.tupleItemsOf (.ref t) >>= _) _ _ s
  refine wpAny_bind (tupleItemsOf_ ht ?_)
  refine wpAny_bind (wpAny_typeOf hTs ?_)
  rw [if_pos (by decide)]
  refine wpAny_bind (sliceApplied_rev hs pu ps h0 ?_)
  have hno : ¬ ((((items.size : Int) - 1) == 0 && (-1 : Int) == 1 && cntR items.size hi == items.size) = true) := by
    intro q
    rw [Bool.and_eq_true, Bool.and_eq_true] at q
    exact absurd q.1.2 (by decide)
  show wpAny _ _ (if (((items.size : Int) - 1) == 0 && (-1 : Int) == 1 && cntR items.size hi == items.size) = true then _ else _) _ _ s
  rw [if_neg hno, pick_rev _ _ (cntR_le _ _)]
  first
    | exact wpAny_bind (m := Builtin.Tuple.tupleExact _) (wpAny_newObj_type (wpAny_pure ⟨_, rfl, wpAny_pure h⟩) htake)
    | exact wpAny_bind (m := Builtin.Tuple.tupleExact _) (wpAny_newObj_type (wpAny_bind (wpAny_pure (wpAny_pure ⟨_, rfl, wpAny_pure h⟩))) htake)
    | exact wpAny_bind (wpAny_bind (m := Builtin.Tuple.tupleExact _) (wpAny_newObj_type (wpAny_pure (wpAny_pure ⟨_, rfl, wpAny_pure h⟩)) htake))
    | exact wpAny_bind (wpAny_bind (m := Builtin.Tuple.tupleExact _) (wpAny_newObj_type (wpAny_pure ⟨_, rfl, wpAny_pure h⟩) htake))
end
/-- t[:h:-1] -/
def tRevT (K : PySem.W.Frag) (te : TE) (tu : TO) : TE := fun σ H Q => te σ H fun x H1 => tu σ H1 fun hi H2 => ∃ a xs, x = .ref a ∧ SqT K H2 a xs ∧ (∀ h, hi = some h → 0 ≤ h) ∧ ∀ p, H2 p = none → Q (.ref p) (upd H2 p (.tup (xs.reverse.take (cntR xs.length hi))))
theorem pe_revT {X : Cx} {e : Expr} {te : TE} {hi : Option Expr} {tu : TO} {k : Nat} {p1 p2 p3 pos : Pos} (he : PE X e te) (hu : PO X hi tu) : PE X (.Subscript e (.Slice none hi (some (.UnaryOp .USub (.Constant (.int 1) k p1) p2)) p3) pos) (tRevT X.K te tu) := by
  refine ⟨fun pins s σ H Q I h => ?_⟩
  refine Subscript_ (thn (he.run pins s σ H _ I h) fun v s1 ⟨x, H1, I1, r1, q1⟩ => ?_)
  have hst : PO X (some (.UnaryOp .USub (.Constant (.int 1) k p1) p2)) (tPart (tUn (rU fun i => .int (-i)) (tC (.int 1)))) := po_some (pe_un un_neg pe_int)
  refine wpAny_Slice (thn (po_none.run pins s1 σ H1 (fun o H2 => o = none ∧ H2 = H1) I1 ⟨rfl, rfl⟩) fun vl s2 ⟨l, H2, I2, pl, el, e2⟩ => ?_)
  subst el e2
  refine thn (hu.run pins s2 σ H2 _ I2 q1) fun vu s3 ⟨u, H3, I3, pu, q3⟩ => ?_
  obtain ⟨a, xs, ex, hx, h0, q⟩ := q3
  subst ex
  cases r1
  refine thn (hst.run pins s3 σ H3 (fun o H4 => o = some (-1) ∧ H4 = H3) I3 ⟨1, rfl, -1, rfl, rfl, rfl⟩) fun vs s4 ⟨o, H4, I4, ps, eo, e4⟩ => ?_
  subst eo e4
  cases pl
  have I5 : Inv X pins σ H4 { s4 with heap := s4.heap.push { cls := .type "slice", data := .fields #[.none, vu, vs] } } := I4.kept (t' := s4.toks) fun b ob q => Heap.get?_push_of_some _ q
  obtain ⟨its, r, ht, hz⟩ := I5.tuple hx
  have hlen := r.length
  show wpAny (model X.prog X.w) X.A (subscriptTail e (.Slice none hi (some (.UnaryOp .USub (.Constant (.int 1) k p1) p2)) p3) (.ref a) (.ref s4.heap.objs.size)) (EP X pins σ Q) X.xe { s4 with heap := s4.heap.push { cls := .type "slice", data := .fields #[.none, vu, vs] } }
  refine tail_any (ops := [.ref a, .ref s4.heap.objs.size]) ht.typeIs (PyProof.Rows.slot_tuple_getitem.lookup) ?_ (by with_unfolding_all rfl)
  refine getItem_tuple_rev ht (Heap.IsSliceOf.new _ .none vu vs) pu ps h0 ?_ (by rw [List.size_toArray]; omega)
  have e9 : its.toArray.size = xs.length := by rw [List.size_toArray]; exact hlen.symm
  rw [e9]
  refine ⟨.ref _, _, I5.laid (t' := s4.toks) (o := .tup (xs.reverse.take (cntR xs.length u))) (fun b ob q => Heap.get?_push_of_some _ q) (Nat.le_refl _) ?_, rfl, q _ (I5.hok.fresh (Nat.le_refl _))⟩
  exact ⟨by rw [List.length_take, List.length_reverse]; omega, _, r.reverse.take _, _, Heap.get?_push_size _ rfl, rfl, 0, rfl⟩
section
variable {K : PySem.W.Frag} {H : Hp} {Q : VK} {σ : L2.St} {te : TE} {tu : TO} {a : Addr} {xs : List V}
theorem z_revT {hi : Option Int} (ht : ∀ R : VK, R (.ref a) H → te σ H R) (hx : SqT K H a xs) (hu : ∀ R : Option Int → Hp → Prop, R hi H → tu σ H R) (h0 : ∀ h, hi = some h → 0 ≤ h) (q : ∀ p H', H p = none → Same H H' → H' p = some (.tup (xs.reverse.take (cntR xs.length hi))) → Q (.ref p) H') : tRevT K te tu σ H Q :=
  ht _ (hu _ ⟨a, xs, rfl, hx, h0, fun p hp => q p _ hp (same_upd hp) upd_same⟩)
/-- t[lo:hi], whole or not -/
theorem z_slA {lo hi : Option Int} (h : SqT K H a xs) (q : ∀ p H', Same H H' → SqT K H' p (cutV xs lo hi) → Q (.ref p) H') : rSlA K (.ref a) lo hi H Q := by
  refine ⟨a, xs, rfl, h, fun hw => q a H (fun _ _ z => z) ?_, fun _ p hp => q p _ (same_upd hp) (.inl (.inl upd_same))⟩
  have e : cutV xs lo hi = xs := by
    unfold cutV
    rw [hw.1, hw.2, List.drop_zero]
    exact List.take_of_length_le (by omega)
  rw [e]
  exact h
end
end Tg

/-! raise X(f'.. {N} ..') -/
namespace Tg
open PySem PySem.Spec PyProof.Rows L2 Z
def okF (m1 : Str) (k : Int) (m2 : Str) : Bool := decide (k.natAbs.log2 < 1920) && decide ((Str.empty ++ m1).length ≤ sizeLine) && decide ((Str.empty ++ m1 ++ (toString k : Str)).length ≤ sizeLine) && decide ((Str.empty ++ m1 ++ (toString k : Str) ++ m2).length ≤ sizeLine)
theorem pmkF {X : Cx} {C : Addr} {x m1 m2 : Str} {k : Int} {e : Expr} {j1 j2 : Nat} {p p1 p2 p3 p4 pos : Pos} (E : ExcX X.K X.mg x C) (hg : Gl X x) (hc : PE X e (tC (.int k))) (ok : okF m1 k m2 = true)
    (hs : starEach [Expr.JoinedStr [.Constant (.str m1) j1 p1, .FormattedValue e (-1) none p2, .Constant (.str m2) j2 p3] p4] X.env = (false, eval (Expr.JoinedStr [.Constant (.str m1) j1 p1, .FormattedValue e (-1) none p2, .Constant (.str m2) j2 p3] p4) X.env) :: starEach [] X.env := by rfl) (hdb : (x == ("__debug__" : Str)) = false := by decide) :
    PMk X (.Call (.Name x p) [.JoinedStr [.Constant (.str m1) j1 p1, .FormattedValue e (-1) none p2, .Constant (.str m2) j2 p3] p4] [] pos) (fun _ H Q => Q (.ref C) none H) := by
  intro pins s σ H Q I h
  unfold okF at ok
  rw [Bool.and_eq_true, Bool.and_eq_true, Bool.and_eq_true, decide_eq_true_eq, decide_eq_true_eq, decide_eq_true_eq, decide_eq_true_eq] at ok
  refine SkE.pmk_own1 PySem.F.excBase_ValueError E.q E.g E.k (raises_own E.c.hs E.t) hg (pe_joined (.cons pe_str (.cons (pe_fmt hc) (.cons pe_str .nil)))) hs hdb pins s σ H Q I ?_
  exact ⟨m1, rfl, ok.1.1.2, .inr ⟨k, rfl, ok.1.1.1, _, rfl, ok.1.2, m2, rfl, ok.2, h⟩⟩
end Tg
namespace Tg
open PySem PySem.Spec PyProof.Rows L2 Z
def tCallNS (n m : Nat) (sp : Sp) (gV : List V → List V → List V) (E : L2.St → XK) (t tk : TA) : TE := fun σ H Q => t σ H fun vs H1 => tk σ H1 fun zs H2 => vs.length = n ∧ zs.length = m ∧ sp (gV vs zs) H2 Q (E σ)
section
variable {X : Cx} {CX : CXT} {k n : Nat} {f : Addr} {fd : FuncData} {ps ks : List Str} {sp : Sp} {E : L2.St → XK} {x : Str} {p pos : Pos} {e : Expr} {es : List Expr} {kws : List Keyword} {t tk : TA} {g : List Value → List Value → List Value} {gV : List V → List V → List V}
/-- f(e, .., k = v, ..) within a try -/
theorem pe_callNS (F : FnOk X.prog X.w X.K X.mg X.base CX k f fd ps sp) (hr : Room k X.A) (hg : Gl X x) (hm : X.mg x = some (.ref f)) (hk : PySem.W.keepIn X.K (.ref f) = true) (hb : KBn X.K fd ps n ks g gV) (hx : ∀ σ, PassesAt CX X σ (E σ))
    (ha : PA X (e :: es) t) (hkw : PK X kws tk) (hall : (backToKw pos (keywordEach kws X.env)).all (·.1.isSome) = true := by rfl) (hks : (backToKw pos (keywordEach kws X.env)).filterMap (·.1) = ks := by rfl)
    (hdb : (x == ("__debug__" : Str)) = false := by decide) (he : starEach (e :: es) X.env = (false, eval e X.env) :: starEach es X.env := by rfl)
    (hpl : ((backTo pos (starEach (e :: es) X.env)).any (·.1) || (backToKw pos (keywordEach kws X.env)).any (·.1.isNone)) = false := by rfl) :
    PE X (.Call (.Name x p) (e :: es) kws pos) (tCallNS n ks.length sp gV E t tk) := by
  refine ⟨fun pins s σ H Q I h => ?_⟩
  refine wpAny_Call_Name_kw (ld_glob I hg hm ?_ hdb)
  refine PySem.W.callWith_KW (h₀ := X.base) I.ok.mod.kin hk hall (thn (ha.run pos pins s σ H _ I h) fun us s1 ⟨vs, H1, I1, r, q⟩ => ?_) hpl he
  refine thn (hkw.run pos pins s1 σ H1 _ I1 q) fun ws s2 ⟨zs, H2, I2, rz, l1, l2, q2⟩ => ⟨I2.kIn, ?_⟩
  rw [hks]
  exact Cw.run_fnNS F hr hb (hx σ) I2 r rz l1 l2 q2
end
section
variable {H : Hp} {Q : VK} {σ : L2.St} {n m : Nat} {sp : Sp} {gV : List V → List V → List V} {t tk : TA}
theorem z_callN {E : XK} (h : t σ H fun vs H1 => tk σ H1 fun zs H2 => vs.length = n ∧ zs.length = m ∧ sp (gV vs zs) H2 Q E) : tCallN n m sp gV E t tk σ H Q := h
theorem z_callNS {E : L2.St → XK} (h : t σ H fun vs H1 => tk σ H1 fun zs H2 => vs.length = n ∧ zs.length = m ∧ sp (gV vs zs) H2 Q (E σ)) : tCallNS n m sp gV E t tk σ H Q := h
end
end Tg

/-! l[:h:-1] of a list; sets of ints out of any walk; two fors in a comprehension; dicts -/
namespace Li
open PySem PySem.Spec PyProof.Rows L2 Z Tg
theorem pick_h (items : Array Value) (hi : Option Int) (h0 : ∀ h, hi = some h → 0 ≤ h) : slicePick items none hi (some (-1)) = (items.toList.reverse.take (cntR items.size hi)).toArray := by
  rw [← pick_rev _ _ (cntR_le _ _)]
  unfold slicePick
  congr 1
  have hb : ∃ b : Int, sliceBounds none hi (some (-1)) items.size = ((items.size : Int) - 1, b, -1) ∧ b = max (-1) (match hi with | none => -1 | some h => min h ((items.size : Int) - 1)) := by
    cases hi with
    | none => exact ⟨-1, rfl, rfl⟩
    | some h =>
      have := h0 h rfl
      refine ⟨_, ?_, rfl⟩
      show ((items.size : Int) - 1, max (-1) (min (if h < 0 then h + (items.size : Int) else h) ((items.size : Int) - 1)), (-1 : Int)) = _
      rw [if_neg (by omega)]
  obtain ⟨b, e, eb⟩ := hb
  rw [e]
  show (sliceRange ((items.size : Int) - 1) b (-1)).filterMap (items[·]?) = _
  unfold sliceRange
  have h1 : ¬ ((-1 : Int) > 0) := by decide
  rw [if_neg h1, List.filterMap_map]
  have ec : (if (items.size : Int) - 1 > b then ((items.size : Int) - 1 - b - -1 - 1) / (- -1) else 0).toNat = cntR items.size hi := by
    rw [show (- -1 : Int) = 1 by decide, Int.ediv_one]
    unfold cntR
    cases hi with
    | none =>
      dsimp only at eb ⊢
      split <;> omega
    | some h =>
      have := h0 h rfl
      dsimp only at eb ⊢
      split <;> omega
  rw [ec]
  refine fm_congr fun k _ => ?_
  show items[((items.size : Int) - 1 + -1 * (k : Int)).toNat]? = _
  rw [Int.mul_comm]
def tRevH (K : PySem.W.Frag) (te : TE) (tu : TO) : TE := fun σ H Q => te σ H fun x H1 => tu σ H1 fun hi H2 => ∃ a xs, x = .ref a ∧ SqL K H2 a xs ∧ (∀ h, hi = some h → 0 ≤ h) ∧ ∀ p, H2 p = none → Q (.ref p) (upd H2 p (.lst (xs.reverse.take (cntR xs.length hi))))
theorem pe_revH {X : Cx} {e : Expr} {te : TE} {hi : Option Expr} {tu : TO} {k : Nat} {p1 p2 p3 pos : Pos} (he : PE X e te) (hu : PO X hi tu) : PE X (.Subscript e (.Slice none hi (some (.UnaryOp .USub (.Constant (.int 1) k p1) p2)) p3) pos) (tRevH X.K te tu) := by
  constructor
  intro pins s σ H Q I h
  refine Subscript_ (thn (he.run pins s σ H _ I h) fun v s1 ⟨x, H1, I1, r1, q1⟩ => ?_)
  have minus : PO X (some (.UnaryOp .USub (.Constant (.int 1) k p1) p2)) (tPart (tUn (rU fun i => .int (-i)) (tC (.int 1)))) := po_some (pe_un un_neg pe_int)
  refine wpAny_Slice (thn (po_none.run pins s1 σ H1 (fun o H2 => o = none ∧ H2 = H1) I1 ⟨rfl, rfl⟩) fun vl s2 ⟨l, H2, I2, pl, el, e2⟩ => ?_)
  subst el e2
  refine thn (hu.run pins s2 σ H2 _ I2 q1) fun vu s3 ⟨u, H3, I3, pu, a, xs, ex, hx, h0, q⟩ => ?_
  subst ex
  obtain rfl : v = Value.ref a := r1
  refine thn (minus.run pins s3 σ H3 (fun o H4 => o = some (-1) ∧ H4 = H3) I3 ⟨1, rfl, -1, rfl, rfl, rfl⟩) fun vs s4 ⟨o, H4, I4, ps, eo, e4⟩ => ?_
  subst eo e4
  have I5 : Inv X pins σ H4 { s4 with heap := s4.heap.push { cls := .type "slice", data := .fields #[vl, vu, vs] } } := I4.kept (t' := s4.toks) fun b ob q => Heap.get?_push_of_some _ q
  obtain ⟨its, r, ht, hz⟩ := I5.list hx
  have hlen := r.length
  refine tail_any (ops := [.ref a, .ref s4.heap.objs.size]) ht.isList.typeIs (PySem.slot_list_getitem.lookup) ?_ (by with_unfolding_all rfl)
  refine wpAny_getItem_list_slice ht.isList (Heap.IsSliceOf.new _ vl vu vs) pl pu ps (by decide) ?_ (by rw [List.size_toArray]; omega)
  rw [pick_h _ _ h0]
  have e9 : its.toArray.size = xs.length := by rw [List.size_toArray]; exact hlen.symm
  rw [e9]
  refine ⟨.ref _, _, I5.laid (t' := s4.toks) (o := .lst (xs.reverse.take (cntR xs.length u))) (fun b ob q => Heap.get?_push_of_some _ q) (Nat.le_refl _) ?_, rfl, q _ (I5.hok.fresh (Nat.le_refl _))⟩
  exact ⟨by rw [List.length_take, List.length_reverse]; omega, _, 0, r.reverse.take _, Heap.get?_push_size _ rfl⟩
section
variable {K : PySem.W.Frag} {H : Hp} {Q : VK} {σ : L2.St} {te : TE} {tu : TO} {a : Addr} {xs : List V}
theorem z_revH {hi : Option Int} (ht : ∀ R : VK, R (.ref a) H → te σ H R) (hx : SqL K H a xs) (hu : ∀ R : Option Int → Hp → Prop, R hi H → tu σ H R) (h0 : ∀ h, hi = some h → 0 ≤ h) (q : ∀ p H', H p = none → Same H H' → H' p = some (.lst (xs.reverse.take (cntR xs.length hi))) → Q (.ref p) H') : tRevH K te tu σ H Q :=
  ht _ (hu _ ⟨a, xs, rfl, hx, h0, fun p hp => q p _ hp (same_upd hp) upd_same⟩)
end
/-! ### {e for x in ..}: ints, every turn adds one -/
open Sc
section
variable {H : Hp} {Q : VK} {σ : L2.St} {w : World} {wi : TI} {J : It} {m : Nat} {G : Hp → Prop} {Y : Nat → Hp → V → Hp → Prop} {g : TG} {te : TE} {vs : List Nat}
theorem z_setW {ns : List Int} (W : Walk J m G Y) (hm : m ≤ 1000) (hn : ns.length = m) (hi : ∀ R : It → Hp → Prop, R J H → wi σ H R) (hG : ∀ H', Same H H' → G H')
    (hs : ∀ i x n H' H2 (R : VK), ns[i]? = some n → i < m → Same H H' → Y i H' x H2 → (∀ H3, Same H' H3 → R (.int n) H3) → g x (wipe σ vs) H2 fun σ2 H3 => wipe σ2 vs = wipe σ vs ∧ te σ2 H3 R)
    (hd : ∀ D H' S n, H D = none → Same H H' → H' D = some (SetO w D S n) → (∀ k, S k = true ↔ k ∈ ns) → n ≤ m → Q (.ref D) H') : tSet (rSAdd w) (frI w) wi g tYes te vs σ H Q := by
  refine hi _ fun D hD => ?_
  let Pv : Nat → Hp → Prop := fun i H' => Same H H' ∧ ∃ S n, H' D = some (SetO w D S n) ∧ (∀ k, S k = true ↔ k ∈ ns.take i) ∧ n ≤ i
  refine ⟨fun i j H' => j = m - i ∧ i ≤ m ∧ Pv i H', ⟨m, by simp, Nat.zero_le _, same_upd hD, _, 0, upd_same, fun k => by simp, Nat.le_refl _⟩, ?_⟩
  rintro i j H' ⟨rfl, hi, sm, S, n, hS, hin, hle⟩
  by_cases hlt : i < m
  · refine .inr ⟨W.goes i H' hlt (hG H' sm), Pv (i + 1), fun H2 p2 => ⟨m - (i + 1), by omega, rfl, hlt, p2⟩, fun x H2 y => ?_⟩
    have hw : ns[i]? = some ns[i] := List.getElem?_eq_getElem (by omega)
    have h := hs i x ns[i] H' H2 (fun y H4 => rSAdd w (.ref D) [y] H4 fun _ H5 => Pv (i + 1) H5) hw hlt sm (W.yields i H' x H2 hlt (hG H' sm) y) fun H3 s3 => ?_
    · have e : (fun (σ2 : L2.St) (H3 : Hp) => wipe σ2 vs = wipe σ vs ∧ te σ2 H3 fun y H4 => rSAdd w (.ref D) [y] H4 fun _ H5 => Pv (i + 1) H5) = fun σ2 H3 => wipe σ2 vs = wipe σ vs ∧ tYes σ2 H3 (Keep (rSAdd w) D te (Pv (i + 1)) σ2) := by
        funext σ2 H3
        show _ = (wipe σ2 vs = wipe σ vs ∧ if true = true then te σ2 H3 (fun y H4 => rSAdd w (.ref D) [y] H4 fun _ H5 => Pv (i + 1) H5) else Pv (i + 1) H3)
        rw [if_pos rfl]
      rw [e] at h
      exact h
    · have tk : ns.take (i + 1) = ns.take i ++ [ns[i]] := by rw [List.take_add_one, hw] <;> rfl
      refine ⟨D, ns[i], S, n, rfl, rfl, s3 _ _ hS, Nat.lt_of_le_of_lt (show n + 1 ≤ 1001 by omega) (by decide), ?_, _, _, upd_same, fun k => ?_, ?_⟩
      · intro b o e
        rw [upd_ne (ne_of_none e hD)]
        exact s3 _ _ (sm _ _ e)
      · rw [tk, List.mem_append, List.mem_singleton, Bool.or_eq_true, hin k, decide_eq_true_eq]
      · split <;> omega
  · obtain rfl : i = m := by omega
    exact .inl ⟨W.stops H' (hG H' sm), hd D H' S n hD sm hS (fun k => by rw [hin k, ← hn, List.take_length]) hle⟩
end
/-! ### [e for x in .. for y in ..]: without tests -/
section
variable {H : Hp} {Q : VK} {σ σ2 : L2.St} {wi wi1 : TI} {J : It} {m : Nat} {G : Hp → Prop} {Y : Nat → Hp → V → Hp → Prop} {g g1 : TG} {te : TE} {vs vs1 : List Nat} {D : Addr} {y : V}
def InN (D : Addr) (Nx : Hp → Prop) : VK := fun y H8 => ∃ acc, H8 D = some (.lst acc) ∧ acc.length < sizeLine ∧ Nx (upd H8 D (.lst (acc ++ [y])))
/-- what the inner for asks -/
def Inner (D : Addr) (g1 : TG) (te : TE) (vs1 : List Nat) (σ2 : L2.St) (Nx : Hp → Prop) : It → Hp → Prop := fun J1 H4 => ∃ W1 : Nat → Nat → Hp → Prop, (∃ m, W1 0 m H4) ∧ ∀ j k H, W1 j k H →
  (J1.stop j H ∧ Nx H) ∨ (J1.go j H ∧ ∃ Nx1 : Hp → Prop, (∀ H', Nx1 H' → ∃ k', k' < k ∧ W1 (j + 1) k' H') ∧ ∀ x H', J1.yld j H x H' → g1 x (wipe σ2 vs1) H' fun σ3 H5 => wipe σ3 vs1 = wipe σ2 vs1 ∧ te σ3 H5 (InN D Nx1))
def At (D : Addr) (Pv : List V → Hp → Prop) : Hp → Prop := fun H => ∃ acc, H D = some (.lst acc) ∧ Pv acc H
theorem z_lc2 (W : Walk J m G Y) (hi : ∀ R : It → Hp → Prop, R J H → wi σ H R) (Pv : Nat → Addr → List V → Hp → Prop)
    (h0 : ∀ D H', H D = none → Same H H' → H' D = some (.lst []) → Pv 0 D [] H') (hG : ∀ i D acc H', Pv i D acc H' → G H')
    (hs : ∀ i x D acc H' H2, H D = none → i < m → H' D = some (.lst acc) → Pv i D acc H' → Y i H' x H2 → g x (wipe σ vs) H2 fun σ2 H3 => wipe σ2 vs = wipe σ vs ∧ wi1 σ2 H3 (Inner D g1 te vs1 σ2 (At D (Pv (i + 1) D))))
    (hd : ∀ D acc H', H D = none → H' D = some (.lst acc) → Pv m D acc H' → Q (.ref D) H') : tLc2 wi g tYes wi1 g1 tYes te vs vs1 σ H Q := by
  refine hi _ fun D hD => ?_
  refine ⟨fun i j H' => j = m - i ∧ i ≤ m ∧ At D (Pv i D) H', ⟨m, by simp, Nat.zero_le _, [], upd_same, h0 D _ hD (same_upd hD) upd_same⟩, ?_⟩
  rintro i j H' ⟨rfl, hi, acc, hA, pv⟩
  by_cases hlt : i < m
  · refine .inr ⟨W.goes i H' hlt (hG _ _ _ _ pv), At D (Pv (i + 1) D), fun H2 p2 => ⟨m - (i + 1), by omega, rfl, hlt, p2⟩, fun x H2 y => ?_⟩
    have h := hs i x D acc H' H2 hD hlt hA pv (W.yields i H' x H2 hlt (hG _ _ _ _ pv) y)
    have eI : (fun (σ2 : L2.St) (H3 : Hp) => wipe σ2 vs = wipe σ vs ∧ wi1 σ2 H3 (Inner D g1 te vs1 σ2 (At D (Pv (i + 1) D)))) = fun σ2 H2 => wipe σ2 vs = wipe σ vs ∧ tYes σ2 H2 fun b H3 =>
        if b = true then wi1 σ2 H3 fun J1 H4 => ∃ W1 : Nat → Nat → Hp → Prop, (∃ m, W1 0 m H4) ∧ ∀ j k H, W1 j k H →
          (J1.stop j H ∧ At D (Pv (i + 1) D) H) ∨ (J1.go j H ∧ ∃ Nx1 : Hp → Prop, (∀ H', Nx1 H' → ∃ k', k' < k ∧ W1 (j + 1) k' H') ∧ ∀ x H', J1.yld j H x H' → g1 x (wipe σ2 vs1) H' fun σ3 H5 => wipe σ3 vs1 = wipe σ2 vs1 ∧ tYes σ3 H5 fun b H6 =>
            if b = true then te σ3 H6 fun y H7 => ∃ acc, H7 D = some (.lst acc) ∧ acc.length < sizeLine ∧ Nx1 (upd H7 D (.lst (acc ++ [y]))) else Nx1 H6)
        else At D (Pv (i + 1) D) H3 := by
      funext σ2 H3
      show _ = (wipe σ2 vs = wipe σ vs ∧ if true = true then wi1 σ2 H3 (fun J1 H4 => ∃ W1 : Nat → Nat → Hp → Prop, (∃ m, W1 0 m H4) ∧ ∀ j k H, W1 j k H →
          (J1.stop j H ∧ At D (Pv (i + 1) D) H) ∨ (J1.go j H ∧ ∃ Nx1 : Hp → Prop, (∀ H', Nx1 H' → ∃ k', k' < k ∧ W1 (j + 1) k' H') ∧ ∀ x H', J1.yld j H x H' → g1 x (wipe σ2 vs1) H' fun σ3 H5 => wipe σ3 vs1 = wipe σ2 vs1 ∧ tYes σ3 H5 fun b H6 =>
            if b = true then te σ3 H6 fun y H7 => ∃ acc, H7 D = some (.lst acc) ∧ acc.length < sizeLine ∧ Nx1 (upd H7 D (.lst (acc ++ [y]))) else Nx1 H6)) else At D (Pv (i + 1) D) H3)
      rw [if_pos rfl]
      rfl
    rw [eI] at h
    exact h
  · obtain rfl : i = m := by omega
    exact .inl ⟨W.stops H' (hG _ _ _ _ pv), hd D acc H' hD hA pv⟩
def Lc2E (K : PySem.W.Frag) (g : TG) (wi1 : TI) (g1 : TG) (te : TE) (vs vs1 : List Nat) (σ : L2.St) (Q : VK) : VK := fun x H1 => tLc2 (iList K (tC x)) g tYes wi1 g1 tYes te vs vs1 σ H1 Q
theorem z_lc2E {K : PySem.W.Frag} {tl : TE} (h : tl σ H (Lc2E K g wi1 g1 te vs vs1 σ Q)) : tLc2 (iList K tl) g tYes wi1 g1 tYes te vs vs1 σ H Q := h
def Lc2T (K : PySem.W.Frag) (g : TG) (wi1 : TI) (g1 : TG) (te : TE) (vs vs1 : List Nat) (σ : L2.St) (Q : VK) : VK := fun x H1 => tLc2 (iTup K (tC x)) g tYes wi1 g1 tYes te vs vs1 σ H1 Q
theorem z_lc2TE {K : PySem.W.Frag} {tl : TE} (h : tl σ H (Lc2T K g wi1 g1 te vs vs1 σ Q)) : tLc2 (iTup K tl) g tYes wi1 g1 tYes te vs vs1 σ H Q := h
theorem z_inner {Nx : Hp → Prop} {acc : List V} (W : Walk J m G Y) (Pv : Nat → List V → Hp → Prop) (hA : H D = some (.lst acc)) (h0 : Pv 0 acc H) (hG : ∀ j acc H', Pv j acc H' → G H')
    (hs : ∀ j x acc H' H2, j < m → H' D = some (.lst acc) → Pv j acc H' → Y j H' x H2 → g1 x (wipe σ2 vs1) H2 fun σ3 H3 => wipe σ3 vs1 = wipe σ2 vs1 ∧ te σ3 H3 (InN D (At D (Pv (j + 1)))))
    (hd : ∀ acc H', H' D = some (.lst acc) → Pv m acc H' → Nx H') : Inner D g1 te vs1 σ2 Nx J H := by
  refine ⟨fun j k H' => k = m - j ∧ j ≤ m ∧ At D (Pv j) H', ⟨m, by simp, Nat.zero_le _, acc, hA, h0⟩, ?_⟩
  rintro j k H' ⟨rfl, hj, acc, hA, pv⟩
  by_cases hlt : j < m
  · exact .inr ⟨W.goes j H' hlt (hG _ _ _ pv), At D (Pv (j + 1)), fun H2 p2 => ⟨m - (j + 1), by omega, rfl, hlt, p2⟩, fun x H2 y => hs j x acc H' H2 hlt hA pv (W.yields j H' x H2 hlt (hG _ _ _ pv) y)⟩
  · obtain rfl : j = m := by omega
    exact .inl ⟨W.stops H' (hG _ _ _ pv), hd acc H' hA pv⟩
theorem z_inB {Pv : List V → Hp → Prop} {acc : List V} (h : H D = some (.lst acc)) (hl : acc.length < 1000000) (q : ∀ H', H' D = some (.lst (acc ++ [y])) → (∀ b, b ≠ D → H' b = H b) → Pv (acc ++ [y]) H') : InN D (At D Pv) y H :=
  ⟨acc, h, Nat.lt_of_lt_of_le hl (by decide), acc ++ [y], upd_same, q _ upd_same fun b hb => upd_ne hb⟩
end
/-! ### [e for x in .. if t], over any walk -/
section
variable {H : Hp} {Q : VK} {σ : L2.St} {wi : TI} {J : It} {m : Nat} {G : Hp → Prop} {Y : Nat → Hp → V → Hp → Prop} {g : TG} {tt : TT} {te : TE} {vs : List Nat}
def TB (te : TE) (σ2 : L2.St) (D : Addr) (P : List V → Hp → Prop) : Bool → Hp → Prop := fun b H3 => if b = true then te σ2 H3 (InN D (At D P)) else At D P H3
theorem z_tbT {σ2 : L2.St} {D : Addr} {P : List V → Hp → Prop} (h : te σ2 H (InN D (At D P))) : TB te σ2 D P true H := by
  unfold TB
  rw [if_pos rfl]
  exact h
theorem z_tbF {σ2 : L2.St} {D : Addr} {P : List V → Hp → Prop} (h : At D P H) : TB te σ2 D P false H := by
  unfold TB
  rw [if_neg (by decide)]
  exact h
theorem z_lcWT (W : Walk J m G Y) (hi : ∀ R : It → Hp → Prop, R J H → wi σ H R) (Pv : Nat → Addr → List V → Hp → Prop)
    (h0 : ∀ D H', H D = none → Same H H' → H' D = some (.lst []) → Pv 0 D [] H') (hG : ∀ i D acc H', Pv i D acc H' → G H')
    (hs : ∀ i x D acc H' H2, H D = none → i < m → H' D = some (.lst acc) → Pv i D acc H' → Y i H' x H2 → g x (wipe σ vs) H2 fun σ2 H3 => wipe σ2 vs = wipe σ vs ∧ tt σ2 H3 (TB te σ2 D (Pv (i + 1) D)))
    (hd : ∀ D acc H', H D = none → H' D = some (.lst acc) → Pv m D acc H' → Q (.ref D) H') : tLc wi g tt te vs σ H Q := by
  refine hi _ fun D hD => ?_
  refine ⟨fun i j H' => j = m - i ∧ i ≤ m ∧ At D (Pv i D) H', ⟨m, by simp, Nat.zero_le _, [], upd_same, h0 D _ hD (same_upd hD) upd_same⟩, ?_⟩
  rintro i j H' ⟨rfl, hi, acc, hA, pv⟩
  by_cases hlt : i < m
  · exact .inr ⟨W.goes i H' hlt (hG _ _ _ _ pv), At D (Pv (i + 1) D), fun H2 p2 => ⟨m - (i + 1), by omega, rfl, hlt, p2⟩, fun x H2 y => hs i x D acc H' H2 hD hlt hA pv (W.yields i H' x H2 hlt (hG _ _ _ _ pv) y)⟩
  · obtain rfl : i = m := by omega
    exact .inl ⟨W.stops H' (hG _ _ _ _ pv), hd D acc H' hD hA pv⟩
end
/-! ### while, the turns left known -/
section
variable {H : Hp} {σ : L2.St} {W : Nat → L2.St → Hp → Prop} {m : Nat} {tb : TS} {n : L2.St → Hp → Prop} {r : VK} {b c : L2.St → Hp → Prop}
def WW (W : Nat → L2.St → Hp → Prop) (m : Nat) (tb : TS) (n : L2.St → Hp → Prop) (r : VK) (σ : L2.St) : Bool → Hp → Prop := fun b H1 =>
  if b = true then ∃ N : L2.St → Hp → Prop, (∀ σ' H', N σ' H' → ∃ m', m' < m ∧ W m' σ' H') ∧ tb ⟨N, r, n, N⟩ σ H1 else n σ H1
theorem z_wwT (h : tb ⟨fun σ' H' => ∃ m', m' < m ∧ W m' σ' H', r, n, fun σ' H' => ∃ m', m' < m ∧ W m' σ' H'⟩ σ H) : WW W m tb n r σ true H := by
  unfold WW
  rw [if_pos rfl]
  exact ⟨_, fun _ _ z => z, h⟩
theorem z_wwF (h : n σ H) : WW W m tb n r σ false H := by
  unfold WW
  rw [if_neg (by decide)]
  exact h
theorem z_whileW {tt : TT} (W : Nat → L2.St → Hp → Prop) (m0 : Nat) (h0 : W m0 σ H) (hs : ∀ m σ H, W m σ H → tt σ H (WW W m tb n r σ)) : tWhile tt tb ⟨n, r, b, c⟩ σ H := ⟨W, ⟨m0, h0⟩, hs⟩
end
/-! ### dicts -/
section
variable {H : Hp} {Q : VK} {σ : L2.St} {td ty tv te : TE} {a : Addr} {y v : V} {o : Option V} {n : L2.St → Hp → Prop} {r : VK} {b c : L2.St → Hp → Prop}
def QIn (y : V) (Q : VK) : VK := fun x H2 => ∃ a o, x = .ref a ∧ DGet H2 a y o ∧ Q (.bl o.isSome) H2
def QNotIn (y : V) (Q : VK) : VK := fun x H2 => ∃ a o, x = .ref a ∧ DGet H2 a y o ∧ Q (.bl (!o.isSome)) H2
def QGet (x : V) (Q : VK) : VK := fun y H2 => ∃ a v, x = .ref a ∧ DGet H2 a y (some v) ∧ Q v H2
def QPut (v x : V) (n : Hp → Prop) : VK := fun y H3 => ∃ a H4, x = .ref a ∧ DPut H3 a y v H4 ∧ n H4
theorem z_inE (h : ty σ H fun y H1 => td σ H1 (QIn y Q)) : tDIn ty td σ H Q := h
theorem z_notInE (h : ty σ H fun y H1 => td σ H1 (QNotIn y Q)) : tDNotIn ty td σ H Q := h
theorem z_getE (h : td σ H fun x H1 => ty σ H1 (QGet x Q)) : tDGet td ty σ H Q := h
theorem z_putE (h : tv σ H fun v H1 => td σ H1 fun x H2 => ty σ H2 (QPut v x (n σ))) : sDPut td ty tv ⟨n, r, b, c⟩ σ H := h
theorem z_in (g : DGet H a y o) (q : Q (.bl o.isSome) H) : QIn y Q (.ref a) H := ⟨a, o, rfl, g, q⟩
theorem z_notIn (g : DGet H a y o) (q : Q (.bl (!o.isSome)) H) : QNotIn y Q (.ref a) H := ⟨a, o, rfl, g, q⟩
theorem z_get (g : DGet H a y (some v)) (q : Q v H) : QGet (.ref a) Q y H := ⟨a, v, rfl, g, q⟩
theorem z_put {H4 : Hp} {n : Hp → Prop} (g : DPut H a y v H4) (q : n H4) : QPut v (.ref a) n y H := ⟨a, H4, rfl, g, q⟩
def QGet1 (σ : L2.St) (ty : TE) (Q : VK) : VK := fun x H1 => ∃ a, x = .ref a ∧ IsD H1 a ∧ ty σ H1 fun y H2 => ∃ o, DGet H2 a y o ∧ Q (o.getD .non) H2
theorem z_get1E (h : td σ H (QGet1 σ ty Q)) : tDGet1 td ty σ H Q := h
def QGet2 (a : Addr) (Q : VK) : VK := fun y H2 => ∃ o, DGet H2 a y o ∧ Q (o.getD .non) H2
theorem z_get1 (d : IsD H a) (q : ty σ H (QGet2 a Q)) : QGet1 σ ty Q (.ref a) H := ⟨a, rfl, d, q⟩
theorem z_get2 (g : DGet H a y o) (q : Q (o.getD .non) H) : QGet2 a Q y H := ⟨o, g, q⟩
/-- the keys of a dict are walked; it is shut meanwhile -/
theorem z_lock {t : TE} {u : HO} (h : H a = some u) (m : Mut (some u)) (q : ∀ od, t σ (upd H a (.frz od u)) fun v H' => H' a = some (.frz od u) ∧ Q v (upd H' a u)) : tLockE t σ H Q := ⟨a, u, h, m, q⟩
end
end Li

/-! a walk over a tuple or a list; code that is never reached; long lists -/
namespace Pk
open PySem PySem.Spec PyProof.Rows L2 Z Tg
def iOr2 (w1 w2 : TI) : TI := fun σ H R => w1 σ H R ∨ w2 σ H R
theorem pi_or2 {X : Cx} {tg l : Expr} {w1 w2 : TI} (h1 : PI X tg l w1) (h2 : PI X tg l w2) : PI X tg l (iOr2 w1 w2) := ⟨fun pins s σ H R I q => q.elim (h1.run pins s σ H R I) (h2.run pins s σ H R I)⟩
def sNever : TS := fun _ _ _ => False
theorem ps_never {X : Cx} {st : Stmt} : PS X st sNever := ⟨fun _ _ _ _ _ _ h => h.elim⟩
def eNever : TE := fun _ _ _ => False
theorem pe_never {X : Cx} {e : Expr} : PE X e eNever := ⟨fun _ _ _ _ _ _ h => h.elim⟩
section
variable {K : PySem.W.Frag} {H : Hp} {Q : VK} {p q : Addr} {xs ys : List V}
theorem z_catW (h1 : H p = some (.lst xs)) (h2 : H q = some (.lst ys)) (hl : xs.length + ys.length ≤ 1000000) (k : ∀ a H', H a = none → Same H H' → H' a = some (.lst (xs ++ ys)) → Q (.ref a) H') : rCat (.ref p) (.ref q) H Q :=
  ⟨p, q, xs, ys, rfl, rfl, h1, h2, Nat.le_trans hl (by decide), fun a ha => k a _ ha (same_upd ha) upd_same⟩
theorem inT {i : Int} {ns : List Int} (h : SqT K H p (ns.map V.int)) (k : Q (.bl (decide (i ∈ ns))) H) : rIn K false (.int i) (.ref p) H Q :=
  ⟨p, _, rfl, .inr h, rfl, flat_ints ns, by rw [inV_int]; exact k⟩
end
end Pk

/-! attributes as targets: a, self.f = ..; self.f += .. -/
namespace Um
open PySem PySem.Spec PyProof.Rows L2 Z Tg
def gFld (K : PySem.W.Frag) (ta : TE) (f : Str) : TG := fun v σ H Q => ta σ H fun x H2 => ∃ a C dx fs, x = .ref a ∧ H2 a = some (.ins C dx fs) ∧ Cls K C ∧ NoAttr K C f ∧ fs.length < 1000 ∧ Q σ (upd H2 a (.ins C dx (putF f v fs)))
theorem pg_fld {X : Cx} {o : Expr} {f : Str} {pos : Pos} {ta : TE} (ha : PE X o ta) : PG X (.Attribute o f pos) (gFld X.K ta f) := by
  refine ⟨fun pins s σ H v u Q I r h => ?_⟩
  refine PySem.W.kas_attr (thn (ha.run pins s σ H _ I h) fun ov s2 ⟨x, H2, I2, rx, a, C, dx, fs, ex, ea, c, n, l, q2⟩ => ?_)
  subst ex
  obtain rfl : ov = Value.ref a := rx
  exact setattr_ok I2 ea c n l r fun s3 I3 => ⟨σ, _, I3, q2⟩
section
variable {K : PySem.W.Frag} {σ : L2.St} {H : Hp} {a C dx : Addr} {fs : List (Str × V)} {f : Str} {ta tv : TE} {n : L2.St → Hp → Prop} {r : VK} {b c : L2.St → Hp → Prop} {v : V} {rd : V → V → Hp → VK → Prop}
def QG (K : PySem.W.Frag) (f : Str) (v : V) (R : Hp → Prop) : VK := fun x H2 => ∃ a C dx fs, x = .ref a ∧ H2 a = some (.ins C dx fs) ∧ Cls K C ∧ NoAttr K C f ∧ fs.length < 1000 ∧ R (upd H2 a (.ins C dx (putF f v fs)))
theorem z_gfE {Q : L2.St → Hp → Prop} (h : ta σ H (QG K f v (Q σ))) : gFld K ta f v σ H Q := h
theorem z_gf {R : Hp → Prop} (e : H a = some (.ins C dx fs)) (c : Cls K C) (no : NoAttr K C f) (l : fs.length < 1000) (q : R (upd H a (.ins C dx (putF f v fs)))) : QG K f v R (.ref a) H := ⟨a, C, dx, fs, rfl, e, c, no, l, q⟩
def QA (K : PySem.W.Frag) (f : Str) (tv : TE) (rd : V → V → Hp → VK → Prop) (n : L2.St → Hp → Prop) (σ : L2.St) : VK := fun x H1 => ∃ a C dx fs v, x = .ref a ∧ H1 a = some (.ins C dx fs) ∧ Cls K C ∧ NoAttr K C f ∧ fs.lookup f = some v ∧
  tv σ H1 fun y H2 => rd v y H2 fun z H3 => ∃ dx' fs', H3 a = some (.ins C dx' fs') ∧ fs'.length < 1000 ∧ n σ (upd H3 a (.ins C dx' (putF f z fs')))
theorem z_faE (h : ta σ H (QA K f tv rd n σ)) : sFldAug K ta tv rd f ⟨n, r, b, c⟩ σ H := h
theorem z_fa (e : H a = some (.ins C dx fs)) (c : Cls K C) (no : NoAttr K C f) (lk : fs.lookup f = some v) (q : tv σ H fun y H2 => rd v y H2 fun z H3 => ∃ dx' fs', H3 a = some (.ins C dx' fs') ∧ fs'.length < 1000 ∧ n σ (upd H3 a (.ins C dx' (putF f z fs')))) : QA K f tv rd n σ (.ref a) H :=
  ⟨a, C, dx, fs, v, rfl, e, c, no, lk, q⟩
theorem z_rAdd {Q : VK} {i j : Int} (q : Q (.int (i + j)) H) : L2.rAdd (.int i) (.int j) H Q := ⟨i, j, rfl, rfl, q⟩
theorem z_fe {R : Hp → Prop} {z : V} (e : H a = some (.ins C dx fs)) (l : fs.length < 1000) (q : R (upd H a (.ins C dx (putF f z fs)))) : ∃ dx' fs', H a = some (.ins C dx' fs') ∧ fs'.length < 1000 ∧ R (upd H a (.ins C dx' (putF f z fs'))) := ⟨dx, fs, e, l, q⟩
end
end Um

/-! an own class's __len__, __contains__, __iter__; iter(tuple) -/
namespace Fo
open PySem PySem.Spec PyProof.Rows L2 Z Tg
section
variable {X : Cx} {CX : CXT} {k : Nat} {f C : Addr} {fd : FuncData} {ps : List Str} {sp : Sp} {E : XK}
/-- a def's call one unit deeper -/
theorem run_in1 {pins : List (Addr × Obj)} {σ : L2.St} {H : Hp} {s : Shared} {Q : VK} {us : List Value} {vs : List V} (F : FnOk X.prog X.w X.K X.mg X.base CX k f fd ps sp) (hr : Room (k + 1) X.A) (hb : Binds X.K fd ps []) (hx : Passes CX X E)
    (I : Inv X pins σ H s) (r : Vals vs us) (h : sp vs H Q E) : wpAny (model X.prog X.w) X.A.in1 (call (.ref f) us) (EP X pins σ Q) X.xe s := by
  have hl : (us ++ []).length = ps.length := by rw [List.append_nil, ← r.length]; exact F.len _ _ _ _ h
  have r2 : Vals vs (us ++ []) := by rw [List.append_nil]; exact r
  refine wpAny_call (codeAny_mono (F.run X.A.in1 X.stack s H ⟨us, []⟩ (us ++ []) vs Q E hr.in1 I.env0.in1 (hb s us I.kIn hl) r2 h) fun z s' hq => ?_)
  cases z with
  | error e => exact hx pins σ H s e s' I hq
  | ok fl =>
    cases fl with
    | ret u => exact I.after hq
    | next => exact False.elim hq
    | brk => exact False.elim hq
    | cont => exact False.elim hq
/-- len(x) -/
def rLenO (C : Addr) (sp : Sp) (E : XK) : List V → Hp → VK → Prop := fun xs H Q => ∃ a dx fs, xs = [.ref a] ∧ H a = some (.ins C dx fs) ∧ sp [.ref a] H (fun v H' => ∃ n : Int, v = .int n ∧ 0 ≤ n ∧ n < 2 ^ 63 ∧ Q (.int n) H') E
theorem call_lenO (hm : Meth X.K C "__len__" f) (F : FnOk X.prog X.w X.K X.mg X.base CX k f fd ps sp) (hr : Room (k + 1) X.A) (hb : Binds X.K fd ps []) (hx : Passes CX X E) : CallR X (.builtin "len") (rLenO C sp E) := by
  intro pins s σ H xs us Q I r h
  obtain ⟨a, dx, fs, rfl, ha, hq⟩ := h
  obtain ⟨u, rfl, ru⟩ := vals1 r
  cases ru
  obtain ⟨mA, J, _⟩ := ins_get I.hok ha
  obtain ⟨od, J, _⟩ := J.look
  obtain ⟨m, hF⟩ := I.fr
  refine Calls.call_function_entry kind_len plain_len entry_len (args_len1 _) ?_
  unfold Builtin.«len»
  refine wpAny_bind (m := oneArg "len" _) (wpAny_pure ?_)
  refine wpAny_bind (m := callSpecial? (.ref a) (Str.ofString "__len__")) (PySem.W.special_fn (args := []) (I.ok.mod.kin.keeps hF.keep) J hm.at_ (beq_iff_eq.mp hm.fn) ?_)
  refine wpAny_mono (run_in1 F hr hb hx I r hq) (fun z s' q => ?_) fun _ _ x => x
  obtain ⟨y, H', I', rz, n, ey, h0, h1, q⟩ := q
  subst ey
  obtain ⟨t, rfl⟩ := rz
  refine wpAny_bind (wpAny_holding (wpAny_pure ?_))
  refine wpAny_bind (wpAny_letGo ?_)
  show wpAny _ _ (if n < 0 then _ else _) _ _ _
  rw [if_neg (by omega)]
  show wpAny _ _ (if n ≥ 2 ^ 63 then _ else _) _ _ _
  rw [if_neg (by omega)]
  exact wpAny_bind (wpAny_mkInt (wpAny_pure ⟨_, rfl, .int n, H', I'.tok _, ⟨_, rfl⟩, q⟩))
/-- x in c: c an instance with its own __contains__, which says a truth value -/
def rInO (neg : Bool) (C : Addr) (sp : Sp) (E : XK) : R2 := fun x y H Q => ∃ a dx fs, y = .ref a ∧ H a = some (.ins C dx fs) ∧ sp [.ref a, x] H (fun v H' => ∃ b : Bool, v = .bl b ∧ Q (.bl (if neg then !b else b)) H') E
theorem contains_own {pins : List (Addr × Obj)} {s : Shared} {σ : L2.St} {H : Hp} {x : V} {v : Value} {a dx : Addr} {fs : List (Str × V)} {Q : Bool → Shared → Prop} {Q0 : Bool → Hp → Prop} (hm : Meth X.K C "__contains__" f) (F : FnOk X.prog X.w X.K X.mg X.base CX k f fd ps sp) (hr : Room k X.A) (hb : Binds X.K fd ps []) (hx : ∀ σ, PassesAt CX X σ E)
    (I : Inv X pins σ H s) (rx : RelV x v) (ha : H a = some (.ins C dx fs)) (hk : ∀ b H' s', Inv X pins σ H' s' → Q0 b H' → Q b s') (hq : sp [.ref a, x] H (fun y H' => ∃ b : Bool, y = .bl b ∧ Q0 b H') E) : wpAny (model X.prog X.w) X.A (contains (.ref a) v) Q X.xe s := by
  obtain ⟨mA, J, _⟩ := ins_get I.hok ha
  obtain ⟨od, J, _⟩ := J.look
  obtain ⟨m, hF⟩ := I.fr
  have kin := I.ok.mod.kin.keeps hF.keep
  unfold contains
  refine wpAny_holding ?_
  show wpAny _ _ (specialOf (.ref a) (Str.ofString "__contains__") >>= _) _ _ _
  have sp1 : PySem.W.Looks (model X.prog X.w) s.heap (specialOf (.ref a) (Str.ofString "__contains__")) (some (.ref f)) := J.type.andThen (PySem.W.looks_findIn kin hm.at_)
  refine wpAny_bind (sp1.here ?_)
  show wpAny _ _ (callSpecialUnlessNone? (.ref a) (Str.ofString "__contains__") [v] _ >>= _) _ _ _
  refine wpAny_bind ?_
  simp only [callSpecialUnlessNone?]
  refine wpAny_bind (sp1.here ?_)
  refine wpAny_holding (wpAny_bind ((PySem.W.bind_fn kin _ (beq_iff_eq.mp hm.fn)).here ?_))
  show wpAny _ _ (call (.ref f) [.ref a, v] >>= _) _ _ _
  refine wpAny_bind (wpAny_mono (run_fnSD (E := fun _ => E) (us := [.ref a, v]) (vs := [.ref a, x]) (ds := []) (dvs := []) F hr hb .nil (hx σ) I (.cons rfl (.cons rx .nil)) hq) (fun z s' q => ?_) fun _ _ x => x)
  obtain ⟨y, H', I', rz, b, ey, q⟩ := q
  subst ey
  obtain rfl : z = .bool b := rz
  refine wpAny_pure ?_
  exact wpAny_pure (hk _ _ s' I' q)
theorem op_inO (hm : Meth X.K C "__contains__" f) (F : FnOk X.prog X.w X.K X.mg X.base CX k f fd ps sp) (hr : Room k X.A) (hb : Binds X.K fd ps []) (hx : ∀ σ, PassesAt CX X σ E) : OpR X (compareOp .In) (rInO false C sp E) := by
  intro pins s σ H x y v u Q I rx ry h
  obtain ⟨a, dx, fs, rfl, ha, hq⟩ := h
  cases ry
  show wpAny _ _ (contains (.ref a) v >>= _) _ _ _
  refine wpAny_bind (contains_own (Q0 := fun b H' => Q (.bl b) H') hm F hr hb hx I rx ha (fun b H' s' I' q => wpAny_pure ⟨.bl b, H', I', rfl, q⟩) hq)
theorem op_notInO (hm : Meth X.K C "__contains__" f) (F : FnOk X.prog X.w X.K X.mg X.base CX k f fd ps sp) (hr : Room k X.A) (hb : Binds X.K fd ps []) (hx : ∀ σ, PassesAt CX X σ E) : OpR X (compareOp .NotIn) (rInO true C sp E) := by
  intro pins s σ H x y v u Q I rx ry h
  obtain ⟨a, dx, fs, rfl, ha, hq⟩ := h
  cases ry
  show wpAny _ _ (contains (.ref a) v >>= _) _ _ _
  refine wpAny_bind (contains_own (Q0 := fun b H' => Q (.bl (!b)) H') hm F hr hb hx I rx ha (fun b H' s' I' q => wpAny_pure ⟨.bl (!b), H', I', rfl, q⟩) hq)
end
/-! ### iter(t), t a tuple; for x in an instance with its own __iter__ -/
def ItT (t it : Addr) : HO := .ext fun h => h.IsTupleIter it t 0
theorem itT_ok {P : Program} {w : World} {H : Hp} {h : Heap} {t it : Addr} (e : h.IsTupleIter it t 0) : ObjOk P w H h it (ItT t it) :=
  ⟨e, let ⟨o, ho, _⟩ := e; ⟨o, ho⟩, fun h1 h2 q k => let ⟨o, ho, c, d⟩ := q; ⟨o, k _ ho, c, d⟩⟩
def rIterT (K : PySem.W.Frag) : List V → Hp → VK → Prop := fun xs H Q => ∃ (t : Addr) (zs : List V), xs = [.ref t] ∧ SqT K H t zs ∧ ∀ it, H it = none → (∀ m o, H m = some o → m < it) → Q (.ref it) (upd H it (ItT t it))
theorem call_iterT {X : Cx} : CallR X (.builtin "iter") (rIterT X.K) := by
  intro pins s σ H xs us Q I r h
  obtain ⟨t, zs, rfl, hq, q⟩ := h
  obtain ⟨u, rfl, ru⟩ := vals1 r
  cases ru
  obtain ⟨its, rv, p, hz⟩ := I.tuple hq
  refine Calls.call_function_entry (by decide +kernel) (by decide +kernel) PySem.W.kdk_entry_iter (PySem.W.kdk_args_iter _) ?_
  unfold Builtin.«iter»
  refine wpAny_bind (m := someArgs "iter" 1 2 _) (wpAny_of_eq (a := [Value.ref t]) (by first | rfl | kernel_rfl!) ?_)
  show wpAny _ _ (pyIter (.ref t) >>= _) _ _ _
  refine wpAny_bind (wpAny_pyIter_tuple (show s.heap.IsTuple t its.toArray from p) ?_)
  refine wpAny_pure ⟨_, rfl, ?_⟩
  refine ⟨.ref s.heap.objs.size, _, I.laid (t' := s.toks) (fun b u e => Heap.get?_push_of_some _ e) (Nat.le_refl _) (itT_ok ⟨_, Heap.get?_push_size _ rfl, rfl, rfl⟩), rfl, q _ (I.hok.fresh (Nat.le_refl _)) fun m o e => ?_⟩
  rcases Nat.lt_or_ge m s.heap.objs.size with hlt | hge
  · exact hlt
  · rw [I.hok.fresh hge] at e
    cases e
/-- a new list that is not older than the frame -/
def tLstN (n : Nat) (t : TA) : TE := fun σ H Q => t σ H fun xs H1 => xs.length ≤ sizeLine ∧ ∀ p, H1 p = none → n ≤ p → Q (.ref p) (upd H1 p (.lst xs))
theorem pe_lstN {X : Cx} {es : List Expr} {t : TA} {pos : Pos} (h : PA X es t) : PE X (.List es pos) (tLstN X.s_0.heap.objs.size t) := by
  constructor
  intro pins s σ H Q I hq
  refine wpAny_List_spliced (wpAny_mono (h.run pos pins s σ H _ I hq) (fun us s1 ⟨xs, H1, I1, r, z, q⟩ => ⟨by rw [← r.length]; exact z, ?_⟩) fun _ _ x => x)
  refine ⟨.ref s1.heap.objs.size, _, I1.laid (t' := s1.toks) (fun b u e => Heap.get?_push_of_some _ e) (Nat.le_refl _) (o := .lst xs) ⟨z, us, 0, r, Heap.get?_push_size _ rfl⟩, rfl, q _ (I1.hok.fresh (Nat.le_refl _)) I1.sz⟩
def iOwn (K : PySem.W.Frag) (n : Nat) (C : Addr) (sp : Sp) (E : XK) (te : TE) : TI := fun σ H R => te σ H fun x H1 => ∃ a dx fs, x = .ref a ∧ H1 a = some (.ins C dx fs) ∧
  sp [.ref a] H1 (fun v H' => ∃ (it t : Addr), v = .ref it ∧ H' it = some (ItT t it) ∧ n ≤ it ∧ R (Itt K t) (ItX.dropH H' it)) E
section
variable {X : Cx} {CX : CXT} {k : Nat} {f C : Addr} {fd : FuncData} {ps : List Str} {sp : Sp} {E : XK}
theorem unless_own {M : Model} {A : Around} {Ee : Value → Shared → Prop} {s : Shared} {v : Value} {name : Str} {refuse : Sem Value} {Q : Option Value → Shared → Prop} (sp1 : PySem.W.Looks M s.heap (specialOf v name) (some (.ref f))) (bnd : PySem.W.Looks M s.heap (bindSpecial (.ref f) v) (.ref f, [v]))
    (h : wpAny M A (call (.ref f) [v]) (fun r s' => Q (some r) s') Ee s) : wpAny M A (callSpecialIfBoundUnlessNone? v name refuse) Q Ee s := by
  simp only [callSpecialIfBoundUnlessNone?, bindSpecialIfBound?]
  refine wpAny_holding (wpAny_bind (wpAny_bind (sp1.here ?_)))
  refine wpAny_bind (wpAny_askSetting (wpAny_ite ?_))
  have fin : wpAny M A (call (.ref f) [v] >>= fun r => pure (some r)) Q Ee s := wpAny_bind (wpAny_mono h (fun r s' q => wpAny_pure q) fun _ _ x => x)
  split
  · exact wpAny_bind (bnd.here (wpAny_pure (by exact fin)))
  · exact wpAny_tryCatch (wpAny_bind (bnd.here (wpAny_pure (by exact fin))))
theorem pi_own {l tg : Expr} {tl : TE} (hl : PE X l tl) (hm : Meth X.K C "__iter__" f) (F : FnOk X.prog X.w X.K X.mg X.base CX k f fd ps sp) (hr : Room k X.A) (hb : Binds X.K fd ps []) (hx : ∀ σ, PassesAt CX X σ E) : PI X tg l (iOwn X.K X.s_0.heap.objs.size C sp E tl) := by
  refine ⟨fun pins s σ H R I h => ?_⟩
  refine wpAny_mono (hl.run pins s σ H _ I h) (fun v s1 ⟨x, H1, I1, r1, a, dx, fs, ex, ha, hq⟩ => ?_) fun _ _ x => x
  subst ex
  obtain rfl : v = Value.ref a := r1
  obtain ⟨mA, J, _⟩ := ins_get I1.hok ha
  obtain ⟨od, J, _⟩ := J.look
  obtain ⟨m, hF⟩ := I1.fr
  have kin := I1.ok.mod.kin.keeps hF.keep
  have sp1 : PySem.W.Looks (model X.prog X.w) s1.heap (specialOf (.ref a) (Str.ofString "__iter__")) (some (.ref f)) := J.type.andThen (PySem.W.looks_findIn kin hm.at_)
  have bnd := PySem.W.bind_fn (M := model X.prog X.w) kin (.ref a) (beq_iff_eq.mp hm.fn)
  unfold pyIter
  refine wpAny_bind (sp1.here ?_)
  show wpAny _ _ (callSpecialIfBoundUnlessNone? (.ref a) (Str.ofString "__iter__") _ >>= _) _ _ _
  refine wpAny_bind (unless_own sp1 bnd ?_)
  refine wpAny_mono (run_fnSD (E := fun _ => E) (us := [.ref a]) (vs := [.ref a]) (ds := []) (dvs := []) F hr hb .nil (hx σ) I1 (.cons rfl .nil) hq) (fun z s' q => ?_) fun _ _ x => x
  obtain ⟨y, H', I', rz, it, t, ey, hi, hn, q⟩ := q
  subst ey
  obtain rfl : z = .ref it := rz
  have hi' := hi
  unfold ItT at hi'
  have st : s'.heap.IsTupleIter it t 0 := (I'.hok it _ hi).1
  obtain ⟨o, ho, hc, hd⟩ := id st
  refine wpAny_bind (wpAny_specialOf (name := Str.ofString "__next__") (T := "tuple_iterator") ⟨o, ho, hc⟩ PySem.F.slot_tuple_iterator_next.lookup ?_)
  refine wpAny_pure ⟨it, [it], _, _, ItX.dropH H' it, rfl, ItX.inv_drop I' hi', turn_tuple t it, st, fun b hb => ?_, q⟩
  have e : b = it := by simpa using hb
  rw [e]
  exact ItX.inv_fp I' hi hn
end
end Fo

namespace G
open PySem PySem.Spec PyProof.Rows L2 Z
def topS (i : Nat) : Stmt := PySem.Challenge.pw_fontwinding_k65_widths_and_positions.main.body.getD i (.Pass ⟨0, 0, 0, 0⟩)
abbrev s_groups : Stmt := topS 7
abbrev s_values_in_order : Stmt := topS 8
abbrev s_groups_in_order : Stmt := topS 9
abbrev s_least_tolerance : Stmt := topS 10
abbrev s_table_groups : Stmt := topS 11
abbrev s_group_value : Stmt := topS 12
abbrev s_table : Stmt := topS 13
abbrev s_table_value : Stmt := topS 15
abbrev s_rule : Stmt := topS 19
abbrev s_action_from : Stmt := topS 20
abbrev s_rules_of : Stmt := topS 21
abbrev s_pairs_with_steps : Stmt := topS 22
abbrev s_applied : Stmt := topS 23
abbrev s_endless_pairs : Stmt := topS 24
abbrev s_find_ends : Stmt := topS 25
abbrev s_followed : Stmt := topS 26
abbrev s_set_line : Stmt := topS 29
abbrev s_check_length : Stmt := topS 30
abbrev s_set_row : Stmt := topS 31
abbrev s_kern_of : Stmt := topS 32
abbrev s_glyphs_and_kerns : Stmt := topS 33
abbrev s_Font___init__ : Stmt := inClass (topS 36) 0
abbrev s_Font___len__ : Stmt := inClass (topS 36) 1
abbrev s_Font___contains__ : Stmt := inClass (topS 36) 2
abbrev s_Font___iter__ : Stmt := inClass (topS 36) 3
abbrev s_Font_character : Stmt := inClass (topS 36) 4
abbrev s_Font_pixel : Stmt := inClass (topS 36) 5
abbrev s_Font_table : Stmt := inClass (topS 36) 6
abbrev s_Font_table_value : Stmt := inClass (topS 36) 7
abbrev s_Font__metric_values : Stmt := inClass (topS 36) 8
abbrev s_Font_line : Stmt := inClass (topS 36) 9
abbrev s_Font_width : Stmt := inClass (topS 36) 10
abbrev s_Font_positions : Stmt := inClass (topS 36) 11
abbrev s_Font__widths : Stmt := inClass (topS 36) 12
abbrev s__law_cell : Stmt := topS 38
abbrev s__law_stream : Stmt := topS 39
abbrev s__law_next : Stmt := topS 40
abbrev s__law_is_integer : Stmt := topS 41
abbrev s__law_ascending : Stmt := topS 43
abbrev s__law_greedy : Stmt := topS 44
abbrev s__law_table : Stmt := topS 45
abbrev s__law_middle : Stmt := topS 46
abbrev s__law_refuses : Stmt := topS 47
abbrev s__law_too_long : Stmt := topS 48
abbrev s__law_kern : Stmt := topS 49
abbrev s_law : Stmt := topS 50
theorem sc_groups : FnScope ["values", "tolerance"] ["values", "tolerance"] (defScope s_groups) := ⟨rfl, rfl, rfl, by decide +kernel, rfl, by decide +kernel, by decide +kernel⟩
theorem sc_values_in_order : FnScope ["values", "value"] ["values"] (defScope s_values_in_order) := ⟨rfl, rfl, rfl, by decide +kernel, rfl, by decide +kernel, by decide +kernel⟩
theorem sc_groups_in_order : FnScope ["values", "tolerance", "found", "value"] ["values", "tolerance"] (defScope s_groups_in_order) := ⟨rfl, rfl, rfl, by decide +kernel, rfl, by decide +kernel, by decide +kernel⟩
theorem sc_least_tolerance : FnScope ["values", "limit", "ordered", "low", "high", "middle"] ["values", "limit"] (defScope s_least_tolerance) := ⟨rfl, rfl, rfl, by decide +kernel, rfl, by decide +kernel, by decide +kernel⟩
theorem sc_table_groups : FnScope ["values", "limit"] ["values", "limit"] (defScope s_table_groups) := ⟨rfl, rfl, rfl, by decide +kernel, rfl, by decide +kernel, by decide +kernel⟩
theorem sc_group_value : FnScope ["group"] ["group"] (defScope s_group_value) := ⟨rfl, rfl, rfl, by decide +kernel, rfl, by decide +kernel, by decide +kernel⟩
theorem sc_table : FnScope ["values", "limit", "group"] ["values", "limit"] (defScope s_table) := ⟨rfl, rfl, rfl, by decide +kernel, rfl, by decide +kernel, by decide +kernel⟩
theorem sc_table_value : FnScope ["values", "limit", "value", "group"] ["values", "limit", "value"] (defScope s_table_value) := ⟨rfl, rfl, rfl, by decide +kernel, rfl, by decide +kernel, by decide +kernel⟩
theorem sc_rule : FnScope ["steps", "labels", "left", "right", "code", "index"] ["steps", "labels", "left", "right"] (defScope s_rule) := ⟨rfl, rfl, rfl, by decide +kernel, rfl, by decide +kernel, by decide +kernel⟩
theorem sc_action_from : FnScope ["steps", "index", "right", "step_right", "action", "is_last"] ["steps", "index", "right"] (defScope s_action_from) := ⟨rfl, rfl, rfl, by decide +kernel, rfl, by decide +kernel, by decide +kernel⟩
theorem sc_rules_of : FnScope ["steps", "labels", "found", "left", "right", "action"] ["steps", "labels"] (defScope s_rules_of) := ⟨rfl, rfl, rfl, by decide +kernel, rfl, by decide +kernel, by decide +kernel⟩
theorem sc_pairs_with_steps : FnScope ["steps", "labels", "rights", "step", "left", "label", "right"] ["steps", "labels"] (defScope s_pairs_with_steps) := ⟨rfl, rfl, rfl, by decide +kernel, rfl, by decide +kernel, by decide +kernel⟩
theorem sc_applied : FnScope ["left", "right", "action", "_", "code", "left_stays", "right_stays", "advance", "items"] ["left", "right", "action"] (defScope s_applied) := ⟨rfl, rfl, rfl, by decide +kernel, rfl, by decide +kernel, by decide +kernel⟩
theorem sc_endless_pairs : FnScope ["steps", "labels", "ends", "pair"] ["steps", "labels"] (defScope s_endless_pairs) := ⟨rfl, rfl, rfl, by decide +kernel, rfl, by decide +kernel, by decide +kernel⟩
theorem sc_find_ends : FnScope ["steps", "labels", "pair", "ends", "waiting", "left", "right", "items", "place", "end", "needed"] ["steps", "labels", "pair", "ends"] (defScope s_find_ends) := ⟨rfl, rfl, rfl, by decide +kernel, rfl, by decide +kernel, by decide +kernel⟩
theorem sc_followed : FnScope ["items", "ends", "here", "item"] ["items", "ends"] (defScope s_followed) := ⟨rfl, rfl, rfl, by decide +kernel, rfl, by decide +kernel, by decide +kernel⟩
theorem sc_set_line : FnScope ["steps", "labels", "codes"] ["steps", "labels", "codes"] (defScope s_set_line) := ⟨rfl, rfl, rfl, by decide +kernel, rfl, by decide +kernel, by decide +kernel⟩
theorem sc_check_length : FnScope ["count"] ["count"] (defScope s_check_length) := ⟨rfl, rfl, rfl, by decide +kernel, rfl, by decide +kernel, by decide +kernel⟩
theorem sc_set_row : FnScope ["rules", "codes", "done", "here", "ahead", "right", "action", "items", "place", "item"] ["rules", "codes"] (defScope s_set_row) := ⟨rfl, rfl, rfl, by decide +kernel, rfl, by decide +kernel, by decide +kernel⟩
theorem sc_kern_of : FnScope ["action"] ["action"] (defScope s_kern_of) := ⟨rfl, rfl, rfl, by decide +kernel, rfl, by decide +kernel, by decide +kernel⟩
theorem sc_glyphs_and_kerns : FnScope ["row", "glyphs", "kerns", "item", "kern"] ["row"] (defScope s_glyphs_and_kerns) := ⟨rfl, rfl, rfl, by decide +kernel, rfl, by decide +kernel, by decide +kernel⟩
theorem sc_Font___init__ : FnScope ["self", "characters", "steps", "labels"] ["self", "characters", "steps", "labels"] (defScope s_Font___init__) := ⟨rfl, rfl, rfl, by decide +kernel, rfl, by decide +kernel, by decide +kernel⟩
theorem sc_Font___len__ : FnScope ["self"] ["self"] (defScope s_Font___len__) := ⟨rfl, rfl, rfl, by decide +kernel, rfl, by decide +kernel, by decide +kernel⟩
theorem sc_Font___contains__ : FnScope ["self", "code", "character"] ["self", "code"] (defScope s_Font___contains__) := ⟨rfl, rfl, rfl, by decide +kernel, rfl, by decide +kernel, by decide +kernel⟩
theorem sc_Font___iter__ : FnScope ["self"] ["self"] (defScope s_Font___iter__) := ⟨rfl, rfl, rfl, by decide +kernel, rfl, by decide +kernel, by decide +kernel⟩
theorem sc_Font_character : FnScope ["self", "code", "character"] ["self", "code"] (defScope s_Font_character) := ⟨rfl, rfl, rfl, by decide +kernel, rfl, by decide +kernel, by decide +kernel⟩
theorem sc_Font_pixel : FnScope ["self", "code", "i", "j", "_", "left", "bottom", "rows", "column", "row"] ["self", "code", "i", "j"] (defScope s_Font_pixel) := ⟨rfl, rfl, rfl, by decide +kernel, rfl, by decide +kernel, by decide +kernel⟩
theorem sc_Font_table : FnScope ["self", "metric"] ["self", "metric"] (defScope s_Font_table) := ⟨rfl, rfl, rfl, by decide +kernel, rfl, by decide +kernel, by decide +kernel⟩
theorem sc_Font_table_value : FnScope ["self", "code", "metric", "value"] ["self", "code", "metric"] (defScope s_Font_table_value) := ⟨rfl, rfl, rfl, by decide +kernel, rfl, by decide +kernel, by decide +kernel⟩
theorem sc_Font__metric_values : FnScope ["self", "metric", "character"] ["self", "metric"] (defScope s_Font__metric_values) := ⟨rfl, rfl, rfl, by decide +kernel, rfl, by decide +kernel, by decide +kernel⟩
theorem sc_Font_line : FnScope ["self", "codes"] ["self", "codes"] (defScope s_Font_line) := ⟨rfl, rfl, rfl, by decide +kernel, rfl, by decide +kernel, by decide +kernel⟩
theorem sc_Font_width : FnScope ["self", "codes", "glyphs", "kerns", "widths", "glyph"] ["self", "codes"] (defScope s_Font_width) := ⟨rfl, rfl, rfl, by decide +kernel, rfl, by decide +kernel, by decide +kernel⟩
theorem sc_Font_positions : FnScope ["self", "codes", "glyphs", "kerns", "widths", "place", "found", "glyph", "kern"] ["self", "codes"] (defScope s_Font_positions) := ⟨rfl, rfl, rfl, by decide +kernel, rfl, by decide +kernel, by decide +kernel⟩
theorem sc_Font__widths : FnScope ["self", "character"] ["self"] (defScope s_Font__widths) := ⟨rfl, rfl, rfl, by decide +kernel, rfl, by decide +kernel, by decide +kernel⟩
theorem sc__law_cell : FnScope ["script", "k"] ["script", "k"] (defScope s__law_cell) := ⟨rfl, rfl, rfl, by decide +kernel, rfl, by decide +kernel, by decide +kernel⟩
theorem sc__law_stream : FnScope ["cell"] ["cell"] (defScope s__law_stream) := ⟨rfl, rfl, rfl, by decide +kernel, rfl, by decide +kernel, by decide +kernel⟩
theorem sc__law_next : FnScope ["stream", "size", "drawn", "mixed"] ["stream", "size"] (defScope s__law_next) := ⟨rfl, rfl, rfl, by decide +kernel, rfl, by decide +kernel, by decide +kernel⟩
theorem sc__law_is_integer : FnScope ["actual"] ["actual"] (defScope s__law_is_integer) := ⟨rfl, rfl, rfl, by decide +kernel, rfl, by decide +kernel, by decide +kernel⟩
theorem sc__law_ascending : FnScope ["values", "told", "value"] ["values"] (defScope s__law_ascending) := ⟨rfl, rfl, rfl, by decide +kernel, rfl, by decide +kernel, by decide +kernel⟩
theorem sc__law_greedy : FnScope ["rest", "e", "found", "value"] ["rest", "e"] (defScope s__law_greedy) := ⟨rfl, rfl, rfl, by decide +kernel, rfl, by decide +kernel, by decide +kernel⟩
theorem sc__law_table : FnScope ["values", "limit", "rest", "differences", "k", "value", "e"] ["values", "limit"] (defScope s__law_table) := ⟨rfl, rfl, rfl, by decide +kernel, rfl, by decide +kernel, by decide +kernel⟩
theorem sc__law_middle : FnScope ["found", "value", "least", "greatest"] ["found", "value"] (defScope s__law_middle) := ⟨rfl, rfl, rfl, by decide +kernel, rfl, by decide +kernel, by decide +kernel⟩
theorem sc__law_refuses : FnScope ["font", "code", "found", "e"] ["font", "code"] (defScope s__law_refuses) := ⟨rfl, rfl, rfl, by decide +kernel, rfl, by decide +kernel, by decide +kernel⟩
theorem sc__law_too_long : FnScope ["font", "codes", "found", "e"] ["font", "codes"] (defScope s__law_too_long) := ⟨rfl, rfl, rfl, by decide +kernel, rfl, by decide +kernel, by decide +kernel⟩
theorem sc__law_kern : FnScope ["steps", "labels", "left", "right", "code", "index"] ["steps", "labels", "left", "right"] (defScope s__law_kern) := ⟨rfl, rfl, rfl, by decide +kernel, rfl, by decide +kernel, by decide +kernel⟩
theorem sc_law : FnScope ["script", "stream", "count", "first", "tops", "metric", "characters", "k", "own", "metrics", "steps", "labels", "font", "told", "found", "values", "character", "least", "greatest", "line", "codes", "at", "positions", "width"] ["script"] (defScope s_law) := ⟨rfl, rfl, rfl, by decide +kernel, rfl, by decide +kernel, by decide +kernel⟩
structure Txt (K : PySem.W.Frag) (mg : Str → Option Value) (A : Nat → Addr) (D : Nat → FuncData) : Prop where
  F_groups : Fun K "groups" "groups" s_groups (A 5) (D 5)
  m_groups : mg "groups" = some (.ref (A 5))
  b_groups : Binds K (D 5) ["values", "tolerance"] []
  F_values_in_order : Fun K "values_in_order" "values_in_order" s_values_in_order (A 6) (D 6)
  m_values_in_order : mg "values_in_order" = some (.ref (A 6))
  b_values_in_order : Binds K (D 6) ["values"] []
  F_groups_in_order : Fun K "groups_in_order" "groups_in_order" s_groups_in_order (A 7) (D 7)
  m_groups_in_order : mg "groups_in_order" = some (.ref (A 7))
  b_groups_in_order : Binds K (D 7) ["values", "tolerance"] []
  F_least_tolerance : Fun K "least_tolerance" "least_tolerance" s_least_tolerance (A 8) (D 8)
  m_least_tolerance : mg "least_tolerance" = some (.ref (A 8))
  b_least_tolerance : Binds K (D 8) ["values", "limit"] []
  F_table_groups : Fun K "table_groups" "table_groups" s_table_groups (A 9) (D 9)
  m_table_groups : mg "table_groups" = some (.ref (A 9))
  b_table_groups : Binds K (D 9) ["values", "limit"] []
  F_group_value : Fun K "group_value" "group_value" s_group_value (A 10) (D 10)
  m_group_value : mg "group_value" = some (.ref (A 10))
  b_group_value : Binds K (D 10) ["group"] []
  F_table : Fun K "table" "table" s_table (A 11) (D 11)
  m_table : mg "table" = some (.ref (A 11))
  b_table : Binds K (D 11) ["values", "limit"] []
  F_table_value : Fun K "table_value" "table_value" s_table_value (A 12) (D 12)
  m_table_value : mg "table_value" = some (.ref (A 12))
  b_table_value : Binds K (D 12) ["values", "limit", "value"] []
  F_rule : Fun K "rule" "rule" s_rule (A 13) (D 13)
  m_rule : mg "rule" = some (.ref (A 13))
  b_rule : Binds K (D 13) ["steps", "labels", "left", "right"] []
  F_action_from : Fun K "action_from" "action_from" s_action_from (A 14) (D 14)
  m_action_from : mg "action_from" = some (.ref (A 14))
  b_action_from : Binds K (D 14) ["steps", "index", "right"] []
  F_rules_of : Fun K "rules_of" "rules_of" s_rules_of (A 15) (D 15)
  m_rules_of : mg "rules_of" = some (.ref (A 15))
  b_rules_of : Binds K (D 15) ["steps", "labels"] []
  F_pairs_with_steps : Fun K "pairs_with_steps" "pairs_with_steps" s_pairs_with_steps (A 16) (D 16)
  m_pairs_with_steps : mg "pairs_with_steps" = some (.ref (A 16))
  b_pairs_with_steps : Binds K (D 16) ["steps", "labels"] []
  F_applied : Fun K "applied" "applied" s_applied (A 17) (D 17)
  m_applied : mg "applied" = some (.ref (A 17))
  b_applied : Binds K (D 17) ["left", "right", "action"] []
  F_endless_pairs : Fun K "endless_pairs" "endless_pairs" s_endless_pairs (A 18) (D 18)
  m_endless_pairs : mg "endless_pairs" = some (.ref (A 18))
  b_endless_pairs : Binds K (D 18) ["steps", "labels"] []
  F_find_ends : Fun K "find_ends" "find_ends" s_find_ends (A 19) (D 19)
  m_find_ends : mg "find_ends" = some (.ref (A 19))
  b_find_ends : Binds K (D 19) ["steps", "labels", "pair", "ends"] []
  F_followed : Fun K "followed" "followed" s_followed (A 20) (D 20)
  m_followed : mg "followed" = some (.ref (A 20))
  b_followed : Binds K (D 20) ["items", "ends"] []
  F_set_line : Fun K "set_line" "set_line" s_set_line (A 21) (D 21)
  m_set_line : mg "set_line" = some (.ref (A 21))
  b_set_line : Binds K (D 21) ["steps", "labels", "codes"] []
  F_check_length : Fun K "check_length" "check_length" s_check_length (A 22) (D 22)
  m_check_length : mg "check_length" = some (.ref (A 22))
  b_check_length : Binds K (D 22) ["count"] []
  F_set_row : Fun K "set_row" "set_row" s_set_row (A 23) (D 23)
  m_set_row : mg "set_row" = some (.ref (A 23))
  b_set_row : Binds K (D 23) ["rules", "codes"] []
  F_kern_of : Fun K "kern_of" "kern_of" s_kern_of (A 24) (D 24)
  m_kern_of : mg "kern_of" = some (.ref (A 24))
  b_kern_of : Binds K (D 24) ["action"] []
  F_glyphs_and_kerns : Fun K "glyphs_and_kerns" "glyphs_and_kerns" s_glyphs_and_kerns (A 25) (D 25)
  m_glyphs_and_kerns : mg "glyphs_and_kerns" = some (.ref (A 25))
  b_glyphs_and_kerns : Binds K (D 25) ["row"] []
  F_Font___init__ : Fun K "__init__" "Font.__init__" s_Font___init__ (A 26) (D 26)
  b_Font___init__ : Binds K (D 26) ["self", "characters", "steps", "labels"] []
  F_Font___len__ : Fun K "__len__" "Font.__len__" s_Font___len__ (A 27) (D 27)
  m_Font___len__ : Meth K (A 4) "__len__" (A 27)
  b_Font___len__ : Binds K (D 27) ["self"] []
  F_Font___contains__ : Fun K "__contains__" "Font.__contains__" s_Font___contains__ (A 28) (D 28)
  m_Font___contains__ : Meth K (A 4) "__contains__" (A 28)
  b_Font___contains__ : Binds K (D 28) ["self", "code"] []
  F_Font___iter__ : Fun K "__iter__" "Font.__iter__" s_Font___iter__ (A 29) (D 29)
  m_Font___iter__ : Meth K (A 4) "__iter__" (A 29)
  b_Font___iter__ : Binds K (D 29) ["self"] []
  F_Font_character : Fun K "character" "Font.character" s_Font_character (A 30) (D 30)
  m_Font_character : Meth K (A 4) "character" (A 30)
  b_Font_character : Binds K (D 30) ["self", "code"] []
  F_Font_pixel : Fun K "pixel" "Font.pixel" s_Font_pixel (A 31) (D 31)
  m_Font_pixel : Meth K (A 4) "pixel" (A 31)
  b_Font_pixel : Binds K (D 31) ["self", "code", "i", "j"] []
  F_Font_table : Fun K "table" "Font.table" s_Font_table (A 32) (D 32)
  m_Font_table : Meth K (A 4) "table" (A 32)
  b_Font_table : Binds K (D 32) ["self", "metric"] []
  F_Font_table_value : Fun K "table_value" "Font.table_value" s_Font_table_value (A 33) (D 33)
  m_Font_table_value : Meth K (A 4) "table_value" (A 33)
  b_Font_table_value : Binds K (D 33) ["self", "code", "metric"] []
  F_Font__metric_values : Fun K "_metric_values" "Font._metric_values" s_Font__metric_values (A 34) (D 34)
  m_Font__metric_values : Meth K (A 4) "_metric_values" (A 34)
  b_Font__metric_values : Binds K (D 34) ["self", "metric"] []
  F_Font_line : Fun K "line" "Font.line" s_Font_line (A 35) (D 35)
  m_Font_line : Meth K (A 4) "line" (A 35)
  b_Font_line : Binds K (D 35) ["self", "codes"] []
  F_Font_width : Fun K "width" "Font.width" s_Font_width (A 36) (D 36)
  m_Font_width : Meth K (A 4) "width" (A 36)
  b_Font_width : Binds K (D 36) ["self", "codes"] []
  F_Font_positions : Fun K "positions" "Font.positions" s_Font_positions (A 37) (D 37)
  m_Font_positions : Meth K (A 4) "positions" (A 37)
  b_Font_positions : Binds K (D 37) ["self", "codes"] []
  F_Font__widths : Fun K "_widths" "Font._widths" s_Font__widths (A 38) (D 38)
  m_Font__widths : Meth K (A 4) "_widths" (A 38)
  b_Font__widths : Binds K (D 38) ["self"] []
  F__law_cell : Fun K "_law_cell" "_law_cell" s__law_cell (A 39) (D 39)
  m__law_cell : mg "_law_cell" = some (.ref (A 39))
  b__law_cell : Binds K (D 39) ["script", "k"] []
  F__law_stream : Fun K "_law_stream" "_law_stream" s__law_stream (A 40) (D 40)
  m__law_stream : mg "_law_stream" = some (.ref (A 40))
  b__law_stream : Binds K (D 40) ["cell"] []
  F__law_next : Fun K "_law_next" "_law_next" s__law_next (A 41) (D 41)
  m__law_next : mg "_law_next" = some (.ref (A 41))
  b__law_next : Binds K (D 41) ["stream", "size"] []
  F__law_is_integer : Fun K "_law_is_integer" "_law_is_integer" s__law_is_integer (A 42) (D 42)
  m__law_is_integer : mg "_law_is_integer" = some (.ref (A 42))
  b__law_is_integer : Binds K (D 42) ["actual"] []
  F__law_ascending : Fun K "_law_ascending" "_law_ascending" s__law_ascending (A 43) (D 43)
  m__law_ascending : mg "_law_ascending" = some (.ref (A 43))
  b__law_ascending : Binds K (D 43) ["values"] []
  F__law_greedy : Fun K "_law_greedy" "_law_greedy" s__law_greedy (A 44) (D 44)
  m__law_greedy : mg "_law_greedy" = some (.ref (A 44))
  b__law_greedy : Binds K (D 44) ["rest", "e"] []
  F__law_table : Fun K "_law_table" "_law_table" s__law_table (A 45) (D 45)
  m__law_table : mg "_law_table" = some (.ref (A 45))
  b__law_table : Binds K (D 45) ["values", "limit"] []
  F__law_middle : Fun K "_law_middle" "_law_middle" s__law_middle (A 46) (D 46)
  m__law_middle : mg "_law_middle" = some (.ref (A 46))
  b__law_middle : Binds K (D 46) ["found", "value"] []
  F__law_refuses : Fun K "_law_refuses" "_law_refuses" s__law_refuses (A 47) (D 47)
  m__law_refuses : mg "_law_refuses" = some (.ref (A 47))
  b__law_refuses : Binds K (D 47) ["font", "code"] []
  F__law_too_long : Fun K "_law_too_long" "_law_too_long" s__law_too_long (A 48) (D 48)
  m__law_too_long : mg "_law_too_long" = some (.ref (A 48))
  b__law_too_long : Binds K (D 48) ["font", "codes"] []
  F__law_kern : Fun K "_law_kern" "_law_kern" s__law_kern (A 49) (D 49)
  m__law_kern : mg "_law_kern" = some (.ref (A 49))
  b__law_kern : Binds K (D 49) ["steps", "labels", "left", "right"] []
  F_law : Fun K "law" "law" s_law (A 50) (D 50)
  m_law : mg "law" = some (.ref (A 50))
  b_law : Binds K (D 50) ["script"] []
  q_Font : Cls K (A 4)
  g_Font : mg "Font" = some (.ref (A 4))
  M_Font : Mk K (A 4) (A 26)
  nf_Font_characters : NoAttr K (A 4) "characters"
  nf_Font_steps : NoAttr K (A 4) "steps"
  nf_Font_labels : NoAttr K (A 4) "labels"
  sf_Font : PySem.W.selfFirst K (A 4) = true
  m_table_metrics : mg "table_metrics" = some (.ref (A 11))
  m_table_value_metrics : mg "table_value_metrics" = some (.ref (A 12))
  x_FontError : Z.ExcX K mg "FontError" (A 0)
  x_OutOfRange : Z.ExcX K mg "OutOfRange" (A 1)
  x_TooLong : Z.ExcX K mg "TooLong" (A 2)
  x_EndlessPair : Z.ExcX K mg "EndlessPair" (A 3)
  e_FontError_FontError : PySem.W.subIn K (.ref (A 0)) (.ref (A 0)) = some true
  e_FontError_OutOfRange : PySem.W.subIn K (.ref (A 0)) (.ref (A 1)) = some false
  e_FontError_TooLong : PySem.W.subIn K (.ref (A 0)) (.ref (A 2)) = some false
  e_FontError_EndlessPair : PySem.W.subIn K (.ref (A 0)) (.ref (A 3)) = some false
  e_OutOfRange_FontError : PySem.W.subIn K (.ref (A 1)) (.ref (A 0)) = some true
  e_OutOfRange_OutOfRange : PySem.W.subIn K (.ref (A 1)) (.ref (A 1)) = some true
  e_OutOfRange_TooLong : PySem.W.subIn K (.ref (A 1)) (.ref (A 2)) = some false
  e_OutOfRange_EndlessPair : PySem.W.subIn K (.ref (A 1)) (.ref (A 3)) = some false
  e_TooLong_FontError : PySem.W.subIn K (.ref (A 2)) (.ref (A 0)) = some true
  e_TooLong_OutOfRange : PySem.W.subIn K (.ref (A 2)) (.ref (A 1)) = some false
  e_TooLong_TooLong : PySem.W.subIn K (.ref (A 2)) (.ref (A 2)) = some true
  e_TooLong_EndlessPair : PySem.W.subIn K (.ref (A 2)) (.ref (A 3)) = some false
  e_EndlessPair_FontError : PySem.W.subIn K (.ref (A 3)) (.ref (A 0)) = some true
  e_EndlessPair_OutOfRange : PySem.W.subIn K (.ref (A 3)) (.ref (A 1)) = some false
  e_EndlessPair_TooLong : PySem.W.subIn K (.ref (A 3)) (.ref (A 2)) = some false
  e_EndlessPair_EndlessPair : PySem.W.subIn K (.ref (A 3)) (.ref (A 3)) = some true
  z_bool : mg "bool" = none
  z_int : mg "int" = none
  z_isinstance : mg "isinstance" = none
  z_iter : mg "iter" = none
  z_len : mg "len" = none
  z_list : mg "list" = none
  z_range : mg "range" = none
  z_sorted : mg "sorted" = none
  z_sum : mg "sum" = none
  z_tuple : mg "tuple" = none
  z_zip : mg "zip" = none
  c_LIMITS : mg "LIMITS" = some (.ref (A 51))
  d_LIMITS : ∀ H : Hp, Dp K H (.ref (A 51)) (.tuple [(.int (8)), (.int (4)), (.int (3)), (.int (2))])
  c_EDGE : ∃ u, mg "EDGE" = some u ∧ RelV (.int (128)) u
  c_MOST_ITEMS : ∃ u, mg "MOST_ITEMS" = some u ∧ RelV (.int (400)) u
  c_WIDTH : ∃ u, mg "WIDTH" = some u ∧ RelV (.int (0)) u
local macro_rules | `(tactic| walk_at "z1") => `(tactic| first
  | with_reducible refine z_seq ?_
  | with_reducible refine z_asg ?_
  | with_reducible refine z_asgS ?_
  | with_reducible refine z_ifs ?_
  | ((with_reducible refine' z_var ?h ?_); case h => with_unfolding_all exact rfl)
  | with_reducible refine z_c ?_
  | with_reducible refine z_op ?_
  | with_reducible refine z_un ?_
  | with_reducible refine z_I0 ?_
  | ((with_reducible refine z_I ?h ?_); case h => first | (exact Or.inr ⟨by decide, by decide⟩) | (exact Or.inl ⟨by decide, by decide⟩) | (show (0 : Int) < _; first | assumption | omega))
  | with_reducible refine z_U ?_
  | with_reducible refine z_eqI ?_
  | with_reducible refine z_neI ?_
  | with_reducible refine z_test ?_
  | with_reducible refine z_tB ?_
  | with_reducible refine z_bl ?_
  | with_reducible refine z_notT ?_
  | with_reducible refine z_andT ?_
  | with_reducible refine z_orT ?_
  | with_reducible refine z_andV ?_
  | with_reducible refine z_orV ?_
  | with_reducible refine z_notV ?_
  | with_reducible refine z_ifE ?_
  | with_reducible refine z_ifT ?_
  | with_reducible refine z_ifF ?_
  | with_reducible refine z_ifNT ?_
  | with_reducible refine z_ifNF ?_
  | with_reducible refine z_chain ?_
  | with_reducible refine z_nil ?_
  | with_reducible refine z_cons ?_
  | with_reducible refine z_tup ?_
  | with_reducible refine z_lst ?_
  | with_reducible refine z_cb ?_
  | with_reducible refine z_call ?_
  | with_reducible refine z_callS ?_
  | with_reducible refine z_int1 ?_
  | with_reducible refine z_int1b ?_
  | with_reducible refine z_abs ?_
  | with_reducible refine z_gcd ?_
  | with_reducible refine z_ret ?_
  | with_reducible refine z_retN ?_
  | with_reducible refine z_drop ?_
  | with_reducible refine z_next ?_
  | with_reducible refine z_brk ?_
  | with_reducible refine z_cont ?_
  | with_reducible refine z_par ?_
  | with_reducible refine z_two ?_
  | with_reducible refine z_asgT ?_
  | with_reducible refine z_sl ?_
  | with_reducible refine z_noPart ?_
  | with_reducible refine z_part ?_
  | with_reducible refine z_partI ?_
  | with_reducible refine z_gName ?_
  | with_reducible refine z_gcons ?_
  | with_reducible refine z_gnil ?_
  | ((with_reducible refine' z_up ?h ?hm ?_); (case h => walk_at "sq"); (case hm => exact rfl))
  | ((with_reducible refine' z_gT ?h ?hm ?_); (case h => walk_at "sq"); (case hm => exact rfl))
  | with_reducible refine z_isII ?_
  | with_reducible refine z_isNN ?_
  | with_reducible refine z_isNR ?_
  | with_reducible refine z_notNN ?_
  | with_reducible refine z_notNR ?_
  | with_reducible refine z_isIB ?_
  | with_reducible refine z_isBB ?_
  | ((with_reducible refine' z_isT ?h ?_); (case h => walk_at "sq"))
  | ((with_reducible refine' z_isLL ?h ?_); case h => assumption)
  | ((with_reducible refine z_newT ?h ?_); case h => exact Nat.le_of_ble_eq_true rfl)
  | ((with_reducible refine z_newL ?h ?_); case h => exact Nat.le_of_ble_eq_true rfl)
  | ((with_reducible refine' z_ixL ?h ?h2 ?_); (case h => walk_at "sq"); (case h2 => exact rfl))
  | ((with_reducible refine' z_ixT ?h ?h2 ?_); (case h => walk_at "sq"); (case h2 => exact rfl))
  | ((with_reducible refine' z_lenL ?h ?_); case h => walk_at "sq")
  | ((with_reducible refine' z_lenT ?h ?_); case h => walk_at "sq")
  | ((with_reducible refine z_ifYes ?h ?_); (case h => exact rfl))
  | ((with_reducible refine z_ifNo ?h ?_); (case h => exact rfl)))
local macro_rules | `(tactic| walk_at "sq") => `(tactic| first | assumption | exact Or.inl (Or.inl (by assumption)) | exact Or.inl (Or.inl upd_same))
local macro_rules | `(tactic| walk_at "z") => `(tactic| repeat (walk_at "z1"))
/-! ### promises -/
def sp__law_cell (K : PySem.W.Frag) : Sp := fun vs H Q _ => ∃ (l : Addr) (ns : List Int) (j : Nat), vs = [.ref l, .int (j : Int)] ∧ SqL K H l (ns.map V.int) ∧ ∀ v, Q (.int v) H
/-- a stream: three ints, whatever they are -/
def IsStm (H : Hp) (p : Addr) : Prop := ∃ a b m : Int, H p = some (.lst [.int a, .int b, .int m])
def sp__law_stream : Sp := fun vs H Q _ => ∃ c : Int, vs = [.int c] ∧ ∀ p H' a b m, H p = none → Same H H' → H' p = some (.lst [.int a, .int b, .int m]) → Q (.ref p) H'
def sp__law_next : Sp := fun vs H Q _ => ∃ (p : Addr) (z : Int), vs = [.ref p, .int z] ∧ IsStm H p ∧ 0 < z ∧ z.natAbs < 2 ^ 1000 ∧ ∀ v a b m, 0 ≤ v → v < z → Q (.int v) (upd H p (.lst [.int a, .int b, .int m]))
section
theorem ok__law_cell {P : Program} {w : World} {K : PySem.W.Frag} {mg : Str → Option Value} {base : Heap} {A : Nat → Addr} {D : Nat → FuncData} (T : Txt K mg A D) : FnOk P w K mg base (L2.CX P w) 1 (A 39) (D 39) ["script", "k"] (sp__law_cell K) := by
  refine T.F__law_cell.okX sc__law_cell (fun vs H Q E h => ?_) (fun cdv A' outer s H vs Q E hr h => ?_)
  · obtain ⟨l, ns, j, rfl, _⟩ := h
    rfl
  obtain ⟨l, ns, j, rfl, hS, q⟩ := h
  refine ⟨_, (pss_cons (ps_if (pt_cmpR op_lt (pv 1) (pe_callB Z.c_len (by rfl) T.z_len (by decide +kernel) (pa_cons (pv 0) pa_nil)) (nomark _))
  (pss_one (ps_ret (pe_ix ix_list (pv 0) (pv 1) (fun _ _ => rfl))))
  pss_nil)
  (pss_one (ps_ret pe_int))), ?_⟩
  walk_at "z"
  refine z_if (fun hj => ?_) (fun _ => ?_)
  · walk_at "z"
    rw [List.length_map] at hj
    have hj' : j < ns.length := by omega
    refine z_ixL hS (v := .int ns[j]) (atI_nat (by rw [List.getElem?_map, List.getElem?_eq_getElem hj']; rfl)) (q _)
  · walk_at "z"
    exact q 0
theorem ok__law_stream {P : Program} {w : World} {K : PySem.W.Frag} {mg : Str → Option Value} {base : Heap} {A : Nat → Addr} {D : Nat → FuncData} (T : Txt K mg A D) : FnOk P w K mg base (L2.CX P w) 1 (A 40) (D 40) ["cell"] sp__law_stream := by
  refine T.F__law_stream.okX sc__law_stream (fun vs H Q E h => ?_) (fun cdv A' outer s H vs Q E hr h => ?_)
  · obtain ⟨c, rfl, _⟩ := h
    rfl
  obtain ⟨c, rfl, q⟩ := h
  refine ⟨_, (pss_cons (ps_if (pt_cmpR op_ge (pv 0) (Z.pe_powc (v := 1000000000000000000) ⟨by decide, by decide, by decide⟩ (by decide)) (nomark _))
  (pss_one (ps_ret (pe_lst (pa_cons (pv 0) (pa_cons pe_int (pa_cons (pe_op op_mod (pe_callTy Z.c_int (by rfl) T.z_int (by decide +kernel) (pa_cons (pv 0) pa_nil)) pe_int) pa_nil))))))
  pss_nil)
  (pss_one (ps_ret (pe_lst (pa_cons pe_int (pa_cons pe_int (pa_cons (pe_op op_mod (pe_callTy Z.c_int (by rfl) T.z_int (by decide +kernel) (pa_cons (pv 0) pa_nil)) pe_int) pa_nil))))))), ?_⟩
  walk_at "z"
  refine z_if (fun hj => ?_) (fun _ => ?_)
  · walk_at "z"
    exact fun p H' hp s h => q p H' _ _ _ hp s h
  · walk_at "z"
    exact fun p H' hp s h => q p H' _ _ _ hp s h
theorem ok__law_next {P : Program} {w : World} {K : PySem.W.Frag} {mg : Str → Option Value} {base : Heap} {A : Nat → Addr} {D : Nat → FuncData} (T : Txt K mg A D) : FnOk P w K mg base (L2.CX P w) 1 (A 41) (D 41) ["stream", "size"] sp__law_next := by
  refine T.F__law_next.okX sc__law_next (fun vs H Q E h => ?_) (fun cdv A' outer s H vs Q E hr h => ?_)
  · obtain ⟨p, z, rfl, _⟩ := h
    rfl
  obtain ⟨p, z, rfl, ⟨a, b, m, hp⟩, hz, hz2, q⟩ := h
  refine ⟨_, (pss_cons (ps_if (pt_cmpR op_gt (pe_ix ix_list (pv 0) pe_int (fun _ _ => rfl)) pe_int (nomark _))
  (pss_cons (ps_set (i := 2) sc__law_next.nd rfl (.inl rfl) (pe_op op_mod (pe_callTy Z.c_int (by rfl) T.z_int (by decide +kernel) (pa_cons (pe_ix ix_list (pv 0) pe_int (fun _ _ => rfl)) pa_nil)) (pv 1)))
  (pss_cons (ps_asg (pe_op op_fdivW (pe_ix ix_list (pv 0) pe_int (fun _ _ => rfl)) (pv 1)) (pg_sub (pv 0) pe_int set_list))
  (pss_one (ps_ret (pv 2)))))
  pss_nil)
  (pss_cons (ps_asg (pe_op op_add (pe_ix ix_list (pv 0) pe_int (fun _ _ => rfl)) pe_int) (pg_sub (pv 0) pe_int set_list))
  (pss_cons (ps_set (i := 3) sc__law_next.nd rfl (.inl rfl) (pe_op op_mod (pe_callTy Z.c_int (by rfl) T.z_int (by decide +kernel) (pa_cons (pe_op op_add (pe_op op_mul (pe_ix ix_list (pv 0) pe_int (fun _ _ => rfl)) pe_int) (pe_op op_mul (pe_ix ix_list (pv 0) pe_int (fun _ _ => rfl)) pe_int)) pa_nil)) pe_int))
  (pss_cons (ps_set (i := 3) sc__law_next.nd rfl (.inl rfl) (pe_op op_mod (pe_callTy Z.c_int (by rfl) T.z_int (by decide +kernel) (pa_cons (pe_op op_add (pe_op op_mulW (pv 3) (pv 3)) (pe_op op_mul (pe_ix ix_list (pv 0) pe_int (fun _ _ => rfl)) pe_int)) pa_nil)) pe_int))
  (pss_cons (ps_set (i := 3) sc__law_next.nd rfl (.inl rfl) (pe_op op_mod (pe_callTy Z.c_int (by rfl) T.z_int (by decide +kernel) (pa_cons (pe_op op_add (pe_op op_mul (pv 3) pe_int) (pe_ix ix_list (pv 0) pe_int (fun _ _ => rfl))) pa_nil)) pe_int))
  (pss_one (ps_ret (pe_op op_mod (pe_callTy Z.c_int (by rfl) T.z_int (by decide +kernel) (pa_cons (pv 3) pa_nil)) (pv 1))))))))), ?_⟩
  walk_at "z"
  refine z_if (fun hj => ?_) (fun _ => ?_)
  · walk_at "z"
    refine z_I (wide_div hz hz2 (by decide) (by decide)) ?_
    walk_at "z"
    refine z_setL hp rfl ?_
    walk_at "z"
    exact q _ _ _ _ (Int.emod_nonneg _ (by omega)) (Int.emod_lt_of_pos _ hz)
  · walk_at "z"
    refine z_setL hp rfl ?_
    have hp1 : (upd H p (HO.lst ([V.int a, V.int b, V.int m].set (Int.toNat 1) (V.int (b + 1))))) p = some (.lst [V.int a, V.int (b + 1), V.int m]) := upd_same
    walk_at "z"
    refine z_I ?_ ?_
    · exact wide_mul (a := 32) (b := 32) (by omega) (by omega) (by decide) (by decide) (by decide)
    walk_at "z"
    exact q _ _ _ _ (Int.emod_nonneg _ (by omega)) (Int.emod_lt_of_pos _ hz)
end
def sp__law_is_integer : Sp := fun vs H Q _ => ∃ i, vs = [.int i] ∧ Q (.bl true) H
section
theorem ok__law_is_integer {P : Program} {w : World} {K : PySem.W.Frag} {mg : Str → Option Value} {base : Heap} {A : Nat → Addr} {D : Nat → FuncData} (T : Txt K mg A D) : FnOk P w K mg base (L2.CX P w) 1 (A 42) (D 42) ["actual"] sp__law_is_integer := by
  refine T.F__law_is_integer.okX sc__law_is_integer (fun vs H Q E h => ?_) (fun cdv A' outer s H vs Q E hr h => ?_)
  · obtain ⟨i, rfl, _⟩ := h
    rfl
  obtain ⟨i, rfl, q⟩ := h
  refine ⟨_, (pss_one (ps_ret (pe_and (pe_callB call_isi (by rfl) T.z_isinstance (by decide +kernel) (pa_cons (pv 0) (pa_cons (pe_bltn (v := .ty "int") (by rfl) T.z_int (by decide +kernel) rfl) pa_nil))) (pe_one (pe_not (pe_callB call_isi (by rfl) T.z_isinstance (by decide +kernel) (pa_cons (pv 0) (pa_cons (pe_bltn (v := .ty "bool") (by rfl) T.z_bool (by decide +kernel) rfl) pa_nil)))))))), ?_⟩
  walk_at "z"
  exact q
end
theorem isI {i : Int} {H : Hp} {Q : VK} {E : XK} (q : Q (.bl true) H) : sp__law_is_integer [.int i] H Q E := ⟨i, rfl, q⟩
local macro_rules | `(tactic| walk_at "z1") => `(tactic| with_reducible refine isI ?_)

/-! ### numbers in lowest terms -/
theorem gd_pos {n d : Int} (h : d ≠ 0) : 0 < gd n d := by
  unfold gd
  have : 0 < Nat.gcd n.natAbs d.natAbs := Nat.gcd_pos_of_pos_right _ (by omega)
  omega
theorem gd_dvd_l (n d : Int) : gd n d ∣ n := by
  unfold gd
  exact Int.dvd_trans (Int.natCast_dvd_natCast.mpr (Nat.gcd_dvd_left _ _)) (Int.natAbs_dvd_self)
theorem gd_dvd_r (n d : Int) : gd n d ∣ d := by
  unfold gd
  exact Int.dvd_trans (Int.natCast_dvd_natCast.mpr (Nat.gcd_dvd_right _ _)) (Int.natAbs_dvd_self)
theorem rd_pos {n d : Int} (h : d ≠ 0) : 0 < rd n d := by
  have g := gd_pos (n := n) h
  obtain ⟨k, hk⟩ := gd_dvd_r n d
  unfold rd
  split
  · rename_i hd
    have e : -d = gd n d * (-k) := by rw [Int.mul_neg, ← hk]
    rw [e, Int.mul_ediv_cancel_left _ (by omega)]
    have : ¬ 0 ≤ k := fun z => by have := Int.mul_nonneg (Int.le_of_lt g) z; omega
    omega
  · rename_i hd
    have e : d / gd n d = k := Int.ediv_eq_of_eq_mul_right (by omega) hk
    rw [e]
    have : ¬ k ≤ 0 := fun z => by have := Int.mul_nonpos_of_nonneg_of_nonpos (Int.le_of_lt g) z; omega
    omega
/-- what the program divides: by the negative of the common divisor where d is negative -/
theorem fdiv_neg {n g : Int} (hg : 0 < g) (h : g ∣ n) : Int.fdiv n (-g) = -n / g := by
  obtain ⟨k, rfl⟩ := h
  rw [show g * k = (-g) * (-k) by rw [Int.neg_mul_neg], Int.mul_fdiv_cancel_left _ (by omega), Int.neg_mul_neg, show -(g * k) = g * (-k) by rw [Int.mul_neg], Int.mul_ediv_cancel_left _ (by omega)]
theorem fdiv_pos {n g : Int} (hg : 0 < g) : Int.fdiv n g = n / g := Int.fdiv_eq_ediv_of_nonneg _ (by omega)
theorem gd_log {n d : Int} {k : Nat} (h : d ≠ 0) (hd : d.natAbs < 2 ^ k) : (gd n d).natAbs < 2 ^ k := by
  have : Nat.gcd n.natAbs d.natAbs ≤ d.natAbs := Nat.gcd_le_right _ (by omega)
  unfold gd
  omega
theorem cfd {j : Int} (h : j ≠ 0) (hj : j.natAbs < 2 ^ 1000) : CFd 0 j := ⟨h, Nat.lt_of_lt_of_le (PySem.Flt.log2_lt_of (by decide) hj) (by decide)⟩
theorem lt4 {a : Nat} (h : a < 2 ^ 400) : a < 2 ^ 1000 := Nat.lt_of_lt_of_le h (Nat.pow_le_pow_right (by decide) (by decide))
theorem lt1000 {a : Nat} (h : a < 2 ^ 100) : a < 2 ^ 1000 := Nat.lt_of_lt_of_le h (Nat.pow_le_pow_right (by decide) (by decide))



/-! ### the draws of a law: the heap H0 stands, a stream stands at p -/
structure Sd (H0 H : Hp) (p : Addr) : Prop where
  same : Same H0 H
  fresh : H0 p = none
  stm : IsStm H p
theorem Sd.mk0 {H H' : Hp} {p : Addr} {a b m : Int} (h : H p = none) (s : Same H H') (e : H' p = some (.lst [.int a, .int b, .int m])) : Sd H H' p := ⟨s, h, a, b, m, e⟩
theorem Sd.mono {H0 H H' : Hp} {p : Addr} (S : Sd H0 H p) (s : Same H H') : Sd H0 H' p := by
  obtain ⟨a, b, m, e⟩ := S.stm
  exact ⟨S.same.trans s, S.fresh, a, b, m, s _ _ e⟩
theorem nx {H0 H : Hp} {p : Addr} {z : Int} {Q : VK} {E : XK} (S : Sd H0 H p) (hz : 0 < z) (hz2 : z.natAbs < 2 ^ 1000) (q : ∀ v H', 0 ≤ v → v < z → Sd H0 H' p → (∀ b, b ≠ p → H' b = H b) → Q (.int v) H') : sp__law_next [.ref p, .int z] H Q E := by
  refine ⟨p, z, rfl, S.stm, hz, hz2, fun v a b m h0 h1 => q v _ h0 h1 ⟨fun c o e => ?_, S.fresh, a, b, m, upd_same⟩ fun b hb => upd_ne hb⟩
  rw [upd_ne (ne_of_none e S.fresh)]
  exact S.same c o e
theorem Sd.ext {H0 H : Hp} {p q : Addr} {o : HO} (S : Sd H0 H p) (h : H q = none) : Sd H0 (upd H q o) p := by
  obtain ⟨a, b, m, hp⟩ := S.stm
  exact ⟨S.same.trans (same_upd h), S.fresh, a, b, m, by rw [upd_ne (ne_of_none hp h)]; exact hp⟩
theorem kp_refl {p : Addr} {H : Hp} : Kp p H H := fun _ _ _ e => e
theorem _root_.Z.Kp.trans' {p : Addr} {H H1 H2 : Hp} (a : Kp p H H1) (b : Kp p H1 H2) : Kp p H H2 := fun c o h e => b c o h (a c o h e)
theorem kp_eq {p : Addr} {H H' : Hp} (k : ∀ b, b ≠ p → H' b = H b) : Kp p H H' := fun b o h e => by
  rw [k b h]
  exact e
theorem kp_of {p : Addr} {H H' : Hp} (s : Same H H') : Kp p H H' := fun b x _ e => s b x e
theorem Sd.ne {H0 H : Hp} {p q : Addr} {xs : List V} (S : Sd H0 H p) (h : H q = some (.tup xs)) : q ≠ p := by
  obtain ⟨_, _, _, e⟩ := S.stm
  exact ne_of h e (by intro z; cases z)
theorem Sd.ne0 {H0 H : Hp} {p q : Addr} (S : Sd H0 H p) (h : H q = none) : q ≠ p := by
  obtain ⟨_, _, _, e⟩ := S.stm
  exact Ne.symm (ne_of_none e h)
theorem lt400 {a : Nat} (h : a < 2 ^ 100) : a < 2 ^ 400 := Nat.lt_of_lt_of_le h (Nat.pow_le_pow_right (by decide) (by decide))
theorem kp_sd {H0 H H' : Hp} {p : Addr} {K : PySem.W.Frag} {v : V} {d : PyData} (S : Sd H0 H p) (k : Kp p H H') (t : tupOnly d = true) (h : Dp K H v d) : Dp K H' v d := by
  obtain ⟨a, b, m, e⟩ := S.stm
  exact dp_kp k e t h
/-! ### the four operations, and comparing -/






/-! ### grid points -/
abbrev GP := Int × Int
def gD (z : GP) : PyData := .tuple [.int z.1, .int z.2]
/-- both parts within N -/
def Gb (N : Nat) (z : GP) : Prop := z.1.natAbs ≤ N ∧ z.2.natAbs ≤ N
theorem Gb.le {N M : Nat} {z : GP} (h : Gb N z) (l : N ≤ M) : Gb M z := ⟨Nat.le_trans h.1 l, Nat.le_trans h.2 l⟩
theorem dp_g {K : PySem.W.Frag} {H : Hp} {v : V} {z : GP} (h : Dp K H v (gD z)) : ∃ p, v = .ref p ∧ SqT K H p [.int z.1, .int z.2] := by
  obtain ⟨p, v1, v2, e, hS, h1, h2⟩ := dp_t2 h
  rw [dp_int h1, dp_int h2] at hS
  exact ⟨p, e, hS⟩
theorem dp_mkg {K : PySem.W.Frag} {H : Hp} {p : Addr} {x y : Int} (h : H p = some (.tup [.int x, .int y])) : Dp K H (.ref p) (gD (x, y)) := dp_mk h (.cons (.int _) (.cons (.int _) .nil))
theorem dp_seqg {K : PySem.W.Frag} {H : Hp} {p : Addr} {x y : Int} (h : SqT K H p [.int x, .int y]) : Dp K H (.ref p) (gD (x, y)) := .tup h (.cons (.int _) (.cons (.int _) .nil))
/-- values that stand for grid points -/
def Gs (K : PySem.W.Frag) (H : Hp) : List V → List GP → Prop
  | [], [] => True
  | v :: vs, z :: zs => Dp K H v (gD z) ∧ Gs K H vs zs
  | _, _ => False
section
variable {K : PySem.W.Frag} {H H' : Hp}
theorem Gs.len : ∀ {vs : List V} {zs : List GP}, Gs K H vs zs → vs.length = zs.length
  | [], [], _ => rfl
  | _ :: _, _ :: _, h => congrArg (· + 1) (Gs.len h.2)
theorem Gs.mono (s : Same H H') : ∀ {vs : List V} {zs : List GP}, Gs K H vs zs → Gs K H' vs zs
  | [], [], _ => trivial
  | _ :: _, _ :: _, h => ⟨dp_mono s h.1, Gs.mono s h.2⟩
theorem Gs.kp {p : Addr} {xs : List V} (k : Kp p H H') (hp : H p = some (.lst xs)) : ∀ {vs : List V} {zs : List GP}, Gs K H vs zs → Gs K H' vs zs
  | [], [], _ => trivial
  | _ :: _, _ :: _, h => ⟨dp_kp k hp rfl h.1, Gs.kp k hp h.2⟩
theorem Gs.app : ∀ {vs ws : List V} {zs us : List GP}, Gs K H vs zs → Gs K H ws us → Gs K H (vs ++ ws) (zs ++ us)
  | [], _, [], _, _, k => k
  | _ :: _, _, _ :: _, _, h, k => ⟨h.1, Gs.app h.2 k⟩
theorem Gs.get {vs : List V} {zs : List GP} {i : Nat} {z : GP} (h : Gs K H vs zs) (e : zs[i]? = some z) : ∃ v, vs[i]? = some v ∧ Dp K H v (gD z) := by
  induction vs generalizing zs i with
  | nil =>
    cases zs with
    | nil => simp at e
    | cons => exact h.elim
  | cons w ws ih =>
    cases zs with
    | nil => exact h.elim
    | cons u us =>
      cases i with
      | zero =>
        cases e
        exact ⟨w, rfl, h.1⟩
      | succ i => exact ih h.2 (by simpa using e)
theorem Gs.getv {vs : List V} {zs : List GP} {i : Nat} {v : V} (h : Gs K H vs zs) (e : vs[i]? = some v) : ∃ z, zs[i]? = some z ∧ Dp K H v (gD z) := by
  have hi : i < vs.length := (List.getElem?_eq_some_iff.mp e).1
  obtain ⟨w, hw, d⟩ := h.get (z := zs[i]'(by rw [← h.len]; exact hi)) (List.getElem?_eq_getElem _)
  rw [e] at hw
  cases hw
  exact ⟨_, List.getElem?_eq_getElem _, d⟩
theorem Gs.data : ∀ {vs : List V} {zs : List GP}, Gs K H vs zs → DpAll K H vs (zs.map gD)
  | [], [], _ => .nil
  | _ :: _, _ :: _, h => .cons h.1 (Gs.data h.2)
theorem gs_nil : Gs K H [] [] := trivial
theorem gs_one {v : V} {z : GP} (h : Dp K H v (gD z)) : Gs K H [v] [z] := ⟨h, trivial⟩
end
theorem nat_idx {xs : List V} {k : Nat} {v : V} (h : xs[k]? = some v) : atI xs (k : Int) = some v := atI_nat h
/-- a grid point near an outline -/
def sp__law_near (K : PySem.W.Frag) : Sp := fun vs H Q _ => ∃ (p o : Addr) (H0 : Hp) (ws : List V) (zs : List GP) (N : Nat), vs = [.ref p, .ref o] ∧ Sd H0 H p ∧ H0 o = some (.lst ws) ∧ Gs K H ws zs ∧ (∀ z ∈ zs, Gb N z) ∧ N ≤ 1000000000000 ∧ 1 ≤ ws.length ∧ ws.length ≤ 200 ∧
  ∀ (v : V) (z : GP) (H' : Hp), Dp K H' v (gD z) → Gb (N + 5000) z → Sd H0 H' p → Kp p H H' → Q v H'
theorem idx_nat {xs : List V} {j : Int} (h0 : 0 ≤ j) (h1 : j < (xs.length : Int)) : ∃ v, xs[j.toNat]? = some v ∧ atI xs j = some v := by
  have hl : j.toNat < xs.length := by omega
  obtain ⟨v, hv⟩ : ∃ v, xs[j.toNat]? = some v := ⟨_, List.getElem?_eq_getElem hl⟩
  refine ⟨v, hv, ?_⟩
  have := nat_idx hv
  rwa [Int.toNat_of_nonneg h0] at this
section
end
/-- all but p -/
def hide (p : Addr) (H : Hp) : Hp := fun b => if b = p then none else H b
theorem same_hide {p : Addr} {H : Hp} : Same (hide p H) H := fun b o e => by
  unfold hide at e
  split at e
  · cases e
  · exact e
theorem hide_at {p b : Addr} {H : Hp} (h : b ≠ p) : hide p H b = H b := if_neg h
theorem Sd.hid {H0 H : Hp} {p : Addr} (S : Sd H0 H p) : Sd (hide p H) H p := ⟨same_hide, if_pos rfl, S.stm⟩
/-! ### crossings -/
def left (a b : GP) (x y : Int) : Prop := (b.1 - a.1) * (y - a.2) ≤ (x - a.1) * (b.2 - a.2)
instance {a b : GP} {x y : Int} : Decidable (left a b x y) := by unfold left; infer_instance
def crs (a b : GP) (x y : Int) : Int := if a.2 ≤ y ∧ y < b.2 ∧ left a b x y then -1 else if b.2 ≤ y ∧ y < a.2 ∧ left b a x y then 1 else 0
/-- a grid point within 10 ^ 13 -/
abbrev Gm (z : GP) : Prop := Gb 10000000000000 z
theorem gm_sub {a b : Int} (h : a.natAbs ≤ 10000000000000) (k : b.natAbs ≤ 10000000000000) : (a - b).natAbs < 2 ^ 60 := Nat.lt_of_le_of_lt (show (a - b).natAbs ≤ 20000000000000 by omega) (by decide)
theorem gm_mul {a b : Int} (h : a.natAbs < 2 ^ 60) (k : b.natAbs < 2 ^ 60) : CMulW a b := wide_mul h k (by decide) (by decide) (by decide)

theorem nep' {Ha Hb : Hp} {p q : Addr} (h : Hb q = none) (S : Sd Ha Hb p) : q ≠ p := fun z => by
  obtain ⟨_, _, _, e⟩ := S.stm
  rw [← z, h] at e
  cases e
theorem shaped_g (z : GP) : SeqAt.shaped (gD z) = true := rfl
theorem dp_gs {K : PySem.W.Frag} {H : Hp} {p : Addr} {ws : List V} {zs : List GP} (h : H p = some (.lst ws)) (g : Gs K H ws zs) : Dp K H (.ref p) (.list (zs.map gD)) := .lst (.inl (.inl h)) g.data
theorem shaped_gs (zs : List GP) : SeqAt.shaped (.list (zs.map gD)) = true := by
  have h1 : PyData.canLayAll0 (zs.map gD) = true := by
    induction zs with
    | nil => rfl
    | cons z zs ih =>
      show (PyData.canLay0 (gD z) && PyData.canLayAll0 (zs.map gD)) = true
      rw [ih]
      rfl
  have h2 : PyData.depthAll (zs.map gD) ≤ 1 := by
    induction zs with
    | nil => exact Nat.zero_le 1
    | cons z zs ih =>
      have h1' : PyData.canLayAll0 (zs.map gD) = true := by
        have h1 : (PyData.canLay0 (gD z) && PyData.canLayAll0 (zs.map gD)) = true := h1
        exact ((Bool.and_eq_true _ _).mp h1).2
      have := ih h1'
      show max (PyData.depth (gD z)) (PyData.depthAll (zs.map gD)) ≤ 1
      have e : PyData.depth (gD z) = 1 := rfl
      omega
  unfold SeqAt.shaped
  rw [Bool.and_eq_true]
  refine ⟨h1, decide_eq_true ?_⟩
  show PyData.depthAll (zs.map gD) + 1 ≤ 64
  omega
/-! ### [draw(stream, z) for k in range(m)] -/
theorem z_draws {H0 H : Hp} {p : Addr} {z : Int} {m k : Nat} {vs : List Nat} {te : TE} {σ : L2.St} {Q : VK} {v : Int} (S : Sd H0 H p) (hv : v = (m : Int)) (hm : m ≤ 500) (hz : 0 < z) (hz2 : z.natAbs < 2 ^ 1000) (hw : ∀ x, wipe ((wipe σ vs).set k (some x)) vs = wipe σ vs)
    (hte : ∀ (i : Nat) (H' : Hp) (R : VK), (∀ E, sp__law_next [.ref p, .int z] H' R E) → te ((wipe σ vs).set k (some (.int (i : Int)))) H' R)
    (q : ∀ (D : Addr) (H' : Hp) (ns : List Int), H D = none → D ≠ p → Sd H0 H' p → Kp p H H' → H' D = some (.lst (ns.map V.int)) → ns.length = m → (∀ x ∈ ns, 0 ≤ x ∧ x < z) → Q (.ref D) H') : LcRE (gName k) tYes te vs σ Q [.int v] H := by
  subst hv
  refine z_lcRr m (by omega) hw (fun i D acc H' => Sd H0 H' p ∧ Kp p H H' ∧ D ≠ p ∧ H D = none ∧ ∃ ns : List Int, acc = ns.map V.int ∧ ∀ x ∈ ns, 0 ≤ x ∧ x < z)
    (fun D H' f s e => ⟨S.mono s, kp_of s, S.ne0 f, f, [], rfl, fun x hx => nomatch hx⟩) (fun i D acc H' hi hl hD ⟨S', k', ne, f, ns, ea, hb⟩ => ?_)
    (fun D acc H' f hl hD ⟨S', k', ne, _, ns, ea, hb⟩ => q D H' ns f ne S' k' (by rw [hD, ea]) (by rw [← hl, ea, List.length_map]) hb)
  refine hte i H' _ fun E => nx S' hz hz2 fun x H2 x0 x1 S2 e2 => ?_
  have hD2 : H2 D = some (.lst acc) := (e2 D ne).trans hD
  refine z_lcB hD2 hl (by omega) fun H3 hD3 k3 e3 => ⟨?_, ?_, ne, f, ns ++ [x], by rw [ea, List.map_append]; rfl, fun y hy => ?_⟩
  · obtain ⟨a, b, c, st⟩ := S2.stm
    refine ⟨fun b o h => ?_, S2.fresh, a, b, c, by rw [e3 p ne.symm]; exact st⟩
    have hne : b ≠ D := fun z => by
      have h1 := S.same _ _ h
      rw [z, f] at h1
      cases h1
    rw [e3 b hne]
    exact S2.same _ _ h
  · intro b o hb h
    have hne : b ≠ D := fun z => by
      rw [z, f] at h
      cases h
    rw [e3 b hne, e2 b hb]
    exact k' b o hb h
  · rcases List.mem_append.mp hy with h | h
    · exact hb y h
    · rw [List.mem_singleton.mp h]
      exact ⟨x0, x1⟩
theorem Sd.put {H0 H : Hp} {p l : Addr} {o : HO} (S : Sd H0 H p) (h : H0 l = none) (ne : l ≠ p) : Sd H0 (upd H l o) p := by
  obtain ⟨a, b, c, e⟩ := S.stm
  exact ⟨fun x y h' => by rw [upd_ne (ne_of_none h' h)]; exact S.same _ _ h', S.fresh, a, b, c, by rw [upd_ne ne.symm]; exact e⟩
theorem kp_put {p l : Addr} {H H' : Hp} {o : HO} (k : Kp p H H') (h : H l = none) : Kp p H (upd H' l o) := fun b x hb e => by
  rw [upd_ne (ne_of_none e h)]
  exact k b x hb e
theorem kp_none {p a : Addr} {H H' : Hp} (k : Kp p H H') (h : H' a = none) (ne : a ≠ p) : H a = none := by
  cases z : H a with
  | none => rfl
  | some o =>
    have := k _ _ ne z
    rw [h] at this
    cases this
theorem Sd.none0 {H0 H : Hp} {p l : Addr} (S : Sd H0 H p) (h : H l = none) : H0 l = none := by
  cases z : H0 l with
  | none => rfl
  | some o =>
    have := S.same _ _ z
    rw [h] at this
    cases this
/-! ### groups of ascending values -/
/-- the groups from the current one on -/
def gs1 (e : Int) : GP → List Int → List GP
  | c, [] => [c]
  | c, v :: r => if v ≤ c.1 + e then gs1 e (c.1, v) r else c :: gs1 e (v, v) r
def grp (e : Int) : List Int → List GP
  | [] => []
  | v :: r => gs1 e (v, v) r
def Asc (r : List Int) : Prop := r.Pairwise (· < ·)
theorem gs1_yes {e v : Int} {c : GP} {r : List Int} (h : v ≤ c.1 + e) : gs1 e c (v :: r) = gs1 e (c.1, v) r := if_pos h
theorem gs1_no {e v : Int} {c : GP} {r : List Int} (h : ¬ v ≤ c.1 + e) : gs1 e c (v :: r) = c :: gs1 e (v, v) r := if_neg h
theorem asc_h {v : Int} {r : List Int} (h : Asc (v :: r)) : ∀ x ∈ r, v ≤ x := fun x hx => Int.le_of_lt ((List.pairwise_cons.mp h).1 x hx)
theorem asc_t {v : Int} {r : List Int} (h : Asc (v :: r)) : Asc r := (List.pairwise_cons.mp h).2
theorem gs_near (e : Int) : ∀ (r : List Int) (c c' : GP), c.1 ≤ c'.1 → (∀ x ∈ r, c'.1 ≤ x) → Asc r → (gs1 e c' r).length ≤ (gs1 e c r).length ∧ (gs1 e c r).length ≤ 1 + (gs1 e c' r).length
  | [], c, c', _, _, _ => ⟨Nat.le_refl 1, Nat.le_succ 1⟩
  | v :: r, c, c', h, hx, ha => by
    have hv : c'.1 ≤ v := hx v (.head _)
    have hr := asc_h ha
    have ht := asc_t ha
    by_cases h1 : v ≤ c.1 + e
    · rw [gs1_yes h1, gs1_yes (by omega)]
      exact gs_near e r _ _ h (fun x m => hx x (.tail _ m)) ht
    · rw [gs1_no h1]
      by_cases h2 : v ≤ c'.1 + e
      · rw [gs1_yes h2]
        have i1 := gs_near e r (c'.1, v) (v, v) hv (fun x m => hr x m) ht
        rw [List.length_cons]
        omega
      · rw [gs1_no h2, List.length_cons, List.length_cons]
        omega
theorem gs_mono {e e' : Int} (he : e ≤ e') : ∀ (r : List Int) (c c' : GP), c.1 ≤ c'.1 → (∀ x ∈ r, c'.1 ≤ x) → Asc r → (gs1 e' c' r).length ≤ (gs1 e c r).length
  | [], c, c', _, _, _ => Nat.le_refl 1
  | v :: r, c, c', h, hx, ha => by
    have hv : c'.1 ≤ v := hx v (.head _)
    have hr := asc_h ha
    have ht := asc_t ha
    by_cases h1 : v ≤ c.1 + e
    · rw [gs1_yes h1, gs1_yes (by omega)]
      exact gs_mono he r _ _ h (fun x m => hx x (.tail _ m)) ht
    · rw [gs1_no h1, List.length_cons]
      have ih := gs_mono he r (v, v) (v, v) (Int.le_refl _) hr ht
      by_cases h2 : v ≤ c'.1 + e'
      · rw [gs1_yes h2]
        have i1 := gs_near e' r (c'.1, v) (v, v) hv hr ht
        omega
      · rw [gs1_no h2, List.length_cons]
        omega
def cntG (e : Int) (r : List Int) : Nat := (grp e r).length
theorem cnt_mono {e e' : Int} (he : e ≤ e') : ∀ {r : List Int}, Asc r → cntG e' r ≤ cntG e r
  | [], _ => Nat.le_refl _
  | v :: r, h => gs_mono he r (v, v) (v, v) (Int.le_refl _) (asc_h h) (asc_t h)
/-- one more piece in front -/
theorem gs_rest {e : Int} (c : GP) : ∀ (r : List Int), (∀ x ∈ r, c.1 ≤ x) → Asc r → (gs1 e c r).length ≤ 1 + cntG e r
  | [], _, _ => Nat.le_refl 1
  | v :: r, h, ha => by
    show (gs1 e c (v :: r)).length ≤ 1 + (gs1 e (v, v) r).length
    have hv : c.1 ≤ v := h v (.head _)
    by_cases h1 : v ≤ c.1 + e
    · rw [gs1_yes h1]
      exact (gs_near e r (c.1, v) (v, v) hv (asc_h ha) (asc_t ha)).2
    · rw [gs1_no h1, List.length_cons]
      omega
theorem gs_skip {e : Int} : ∀ (p : List Int) (c : GP) (r : List Int), (∀ x ∈ p, x ≤ c.1 + e) → ∃ m, gs1 e c (p ++ r) = gs1 e (c.1, m) r
  | [], c, r, _ => ⟨c.2, rfl⟩
  | v :: p, c, r, h => by
    rw [List.cons_append, gs1_yes (h v (.head _))]
    exact gs_skip p (c.1, v) r fun x hx => h x (.tail _ hx)
theorem cnt_app {e : Int} (p r : List Int) (ha : Asc (p ++ r)) (h : ∀ v ∈ p.head?, ∀ x ∈ p, x ≤ v + e) : cntG e (p ++ r) ≤ 1 + cntG e r := by
  cases p with
  | nil => exact Nat.le_add_left _ _
  | cons v p =>
    show (gs1 e (v, v) (p ++ r)).length ≤ _
    obtain ⟨m, hm⟩ := gs_skip (e := e) p (v, v) r fun x hx => h v rfl x (.tail _ hx)
    rw [hm]
    have hp := List.pairwise_append.mp ha
    exact gs_rest (v, m) r (fun x hx => Int.le_of_lt (hp.2.2 v (.head _) x hx)) hp.2.1
/-- pieces that differ by at most e -/
def Near (e : Int) (p : List Int) : Prop := ∀ v ∈ p.head?, ∀ x ∈ p, x ≤ v + e
theorem cnt_pieces {e : Int} : ∀ (ps : List (List Int)), Asc ps.flatten → (∀ p ∈ ps, Near e p) → cntG e ps.flatten ≤ ps.length
  | [], _, _ => Nat.le_refl _
  | p :: ps, ha, h => by
    have hp := List.pairwise_append.mp (show Asc (p ++ ps.flatten) from ha)
    have ih := cnt_pieces ps hp.2.1 fun q hq => h q (.tail _ hq)
    have := cnt_app p ps.flatten ha (h p (.head _))
    show cntG e (p ++ ps.flatten) ≤ ps.length + 1
    omega
/-- what holds of a group -/
theorem gs_ok {e : Int} (he : 0 ≤ e) {vs : List Int} : ∀ (r : List Int) (c : GP), Asc r → (∀ x ∈ r, c.2 < x) → (∀ x ∈ r, x ∈ vs) → c.1 ∈ vs → c.2 ∈ vs → c.1 ≤ c.2 → c.2 - c.1 ≤ e →
    ∀ g ∈ gs1 e c r, g.1 ∈ vs ∧ g.2 ∈ vs ∧ g.1 ≤ g.2 ∧ g.2 - g.1 ≤ e
  | [], c, _, _, _, h1, h2, h3, h4, g, hg => by
    rw [List.mem_singleton.mp hg]
    exact ⟨h1, h2, h3, h4⟩
  | v :: r, c, ha, hc, hv, h1, h2, h3, h4, g, hg => by
    have hlt := hc v (.head _)
    have hh := fun x m => (List.pairwise_cons.mp ha).1 x m
    by_cases k : v ≤ c.1 + e
    · rw [gs1_yes k] at hg
      exact gs_ok he r (c.1, v) (asc_t ha) hh (fun x m => hv x (.tail _ m)) h1 (hv v (.head _)) (show c.1 ≤ v by omega) (show v - c.1 ≤ e by omega) g hg
    · rw [gs1_no k] at hg
      rcases List.mem_cons.mp hg with rfl | hg
      · exact ⟨h1, h2, h3, h4⟩
      · exact gs_ok he r (v, v) (asc_t ha) hh (fun x m => hv x (.tail _ m)) (hv v (.head _)) (hv v (.head _)) (Int.le_refl _) (show v - v ≤ e by omega) g hg
/-- each group begins beyond the one before -/
theorem gs_gap {e : Int} : ∀ (r : List Int) (c : GP) (i : Nat) (a b : GP), (gs1 e c r)[i]? = some a → (gs1 e c r)[i + 1]? = some b → e < b.1 - a.1
  | [], c, i, a, b, _, h => by simp [gs1] at h
  | v :: r, c, i, a, b, h1, h2 => by
    by_cases k : v ≤ c.1 + e
    · rw [gs1_yes k] at h1 h2
      exact gs_gap r _ i a b h1 h2
    · rw [gs1_no k] at h1 h2
      cases i with
      | zero =>
        cases h1
        have : ∀ (r : List Int) (c : GP) (b : GP), (gs1 e c r)[0]? = some b → b.1 = c.1 := by
          intro r
          induction r with
          | nil => intro c b h; cases h; rfl
          | cons w r ih =>
            intro c b h
            by_cases k2 : w ≤ c.1 + e
            · rw [gs1_yes k2] at h
              exact ih (c.1, w) b h
            · rw [gs1_no k2] at h
              cases h
              rfl
        have e1 := this r (v, v) b (by simpa using h2)
        rw [e1]
        show e < v - c.1
        omega
      | succ i => exact gs_gap r _ i a b (by simpa using h1) (by simpa using h2)
/-- every value is in a group -/
theorem gs_cov {e : Int} : ∀ (r : List Int) (c : GP), Asc r → (∀ x ∈ r, c.2 < x) → c.1 ≤ c.2 → ∀ x, x ∈ r ∨ (c.1 ≤ x ∧ x ≤ c.2) → ∃ g ∈ gs1 e c r, g.1 ≤ x ∧ x ≤ g.2
  | [], c, _, _, _, x, h => by
    rcases h with h | h
    · cases h
    · exact ⟨c, .head _, h⟩
  | v :: r, c, ha, hc, hcc, x, h => by
    have hlt := hc v (.head _)
    have hh := fun x m => (List.pairwise_cons.mp ha).1 x m
    by_cases k : v ≤ c.1 + e
    · rw [gs1_yes k]
      refine gs_cov r (c.1, v) (asc_t ha) hh (show c.1 ≤ v by omega) x ?_
      rcases h with h | h
      · rcases List.mem_cons.mp h with rfl | h
        · exact .inr ⟨by show c.1 ≤ x; omega, Int.le_refl _⟩
        · exact .inl h
      · exact .inr ⟨h.1, by show x ≤ v; omega⟩
    · rw [gs1_no k]
      rcases h with h | h
      · obtain ⟨g, hg, h1⟩ := gs_cov r (v, v) (asc_t ha) hh (Int.le_refl _) x (by
          rcases List.mem_cons.mp h with rfl | h
          · exact .inr ⟨Int.le_refl _, Int.le_refl _⟩
          · exact .inl h)
        exact ⟨g, .tail _ hg, h1⟩
      · exact ⟨c, .head _, h⟩
theorem grp_ok {e : Int} (he : 0 ≤ e) {vs : List Int} (ha : Asc vs) : ∀ g ∈ grp e vs, g.1 ∈ vs ∧ g.2 ∈ vs ∧ g.1 ≤ g.2 ∧ g.2 - g.1 ≤ e := by
  cases vs with
  | nil => intro g hg; cases hg
  | cons v r => exact gs_ok he r (v, v) (asc_t ha) (fun x m => (List.pairwise_cons.mp ha).1 x m) (fun x m => .tail _ m) (.head _) (.head _) (Int.le_refl _) (show v - v ≤ e by omega)
theorem grp_gap {e : Int} {vs : List Int} {i : Nat} {a b : GP} (h1 : (grp e vs)[i]? = some a) (h2 : (grp e vs)[i + 1]? = some b) : e < b.1 - a.1 := by
  cases vs with
  | nil => cases h1
  | cons v r => exact gs_gap r (v, v) i a b h1 h2
theorem grp_cov {e : Int} {vs : List Int} (ha : Asc vs) : ∀ x ∈ vs, ∃ g ∈ grp e vs, g.1 ≤ x ∧ x ≤ g.2 := by
  cases vs with
  | nil => intro x hx; cases hx
  | cons v r =>
    intro x hx
    refine gs_cov r (v, v) (asc_t ha) (fun x m => (List.pairwise_cons.mp ha).1 x m) (Int.le_refl _) x ?_
    rcases List.mem_cons.mp hx with rfl | h
    · exact .inr ⟨Int.le_refl _, Int.le_refl _⟩
    · exact .inl h
theorem gs1_len {e : Int} : ∀ (r : List Int) (c : GP), (gs1 e c r).length ≤ r.length + 1
  | [], c => Nat.le_refl 1
  | v :: r, c => by
    by_cases k : v ≤ c.1 + e
    · rw [gs1_yes k]
      exact Nat.le_succ_of_le (gs1_len r _)
    · rw [gs1_no k]
      exact Nat.succ_le_succ (gs1_len r _)
theorem cnt_len {e : Int} (vs : List Int) : cntG e vs ≤ vs.length := by
  cases vs with
  | nil => exact Nat.le_refl _
  | cons v r => exact gs1_len r _
theorem asc_ext : ∀ {as bs : List Int}, Asc as → Asc bs → (∀ k, k ∈ as ↔ k ∈ bs) → as = bs
  | [], [], _, _, _ => rfl
  | [], b :: bs, _, _, h => by
    have := (h b).mpr (.head _)
    cases this
  | a :: as, [], _, _, h => by
    have := (h a).mp (.head _)
    cases this
  | a :: as, b :: bs, ha, hb, h => by
    have ha' := List.pairwise_cons.mp ha
    have hb' := List.pairwise_cons.mp hb
    have e : a = b := by
      rcases List.mem_cons.mp ((h a).mp (.head _)) with e | m
      · exact e
      · rcases List.mem_cons.mp ((h b).mpr (.head _)) with e | m2
        · exact e.symm
        · have h1 := hb'.1 a m
          have h2 := ha'.1 b m2
          omega
    subst e
    refine congrArg (a :: ·) (asc_ext ha'.2 hb'.2 fun k => ⟨fun m => ?_, fun m => ?_⟩)
    · rcases List.mem_cons.mp ((h k).mp (.tail _ m)) with e | m'
      · have := ha'.1 k m
        omega
      · exact m'
    · rcases List.mem_cons.mp ((h k).mpr (.tail _ m)) with e | m'
      · have := hb'.1 k m
        omega
      · exact m'
/-- the least tolerance -/
def Tol (r : List Int) (n : Nat) (e : Int) : Prop := 0 ≤ e ∧ cntG e r ≤ n ∧ ∀ e', 0 ≤ e' → cntG e' r ≤ n → e ≤ e'
theorem asc_le {r : List Int} {b : Int} (ha : Asc r) (hl : r[r.length - 1]? = some b) : ∀ x ∈ r, x ≤ b := by
  intro x hx
  obtain ⟨j, hj⟩ := List.mem_iff_getElem?.mp hx
  obtain ⟨jj, e1⟩ := List.getElem?_eq_some_iff.mp hj
  obtain ⟨ii, e2⟩ := List.getElem?_eq_some_iff.mp hl
  rcases Nat.lt_or_ge j (r.length - 1) with h | h
  · have := (List.pairwise_iff_getElem.mp ha) j (r.length - 1) jj ii h
    omega
  · have : j = r.length - 1 := by omega
    subst this
    omega
theorem cnt_all {r : List Int} {a b : Int} (ha : Asc r) (h0 : r[0]? = some a) (hl : r[r.length - 1]? = some b) : cntG (b - a) r ≤ 1 := by
  have hle := asc_le ha hl
  have := cnt_pieces (e := b - a) [r] (by simpa using ha) (fun p hp => by
    rw [List.mem_singleton.mp hp]
    intro v hv x hx
    have : v = a := by
      cases r with
      | nil => cases hv
      | cons y r =>
        cases hv
        cases h0
        rfl
    have := hle x hx
    omega)
  simpa using this
theorem Tol.one {r : List Int} {n : Nat} {e e' : Int} (h : Tol r n e) (h' : Tol r n e') : e = e' := by
  have h1 := h.2.2 e' h'.1 h'.2.1
  have h2 := h'.2.2 e h.1 h.2.1
  omega
theorem gs_first {e : Int} : ∀ (r : List Int) (c : GP), Asc r → (∀ x ∈ r, c.2 < x) → ∃ m t, gs1 e c r = (c.1, m) :: t ∧ c.2 ≤ m
  | [], c, _, _ => ⟨c.2, [], rfl, Int.le_refl _⟩
  | v :: r, c, ha, hc => by
    have hlt := hc v (.head _)
    by_cases k : v ≤ c.1 + e
    · rw [gs1_yes k]
      obtain ⟨m, t, h1, h2⟩ := gs_first r (c.1, v) (asc_t ha) (fun x m => (List.pairwise_cons.mp ha).1 x m)
      exact ⟨m, t, h1, by have h2 : v ≤ m := h2; omega⟩
    · rw [gs1_no k]
      exact ⟨c.2, _, rfl, Int.le_refl _⟩
theorem gs_same {e d : Int} (hd : d ≤ e) : ∀ (r : List Int) (c : GP), Asc r → (∀ x ∈ r, c.2 < x) → (∀ g ∈ gs1 e c r, g.2 - g.1 ≤ d) → gs1 d c r = gs1 e c r
  | [], c, _, _, _ => rfl
  | v :: r, c, ha, hc, h => by
    have hh := fun x m => (List.pairwise_cons.mp ha).1 x m
    by_cases k : v ≤ c.1 + e
    · rw [gs1_yes k] at h ⊢
      obtain ⟨m, t, h1, h2⟩ := gs_first (e := e) r (c.1, v) (asc_t ha) hh
      have h3 := h (c.1, m) (by rw [h1]; exact .head _)
      have h3 : m - c.1 ≤ d := h3
      have h2 : v ≤ m := h2
      rw [gs1_yes (show v ≤ c.1 + d by omega)]
      exact gs_same hd r _ (asc_t ha) hh h
    · rw [gs1_no k] at h ⊢
      rw [gs1_no (by omega), gs_same hd r (v, v) (asc_t ha) hh fun g hg => h g (.tail _ hg)]
theorem grp_same {e d : Int} (hd : d ≤ e) {r : List Int} (ha : Asc r) (h : ∀ g ∈ grp e r, g.2 - g.1 ≤ d) : grp d r = grp e r := by
  cases r with
  | nil => rfl
  | cons v r => exact gs_same hd r (v, v) (asc_t ha) (fun x m => (List.pairwise_cons.mp ha).1 x m) h
theorem span_max : ∀ (zs : List GP), (∀ g ∈ zs, 0 ≤ g.2 - g.1) → ∃ d : Int, 0 ≤ d ∧ (d = 0 ∨ ∃ g ∈ zs, d = g.2 - g.1) ∧ ∀ g ∈ zs, g.2 - g.1 ≤ d
  | [], _ => ⟨0, Int.le_refl 0, .inl rfl, fun g h => by cases h⟩
  | z :: zs, h => by
    obtain ⟨d, d0, hd, hm⟩ := span_max zs fun g hg => h g (.tail _ hg)
    have hz := h z (.head _)
    by_cases c : z.2 - z.1 ≤ d
    · refine ⟨d, d0, ?_, fun g hg => ?_⟩
      · rcases hd with e | ⟨g, hg, e⟩
        · exact .inl e
        · exact .inr ⟨g, .tail _ hg, e⟩
      · rcases List.mem_cons.mp hg with rfl | hg
        · exact c
        · exact hm g hg
    · refine ⟨z.2 - z.1, hz, .inr ⟨z, .head _, rfl⟩, fun g hg => ?_⟩
      rcases List.mem_cons.mp hg with rfl | hg
      · exact Int.le_refl _
      · have := hm g hg
        omega
/-- a tolerance that is enough is not less than a difference that is enough -/
theorem tol_diff {r : List Int} (ha : Asc r) {n : Nat} {e : Int} (he : 0 ≤ e) (h : cntG e r ≤ n) : ∃ d, d ≤ e ∧ cntG d r ≤ n ∧ (d = 0 ∨ ∃ x ∈ r, ∃ y ∈ r, y ≤ x ∧ d = x - y) := by
  have ok := grp_ok he ha
  obtain ⟨d, d0, hd, hm⟩ := span_max (grp e r) fun g hg => by have := ok g hg; omega
  have hde : d ≤ e := by
    rcases hd with rfl | ⟨g, hg, rfl⟩
    · exact he
    · exact (ok g hg).2.2.2
  refine ⟨d, hde, ?_, ?_⟩
  · unfold cntG at *
    rw [grp_same hde ha hm]
    exact h
  · rcases hd with e | ⟨g, hg, e⟩
    · exact .inl e
    · have := ok g hg
      exact .inr ⟨g.2, this.2.1, g.1, this.1, this.2.2.1, e⟩
theorem gs_ge {e : Int} : ∀ (r : List Int) (c : GP), Asc r → (∀ x ∈ r, c.1 ≤ x) → ∀ g ∈ gs1 e c r, c.1 ≤ g.1
  | [], c, _, _, g, hg => by
    rw [List.mem_singleton.mp hg]
    exact Int.le_refl _
  | v :: r, c, ha, hc, g, hg => by
    have hv := hc v (.head _)
    by_cases k : v ≤ c.1 + e
    · rw [gs1_yes k] at hg
      exact gs_ge r (c.1, v) (asc_t ha) (fun x m => hc x (.tail _ m)) g hg
    · rw [gs1_no k] at hg
      rcases List.mem_cons.mp hg with rfl | hg
      · exact Int.le_refl _
      · have := gs_ge r (v, v) (asc_t ha) (asc_h ha) g hg
        have : v ≤ g.1 := this
        omega
/-- the groups stand apart -/
theorem gs_sep {e : Int} : ∀ (r : List Int) (c : GP), Asc r → (∀ x ∈ r, c.2 < x) → (gs1 e c r).Pairwise fun a b => a.2 < b.1
  | [], c, _, _ => List.pairwise_singleton _ _
  | v :: r, c, ha, hc => by
    have hlt := hc v (.head _)
    have hh := fun x m => (List.pairwise_cons.mp ha).1 x m
    by_cases k : v ≤ c.1 + e
    · rw [gs1_yes k]
      exact gs_sep r (c.1, v) (asc_t ha) hh
    · rw [gs1_no k]
      refine List.pairwise_cons.mpr ⟨fun g hg => ?_, gs_sep r (v, v) (asc_t ha) hh⟩
      have := gs_ge r (v, v) (asc_t ha) (asc_h ha) g hg
      have : v ≤ g.1 := this
      omega
theorem grp_one {e x : Int} (he : 0 ≤ e) {r : List Int} (ha : Asc r) {a b : GP} (h1 : a ∈ grp e r) (h2 : b ∈ grp e r) (x1 : a.1 ≤ x ∧ x ≤ a.2) (x2 : b.1 ≤ x ∧ x ≤ b.2) : a = b := by
  have sep : (grp e r).Pairwise fun a b => a.2 < b.1 := by
    cases r with
    | nil => exact .nil
    | cons v r => exact gs_sep r (v, v) (asc_t ha) (fun x m => (List.pairwise_cons.mp ha).1 x m)
  obtain ⟨i, hi⟩ := List.mem_iff_getElem?.mp h1
  obtain ⟨j, hj⟩ := List.mem_iff_getElem?.mp h2
  obtain ⟨ii, e1⟩ := List.getElem?_eq_some_iff.mp hi
  obtain ⟨jj, e2⟩ := List.getElem?_eq_some_iff.mp hj
  have pw := List.pairwise_iff_getElem.mp sep
  rcases Nat.lt_trichotomy i j with h | h | h
  · have := pw i j ii jj h
    rw [e1, e2] at this
    omega
  · subst h
    rw [← e1, ← e2]
  · have := pw j i jj ii h
    rw [e1, e2] at this
    omega
section
variable {K : PySem.W.Frag} {H : Hp}
theorem Gs.unapp : ∀ {ws : List V} {zs : List GP} {c : GP}, Gs K H ws (zs ++ [c]) → ∃ wd w, ws = wd ++ [w] ∧ Gs K H wd zs ∧ Dp K H w (gD c)
  | [], [], _, h => h.elim
  | [], _ :: _, _, h => h.elim
  | [w], [], c, h => ⟨[], w, rfl, trivial, h.1⟩
  | w :: w2 :: ws, [], c, h => h.2.elim
  | w :: ws, z :: zs, c, h => by
    obtain ⟨wd, w2, e, h1, h2⟩ := Gs.unapp h.2
    exact ⟨w :: wd, w2, by rw [e]; rfl, ⟨h.1, h1⟩, h2⟩
end
theorem set_lastM {α : Type} (wd : List α) (w x : α) : (wd ++ [w]).set wd.length x = wd ++ [x] := by
  rw [List.set_append_right _ _ (Nat.le_refl _), Nat.sub_self]
  rfl
theorem at_last (wd : List V) (w : V) : atI (wd ++ [w]) (-1) = some w := atI_last wd w
theorem ixN_lastM (wd : List V) (w : V) : ixN (wd ++ [w]).length (-1) = some wd.length := by
  rw [List.length_append, List.length_singleton]
  unfold ixN
  simp
  omega
local macro_rules | `(tactic| walk_at "z1") => `(tactic| first
  | with_reducible refine z_max2 ?_
  | with_reducible refine z_min2 ?_
  | with_reducible refine z_tru ?_)
def sp_values_in_order : Sp := fun vs H Q _ => ∃ (p : Addr) (ns : List Int), vs = [.ref p] ∧ H p = some (.lst (ns.map V.int)) ∧ ns.length ≤ 60 ∧
  ∀ a H' ms, H a = none → Same H H' → H' a = some (.lst (ms.map V.int)) → Asc ms → (∀ k, k ∈ ms ↔ k ∈ ns ∧ 0 < k) → ms.length ≤ ns.length → Q (.ref a) H'
section
theorem ok_values_in_order {P : Program} {w : World} {K : PySem.W.Frag} {mg : Str → Option Value} {base : Heap} {A : Nat → Addr} {D : Nat → FuncData} (T : Txt K mg A D) : FnOk P w K mg base (L2.CX P w) 1 (A 6) (D 6) ["values"] (sp_values_in_order) := by
  refine T.F_values_in_order.okX sc_values_in_order (fun vs H Q E h => ?_) (fun cdv A' outer s H vs Q E hr h => ?_)
  · obtain ⟨p, ns, rfl, _⟩ := h
    rfl
  obtain ⟨p, ns, rfl, hp, hl, q⟩ := h
  refine ⟨_, (pss_one (ps_ret (pe_callB (cr_sortedSet rfl) (by rfl) T.z_sorted (by decide +kernel) (pa_cons (Sc.pe_setI (own := [("value", 1)]) (g := gName 1) rfl sc_values_in_order.nd (pi_list (pv 0)) (blkOk_by (N := ["values", "value"]) (sc := defScope s_values_in_order) (by decide +kernel)) (fun _ _ _ _ _ => pg_name (i := 1) sc_values_in_order.nd rfl (Or.inl rfl)) (fun _ _ _ _ _ => (pts_one (pt_cmpR op_gt (pv 1) pe_int (nomark _)))) (fun _ _ _ _ _ => (pv 1))) pa_nil)))), ?_⟩
  walk_at "z"
  refine Sc.z_setE ?_
  walk_at "z"
  refine Sc.z_setI (fun k => decide (0 < k)) (by omega) hp (fun _ => rfl) (fun x H' R _ k => by walk_at "z"; exact k) (fun x H' R _ k => by walk_at "z"; exact k) fun D H1 S n f1 s1 e1 hin hn => ?_
  walk_at "z"
  refine Sc.z_sortedSet e1 (by omega) fun ms a H2 pw hm hml f2 s2 e2 => ?_
  refine q a H2 ms ?_ (s1.trans s2) e2 pw (fun k => ?_) (by omega)
  · cases z : H a with
    | none => rfl
    | some o =>
      have := s1 _ _ z
      rw [f2] at this
      cases this
  · rw [hm k, hin k, decide_eq_true_eq]
end
/-- the state of the greedy loop over vs after i values -/
def Gst (e : Int) (vs : List Int) (i : Nat) (zs : List GP) : Prop := (i = 0 ∧ zs = []) ∨ ∃ done c, zs = done ++ [c] ∧ grp e vs = done ++ gs1 e c (vs.drop i)
theorem Gst.new {e v : Int} {vs : List Int} {i : Nat} {zs : List GP} (h : Gst e vs i zs) (hv : vs[i]? = some v) (hn : ∀ done c, zs = done ++ [c] → ¬ v ≤ c.1 + e) : Gst e vs (i + 1) (zs ++ [(v, v)]) := by
  have hd : vs.drop i = v :: vs.drop (i + 1) := by
    obtain ⟨hi, e⟩ := List.getElem?_eq_some_iff.mp hv
    rw [List.drop_eq_getElem_cons hi, e]
  rcases h with ⟨rfl, rfl⟩ | ⟨done, c, rfl, h⟩
  · refine .inr ⟨[], (v, v), rfl, ?_⟩
    rw [List.drop_zero] at hd
    rw [hd]
    rfl
  · refine .inr ⟨done ++ [c], (v, v), rfl, ?_⟩
    rw [h, hd, gs1_no (hn _ _ rfl), List.append_assoc]
    rfl
theorem Gst.old {e v : Int} {vs : List Int} {i : Nat} {done : List GP} {c : GP} (h : Gst e vs i (done ++ [c])) (hv : vs[i]? = some v) (hn : v ≤ c.1 + e) : Gst e vs (i + 1) (done ++ [(c.1, v)]) := by
  have hd : vs.drop i = v :: vs.drop (i + 1) := by
    obtain ⟨hi, e⟩ := List.getElem?_eq_some_iff.mp hv
    rw [List.drop_eq_getElem_cons hi, e]
  rcases h with ⟨_, z⟩ | ⟨done', c', z, h⟩
  · simp at z
  · obtain ⟨z1, z2⟩ := List.append_inj' z rfl
    cases z2
    subst z1
    refine .inr ⟨done, _, rfl, ?_⟩
    rw [h, hd, gs1_yes hn]
theorem Gst.fin {e : Int} {vs : List Int} {zs : List GP} (h : Gst e vs vs.length zs) : zs = grp e vs := by
  rcases h with ⟨z, rfl⟩ | ⟨done, c, rfl, h⟩
  · have : vs = [] := List.length_eq_zero_iff.mp z
    subst this
    rfl
  · rw [h, List.drop_length]
    rfl
theorem Gst.len {e : Int} {vs : List Int} {i : Nat} {zs : List GP} (h : Gst e vs i zs) : zs.length ≤ vs.length := by
  have hc := cnt_len (e := e) vs
  unfold cntG at hc
  rcases h with ⟨z, rfl⟩ | ⟨done, c, rfl, h⟩
  · exact Nat.zero_le _
  · rw [h] at hc
    simp only [List.length_append, List.length_singleton] at hc ⊢
    have : ∀ (r : List Int) (c : GP), 1 ≤ (gs1 e c r).length := fun r => by
      induction r with
      | nil => intro c; exact Nat.le_refl 1
      | cons v r ih =>
        intro c
        by_cases k : v ≤ c.1 + e
        · rw [gs1_yes k]
          exact ih _
        · rw [gs1_no k]
          exact Nat.succ_pos _
    have := this (vs.drop i) c
    omega
def sp_greedy (K : PySem.W.Frag) : Sp := fun vs H Q _ => ∃ (p : Addr) (ns : List Int) (e : Int), vs = [.ref p, .int e] ∧ H p = some (.lst (ns.map V.int)) ∧ ns.length ≤ 60 ∧
  ∀ a H' ws, H a = none → Same H H' → H' a = some (.lst ws) → Gs K H' ws (grp e ns) → Q (.ref a) H'
section
theorem ok_groups_in_order {P : Program} {w : World} {K : PySem.W.Frag} {mg : Str → Option Value} {base : Heap} {A : Nat → Addr} {D : Nat → FuncData} (T : Txt K mg A D) : FnOk P w K mg base (L2.CX P w) 1 (A 7) (D 7) ["values", "tolerance"] (sp_greedy K) := by
  refine T.F_groups_in_order.okX sc_groups_in_order (fun vs H Q E h => ?_) (fun cdv A' outer s H vs Q E hr h => ?_)
  · obtain ⟨p, ns, e, rfl, _⟩ := h
    rfl
  obtain ⟨p, ns, e, rfl, hp, hl, q⟩ := h
  refine ⟨_, (pss_cons (ps_set (i := 2) sc_groups_in_order.nd rfl (.inl rfl) (pe_lst pa_nil))
  (pss_cons (ps_for (passes_of rfl) rfl (pi_list (pv 0)) (pg_name (i := 3) sc_groups_in_order.nd rfl (.inl rfl))
  (pss_one (ps_if (PW.pt (pw_and (Z.pt_tru (pv 2) (by intro _; rfl)) (pw_and1 (pt_cmpR op_le (pv 3) (pe_op op_add (pe_ix ix_tup (pe_ix ix_list (pv 2) (pe_un un_neg pe_int) (fun _ _ => rfl)) pe_int (fun _ _ => rfl)) (pv 1)) (nomark _)))))
  (pss_one (ps_asg (pe_tup (pa_cons (pe_ix ix_tup (pe_ix ix_list (pv 2) (pe_un un_neg pe_int) (fun _ _ => rfl)) pe_int (fun _ _ => rfl)) (pa_cons (pv 3) pa_nil))) (pg_sub (pv 2) (pe_un un_neg pe_int) set_list)))
  (pss_one (ps_expr (pe_bm PySem.F.plainAttrs_list PySem.F.slot_list_append PySem.F.type_list_append mt_append (pv 2) (pa_cons (pe_tup (pa_cons (pv 3) (pa_cons (pv 3) pa_nil))) pa_nil)))))))
  (pss_one (ps_ret (pv 2))))), ?_⟩
  walk_at "z"
  intro l H1 f1 s1 e1
  walk_at "z"
  refine z_forL (fun R q => by walk_at "z"; exact q) (.inl (.inl (s1 _ _ hp))) (fun i σ' H' => Same H H' ∧ ∃ u ws zs, σ' = [some (.ref p), some (.int e), some (.ref l), u] ∧ H' l = some (.lst ws) ∧ Gs K H' ws zs ∧ Gst e ns i zs) ⟨s1, _, [], [], rfl, e1, trivial, .inl ⟨rfl, rfl⟩⟩
    (fun i σ' H' _ h => .inl (.inl (h.1 _ _ hp))) ?_ ?_
  · rintro i x σ' H' hx ⟨sm, u, ws, zs, rfl, hl', g, G⟩
    rw [List.getElem?_map] at hx
    cases hj : ns[i]? with
    | none => rw [hj] at hx; cases hx
    | some v =>
    rw [hj] at hx
    cases hx
    have lz := G.len
    have lw := g.len
    -- a new group
    have new : (∀ done c, zs = done ++ [c] → ¬ v ≤ c.1 + e) → ∀ t H2, Same H' H2 → H2 t = some (.tup [.int v, .int v]) → ∀ (u : Option V), (Same H (upd H2 l (.lst (ws ++ [.ref t]))) ∧ ∃ u' ws' zs', [some (.ref p), some (.int e), some (.ref l), u] = [some (.ref p), some (.int e), some (.ref l), u'] ∧ (upd H2 l (.lst (ws ++ [.ref t]))) l = some (.lst ws') ∧ Gs K (upd H2 l (.lst (ws ++ [.ref t]))) ws' zs' ∧ Gst e ns (i + 1) zs') := by
      intro hn t H2 s2 e2 u
      have hl2 := s2 _ _ hl'
      refine ⟨fun b o h => ?_, _, _, _, rfl, upd_same, ?_, G.new hj hn⟩
      · rw [upd_ne (ne_of_none h f1)]
        exact s2 _ _ (sm _ _ h)
      · have k2 : Kp l H2 (upd H2 l (.lst (ws ++ [.ref t]))) := fun b o hb h => by
          rw [upd_ne hb]
          exact h
        exact Gs.kp k2 hl2 ((g.mono s2).app (gs_one (dp_mkg e2)))
    walk_at "z"
    refine z_truL hl' ?_
    rcases List.eq_nil_or_concat zs with hz | ⟨done, c, hz⟩
    · have hw : ws = [] := List.length_eq_zero_iff.mp (by rw [g.len, hz]; rfl)
      subst hw
      rw [show (![].isEmpty : Bool) = false from rfl]
      refine z_ifF ?_
      walk_at "z"
      refine z_bmL (fun R q => by walk_at "z"; exact q) hl' ?_
      walk_at "z"
      intro t H2 f2 s2 e2
      walk_at "z"
      refine z_append (s2 _ _ hl') (by omega) ?_
      exact new (fun done c z => by rw [hz] at z; simp at z) t H2 s2 e2 _
    · rw [List.concat_eq_append] at hz
      subst hz
      obtain ⟨wd, w, rfl, gd, dw⟩ := g.unapp
      obtain ⟨tw, rfl, htw⟩ := dp_g dw
      rw [show (!(wd ++ [V.ref tw]).isEmpty : Bool) = true by simp]
      walk_at "z"
      refine z_ixL (.inl (.inl hl')) (at_last wd _) ?_
      walk_at "z"
      refine z_if (fun hc => ?_) (fun hc => ?_)
      · walk_at "z"
        refine z_ixL (.inl (.inl hl')) (at_last wd _) ?_
        walk_at "z"
        intro t H2 f2 s2 e2
        have hl2 := s2 _ _ hl'
        walk_at "z"
        refine z_setL hl2 (ixN_lastM wd _) ?_
        rw [set_lastM]
        refine ⟨fun b o h => ?_, _, _, _, rfl, upd_same, ?_, G.old hj hc⟩
        · rw [upd_ne (ne_of_none h f1)]
          exact s2 _ _ (sm _ _ h)
        · have k2 : Kp l H2 (upd H2 l (.lst (wd ++ [.ref t]))) := fun b o hb h => by
            rw [upd_ne hb]
            exact h
          exact Gs.kp k2 hl2 ((gd.mono s2).app (gs_one (dp_mkg e2)))
      · walk_at "z"
        refine z_bmL (fun R q => by walk_at "z"; exact q) hl' ?_
        walk_at "z"
        intro t H2 f2 s2 e2
        walk_at "z"
        refine z_append (s2 _ _ hl') (by omega) ?_
        refine new (fun done' c' z => ?_) t H2 s2 e2 _
        obtain ⟨_, z2⟩ := List.append_inj' z rfl
        cases z2
        exact hc
  · rintro σ' H' ⟨sm, u, ws, zs, rfl, hl', g, G⟩
    rw [List.length_map] at G
    have := G.fin
    subst this
    walk_at "z"
    exact q l H' ws f1 sm hl' g
end
def sp_groups (K : PySem.W.Frag) : Sp := fun vs H Q _ => ∃ (p : Addr) (ns : List Int) (e : Int), vs = [.ref p, .int e] ∧ H p = some (.lst (ns.map V.int)) ∧ ns.length ≤ 60 ∧
  ∀ a H' ws ms, H a = none → Same H H' → H' a = some (.lst ws) → Asc ms → (∀ k, k ∈ ms ↔ k ∈ ns ∧ 0 < k) → ms.length ≤ ns.length → Gs K H' ws (grp e ms) → Q (.ref a) H'
section
theorem ok_groups {P : Program} {w : World} {K : PySem.W.Frag} {mg : Str → Option Value} {base : Heap} {A : Nat → Addr} {D : Nat → FuncData} (T : Txt K mg A D) : FnOk P w K mg base (L2.CX P w) 2 (A 5) (D 5) ["values", "tolerance"] (sp_groups K) := by
  refine T.F_groups.okX sc_groups (fun vs H Q E h => ?_) (fun cdv A' outer s H vs Q E hr h => ?_)
  · obtain ⟨p, ns, e, rfl, _⟩ := h
    rfl
  obtain ⟨p, ns, e, rfl, hp, hl, q⟩ := h
  refine ⟨_, (pss_one (ps_ret (pe_call (ok_groups_in_order T) (hr.mono (by decide)) (by rfl) T.m_groups_in_order T.F_groups_in_order.kp T.b_groups_in_order .nil (passes_call (takes_of rfl rfl rfl rfl) (fun _ _ _ _ h => h)) (pa_cons (pe_call (ok_values_in_order T) (hr.mono (by decide)) (by rfl) T.m_values_in_order T.F_values_in_order.kp T.b_values_in_order .nil (passes_call (takes_of rfl rfl rfl rfl) (fun _ _ _ _ h => h)) (pa_cons (pv 0) pa_nil)) (pa_cons (pv 1) pa_nil))))), ?_⟩
  walk_at "z"
  refine ⟨p, ns, rfl, hp, hl, fun a H1 ms f1 s1 e1 ha' hm' hl' => ?_⟩
  walk_at "z"
  exact ⟨a, ms, e, rfl, e1, by omega, fun b H2 ws f2 s2 e2 g => q b H2 ws ms (fresh_of s1 f2) (s1.trans s2) e2 ha' hm' hl' g⟩
end
section
theorem ok__law_greedy {P : Program} {w : World} {K : PySem.W.Frag} {mg : Str → Option Value} {base : Heap} {A : Nat → Addr} {D : Nat → FuncData} (T : Txt K mg A D) : FnOk P w K mg base (L2.CX P w) 1 (A 44) (D 44) ["rest", "e"] (sp_greedy K) := by
  refine T.F__law_greedy.okX sc__law_greedy (fun vs H Q E h => ?_) (fun cdv A' outer s H vs Q E hr h => ?_)
  · obtain ⟨p, ns, e, rfl, _⟩ := h
    rfl
  obtain ⟨p, ns, e, rfl, hp, hl, q⟩ := h
  refine ⟨_, (pss_cons (ps_set (i := 2) sc__law_greedy.nd rfl (.inl rfl) (pe_lst pa_nil))
  (pss_cons (ps_for (passes_of rfl) rfl (pi_list (pv 0)) (pg_name (i := 3) sc__law_greedy.nd rfl (.inl rfl))
  (pss_one (ps_if (PW.pt (pw_and (pt_cmpR op_gt (pe_callB Z.c_len (by rfl) T.z_len (by decide +kernel) (pa_cons (pv 2) pa_nil)) pe_int (nomark _)) (pw_and1 (pt_cmpR op_le (pe_op op_sub (pv 3) (pe_ix ix_tup (pe_ix ix_list (pv 2) (pe_un un_neg pe_int) (fun _ _ => rfl)) pe_int (fun _ _ => rfl))) (pv 1) (nomark _)))))
  (pss_one (ps_asg (pe_tup (pa_cons (pe_ix ix_tup (pe_ix ix_list (pv 2) (pe_un un_neg pe_int) (fun _ _ => rfl)) pe_int (fun _ _ => rfl)) (pa_cons (pv 3) pa_nil))) (pg_sub (pv 2) (pe_un un_neg pe_int) set_list)))
  (pss_one (ps_expr (pe_bm PySem.F.plainAttrs_list PySem.F.slot_list_append PySem.F.type_list_append mt_append (pv 2) (pa_cons (pe_tup (pa_cons (pv 3) (pa_cons (pv 3) pa_nil))) pa_nil)))))))
  (pss_one (ps_ret (pv 2))))), ?_⟩
  walk_at "z"
  intro l H1 f1 s1 e1
  walk_at "z"
  refine z_forL (fun R q => by walk_at "z"; exact q) (.inl (.inl (s1 _ _ hp))) (fun i σ' H' => Same H H' ∧ ∃ u ws zs, σ' = [some (.ref p), some (.int e), some (.ref l), u] ∧ H' l = some (.lst ws) ∧ Gs K H' ws zs ∧ Gst e ns i zs) ⟨s1, _, [], [], rfl, e1, trivial, .inl ⟨rfl, rfl⟩⟩
    (fun i σ' H' _ h => .inl (.inl (h.1 _ _ hp))) ?_ ?_
  · rintro i x σ' H' hx ⟨sm, u, ws, zs, rfl, hl', g, G⟩
    rw [List.getElem?_map] at hx
    cases hj : ns[i]? with
    | none => rw [hj] at hx; cases hx
    | some v =>
    rw [hj] at hx
    cases hx
    have lz := G.len
    have lw := g.len
    -- a new group
    have new : (∀ done c, zs = done ++ [c] → ¬ v ≤ c.1 + e) → ∀ t H2, Same H' H2 → H2 t = some (.tup [.int v, .int v]) → ∀ (u : Option V), (Same H (upd H2 l (.lst (ws ++ [.ref t]))) ∧ ∃ u' ws' zs', [some (.ref p), some (.int e), some (.ref l), u] = [some (.ref p), some (.int e), some (.ref l), u'] ∧ (upd H2 l (.lst (ws ++ [.ref t]))) l = some (.lst ws') ∧ Gs K (upd H2 l (.lst (ws ++ [.ref t]))) ws' zs' ∧ Gst e ns (i + 1) zs') := by
      intro hn t H2 s2 e2 u
      have hl2 := s2 _ _ hl'
      refine ⟨fun b o h => ?_, _, _, _, rfl, upd_same, ?_, G.new hj hn⟩
      · rw [upd_ne (ne_of_none h f1)]
        exact s2 _ _ (sm _ _ h)
      · have k2 : Kp l H2 (upd H2 l (.lst (ws ++ [.ref t]))) := fun b o hb h => by
          rw [upd_ne hb]
          exact h
        exact Gs.kp k2 hl2 ((g.mono s2).app (gs_one (dp_mkg e2)))
    walk_at "z"
    rcases List.eq_nil_or_concat zs with hz | ⟨done, c, hz⟩
    · have hw : ws = [] := List.length_eq_zero_iff.mp (by rw [g.len, hz]; rfl)
      subst hw
      refine z_if (fun c => absurd c (by decide)) (fun _ => ?_)
      walk_at "z"
      refine z_bmL (fun R q => by walk_at "z"; exact q) hl' ?_
      walk_at "z"
      intro t H2 f2 s2 e2
      walk_at "z"
      refine z_append (s2 _ _ hl') (by omega) ?_
      exact new (fun done c z => by rw [hz] at z; simp at z) t H2 s2 e2 _
    · rw [List.concat_eq_append] at hz
      subst hz
      obtain ⟨wd, w, rfl, gd, dw⟩ := g.unapp
      obtain ⟨tw, rfl, htw⟩ := dp_g dw
      refine z_if (fun _ => ?_) (fun c => absurd (show (0 : Int) < ((wd ++ [V.ref tw]).length : Int) by rw [List.length_append, List.length_singleton]; omega) c)
      walk_at "z"
      refine z_ixL (.inl (.inl hl')) (at_last wd _) ?_
      walk_at "z"
      refine z_if (fun hc => ?_) (fun hc => ?_)
      · walk_at "z"
        refine z_ixL (.inl (.inl hl')) (at_last wd _) ?_
        walk_at "z"
        intro t H2 f2 s2 e2
        have hl2 := s2 _ _ hl'
        walk_at "z"
        refine z_setL hl2 (ixN_lastM wd _) ?_
        rw [set_lastM]
        refine ⟨fun b o h => ?_, _, _, _, rfl, upd_same, ?_, G.old hj (by omega)⟩
        · rw [upd_ne (ne_of_none h f1)]
          exact s2 _ _ (sm _ _ h)
        · have k2 : Kp l H2 (upd H2 l (.lst (wd ++ [.ref t]))) := fun b o hb h => by
            rw [upd_ne hb]
            exact h
          exact Gs.kp k2 hl2 ((gd.mono s2).app (gs_one (dp_mkg e2)))
      · walk_at "z"
        refine z_bmL (fun R q => by walk_at "z"; exact q) hl' ?_
        walk_at "z"
        intro t H2 f2 s2 e2
        walk_at "z"
        refine z_append (s2 _ _ hl') (by omega) ?_
        refine new (fun done' c' z => ?_) t H2 s2 e2 _
        obtain ⟨_, z2⟩ := List.append_inj' z rfl
        cases z2
        omega
  · rintro σ' H' ⟨sm, u, ws, zs, rfl, hl', g, G⟩
    rw [List.length_map] at G
    have := G.fin
    subst this
    walk_at "z"
    exact q l H' ws f1 sm hl' g
end
section
theorem ok__law_ascending {P : Program} {w : World} {K : PySem.W.Frag} {mg : Str → Option Value} {base : Heap} {A : Nat → Addr} {D : Nat → FuncData} (T : Txt K mg A D) : FnOk P w K mg base (L2.CX P w) 1 (A 43) (D 43) ["values"] (sp_values_in_order) := by
  refine T.F__law_ascending.okX sc__law_ascending (fun vs H Q E h => ?_) (fun cdv A' outer s H vs Q E hr h => ?_)
  · obtain ⟨p, ns, rfl, _⟩ := h
    rfl
  obtain ⟨p, ns, rfl, hp, hl, q⟩ := h
  refine ⟨_, (pss_cons (ps_set (i := 1) sc__law_ascending.nd rfl (.inl rfl) (pe_lst pa_nil))
  (pss_cons (ps_for (passes_of rfl) rfl (pi_list (pe_callB cr_sorted (by rfl) T.z_sorted (by decide +kernel) (pa_cons (pv 0) pa_nil))) (pg_name (i := 2) sc__law_ascending.nd rfl (.inl rfl))
  (pss_one (ps_if (PW.pt (pw_and (pt_cmpR op_gt (pv 2) pe_int (nomark _)) (pw_and1 (pt_cmpR op_notIn_seq (pv 2) (pv 1) (by rfl)))))
  (pss_one (ps_expr (pe_bm PySem.F.plainAttrs_list PySem.F.slot_list_append PySem.F.type_list_append mt_append (pv 1) (pa_cons (pv 2) pa_nil))))
  pss_nil)))
  (pss_one (ps_ret (pv 1))))), ?_⟩
  walk_at "z"
  intro l H1 f1 s1 e1
  walk_at "z"
  refine z_forE ?_
  walk_at "z"
  refine z_sorted (s1 _ _ hp) (by omega) fun ms a H2 pm pw f2 s2 e2 => ?_
  have hml : ms.length = ns.length := pm.length_eq
  have fl : H1 l = some (.lst []) := e1
  unfold ForL
  have nal : a ≠ l := fun z => by rw [z, e1] at f2; cases f2
  refine z_forL (fun R q => q) (.inl (.inl e2)) (fun i σ' H' => Same H H' ∧ H' a = some (.lst (ms.map V.int)) ∧ ∃ u ts, σ' = [some (.ref p), some (.ref l), u] ∧ H' l = some (.lst (ts.map V.int)) ∧ Asc ts ∧ (∀ k, k ∈ ts ↔ k ∈ ms.take i ∧ 0 < k) ∧ ts.length ≤ i)
    ⟨s1.trans s2, e2, _, [], rfl, s2 _ _ e1, .nil, fun k => by simp, Nat.le_refl _⟩ (fun i σ' H' _ h => .inl (.inl h.2.1)) ?_ ?_
  · rintro i x σ' H' hx ⟨sm, ha, u, ts, rfl, hl', asc, hm, tl⟩
    rw [List.getElem?_map] at hx
    cases hj : ms[i]? with
    | none => rw [hj] at hx; cases hx
    | some v =>
    rw [hj] at hx
    cases hx
    have hi : i < ms.length := (List.getElem?_eq_some_iff.mp hj).1
    have tk : ms.take (i + 1) = ms.take i ++ [v] := by rw [List.take_add_one, hj]; rfl
    have skip : (¬ 0 < v ∨ v ∈ ts) → ∀ k, k ∈ ts ↔ k ∈ ms.take (i + 1) ∧ 0 < k := fun c k => by
      rw [hm k, tk, List.mem_append, List.mem_singleton]
      constructor
      · rintro ⟨z1, z2⟩
        exact ⟨.inl z1, z2⟩
      · rintro ⟨z1 | rfl, z2⟩
        · exact ⟨z1, z2⟩
        · rcases c with c | c
          · exact absurd z2 c
          · exact (hm k).mp c
    walk_at "z"
    refine z_if (fun c => ?_) (fun c => ?_)
    · walk_at "z"
      refine z_notInI hl' ?_
      walk_at "z"
      refine z_if (fun c2 => ?_) (fun c2 => ?_)
      · walk_at "z"
        refine z_bmL (fun R q => by walk_at "z"; exact q) hl' ?_
        walk_at "z"
        refine z_append hl' (by rw [List.length_map]; omega) ?_
        refine ⟨fun b o h => ?_, ?_, _, ts ++ [v], rfl, ?_, ?_, fun k => ?_, by simp; omega⟩
        · rw [upd_ne (ne_of_none h f1)]
          exact sm _ _ h
        · rw [upd_ne nal]
          exact ha
        · rw [upd_same, List.map_append]
          rfl
        · refine List.pairwise_append.mpr ⟨asc, List.pairwise_singleton _ _, fun y hy z hz => ?_⟩
          rw [List.mem_singleton.mp hz]
          have h1 := ((hm y).mp hy).1
          obtain ⟨j, hj2⟩ := List.mem_iff_getElem?.mp h1
          have hlt : j < i := by
            have := (List.getElem?_eq_some_iff.mp hj2).1
            rw [List.length_take] at this
            omega
          rw [List.getElem?_take_of_lt hlt] at hj2
          obtain ⟨jj, e1'⟩ := List.getElem?_eq_some_iff.mp hj2
          obtain ⟨ii, e2'⟩ := List.getElem?_eq_some_iff.mp hj
          have := (List.pairwise_iff_getElem.mp pw) j i jj ii hlt
          rw [e1', e2'] at this
          have hne : y ≠ v := fun z => c2 (by rw [← z]; exact hy)
          omega
        · rw [List.mem_append, List.mem_singleton, hm k, tk, List.mem_append, List.mem_singleton]
          constructor
          · rintro (⟨z1, z2⟩ | rfl)
            · exact ⟨.inl z1, z2⟩
            · exact ⟨.inr rfl, c⟩
          · rintro ⟨z1 | rfl, z2⟩
            · exact .inl ⟨z1, z2⟩
            · exact .inr rfl
      · walk_at "z"
        exact ⟨sm, ha, _, ts, rfl, hl', asc, skip (.inr (Decidable.not_not.mp c2)), by omega⟩
    · walk_at "z"
      exact ⟨sm, ha, _, ts, rfl, hl', asc, skip (.inl c), by omega⟩
  · rintro σ' H' ⟨sm, ha, u, ts, rfl, hl', asc, hm, tl⟩
    walk_at "z"
    rw [List.length_map] at hm tl
    exact q l H' ts f1 sm hl' asc (fun k => by rw [hm k, List.take_length, pm.mem_iff]) (by omega)
end

section
variable {K : PySem.W.Frag} {H : Hp}
theorem Gs.take : ∀ {vs : List V} {zs : List GP} (n : Nat), Gs K H vs zs → Gs K H (vs.take n) (zs.take n)
  | _, _, 0, _ => trivial
  | [], [], _ + 1, _ => trivial
  | _ :: _, _ :: _, n + 1, h => ⟨h.1, Gs.take n h.2⟩
theorem Gs.drop : ∀ {vs : List V} {zs : List GP} (n : Nat), Gs K H vs zs → Gs K H (vs.drop n) (zs.drop n)
  | _, _, 0, h => h
  | [], [], _ + 1, _ => trivial
  | _ :: _, _ :: _, n + 1, h => Gs.drop n h.2
theorem Gs.rev : ∀ {vs : List V} {zs : List GP}, Gs K H vs zs → Gs K H vs.reverse zs.reverse
  | [], [], _ => trivial
  | _ :: _, _ :: _, h => by
    rw [List.reverse_cons, List.reverse_cons]
    exact (Gs.rev h.2).app (gs_one h.1)
end
theorem cut_toS {xs : List V} {k : Nat} (h : k ≤ xs.length) : cutV xs none (some (k : Int)) = xs.take k := by
  unfold cutV
  rw [HT.sIx_nat, HT.sIx_none, Nat.min_eq_left h]
  rfl
theorem cut_fromS {xs : List V} {k : Nat} (h : k ≤ xs.length) : cutV xs (some (k : Int)) none = xs.drop k := by
  unfold cutV
  rw [HT.sIx_nat, HT.sIx_none, Nat.min_eq_left h, List.take_of_length_le (by rw [List.length_drop]; omega)]
theorem cut_mid {xs : List V} {j k : Nat} (hj : j ≤ xs.length) (h : k ≤ xs.length) : cutV xs (some (j : Int)) (some (k : Int)) = (xs.drop j).take (k - j) := by
  unfold cutV
  rw [HT.sIx_nat, HT.sIx_nat, Nat.min_eq_left h, Nat.min_eq_left hj]
def sp_least_tolerance : Sp := fun vs H Q _ => ∃ (p : Addr) (ns : List Int) (n : Nat), vs = [.ref p, .int (n : Int)] ∧ H p = some (.lst (ns.map V.int)) ∧ ns.length ≤ 60 ∧ 1 ≤ n ∧
  ∀ e ms H', Same H H' → Asc ms → (∀ k, k ∈ ms ↔ k ∈ ns ∧ 0 < k) → ms.length ≤ ns.length → Tol ms n e → Q (.int e) H'
section
theorem ok_least_tolerance {P : Program} {w : World} {K : PySem.W.Frag} {mg : Str → Option Value} {base : Heap} {A : Nat → Addr} {D : Nat → FuncData} (T : Txt K mg A D) : FnOk P w K mg base (L2.CX P w) 2 (A 8) (D 8) ["values", "limit"] (sp_least_tolerance) := by
  refine T.F_least_tolerance.okX sc_least_tolerance (fun vs H Q E h => ?_) (fun cdv A' outer s H vs Q E hr h => ?_)
  · obtain ⟨p, ns, n, rfl, _⟩ := h
    rfl
  obtain ⟨p, ns, n, rfl, hp, hl, hn, q⟩ := h
  refine ⟨_, (pss_cons (ps_set (i := 2) sc_least_tolerance.nd rfl (.inl rfl) (pe_call (ok_values_in_order T) (hr.mono (by decide)) (by rfl) T.m_values_in_order T.F_values_in_order.kp T.b_values_in_order .nil (passes_call (takes_of rfl rfl rfl rfl) (fun _ _ _ _ h => h)) (pa_cons (pv 0) pa_nil)))
  (pss_cons (ps_if (pt_not (Z.pt_tru (pv 2) (by intro _; rfl)))
  (pss_one (ps_ret pe_int))
  pss_nil)
  (pss_cons (ps_set (i := 3) sc_least_tolerance.nd rfl (.inl rfl) pe_int)
  (pss_cons (ps_set (i := 4) sc_least_tolerance.nd rfl (.inl rfl) (pe_op op_sub (pe_ix ix_list (pv 2) (pe_un un_neg pe_int) (fun _ _ => rfl)) (pe_ix ix_list (pv 2) pe_int (fun _ _ => rfl))))
  (pss_cons (ps_while (passes_of rfl) (pt_cmpR op_lt (pv 3) (pv 4) (nomark _))
  (pss_cons (ps_set (i := 5) sc_least_tolerance.nd rfl (.inl rfl) (pe_op op_fdivW (pe_op op_add (pv 3) (pv 4)) pe_int))
  (pss_one (ps_if (pt_cmpR op_le (pe_callB Z.c_len (by rfl) T.z_len (by decide +kernel) (pa_cons (pe_call (ok_groups_in_order T) (hr.mono (by decide)) (by rfl) T.m_groups_in_order T.F_groups_in_order.kp T.b_groups_in_order .nil (passes_call (takes_of rfl rfl rfl rfl) (fun _ _ _ _ h => h)) (pa_cons (pv 2) (pa_cons (pv 5) pa_nil))) pa_nil)) (pv 1) (nomark _))
  (pss_one (ps_set (i := 4) sc_least_tolerance.nd rfl (.inl rfl) (pv 5)))
  (pss_one (ps_set (i := 3) sc_least_tolerance.nd rfl (.inl rfl) (pe_op op_add (pv 5) pe_int)))))))
  (pss_one (ps_ret (pv 3)))))))), ?_⟩
  walk_at "z"
  refine ⟨p, ns, rfl, hp, hl, fun a H1 ms f1 s1 e1 am mm lm => ?_⟩
  walk_at "z"
  refine z_truL e1 ?_
  walk_at "z"
  rcases List.eq_nil_or_concat ms with hz | ⟨rd, b, hz⟩
  · subst hz
    walk_at "z"
    exact q 0 [] H1 s1 am mm lm ⟨Int.le_refl 0, Nat.zero_le _, fun e' h _ => h⟩
  rw [List.concat_eq_append] at hz
  have hb : ms[ms.length - 1]? = some b := by rw [hz]; simp
  obtain ⟨a0, ha0⟩ : ∃ z, ms[0]? = some z := ⟨_, List.getElem?_eq_getElem (show 0 < ms.length by rw [hz]; simp)⟩
  rw [show (!(!(ms.map V.int).isEmpty) : Bool) = false by rw [hz]; simp]
  walk_at "z"
  have e1' := e1
  rw [hz, List.map_append] at e1'
  refine z_ixL (.inl (.inl e1')) (at_last _ _) ?_
  walk_at "z"
  refine z_ixL (.inl (.inl e1)) (v := .int a0) (show atI _ ((0 : Nat) : Int) = _ from atI_nat (by rw [List.getElem?_map, ha0]; rfl)) ?_
  walk_at "z"
  have h1 := cnt_all am ha0 hb
  have hab : a0 ≤ b := asc_le am hb a0 (List.mem_of_getElem? ha0)
  refine z_while (fun σ' H' => Same H1 H' ∧ ∃ (lo hi : Int) (u : Option V), σ' = [some (.ref p), some (.int (n : Int)), some (.ref a), some (.int lo), some (.int hi), u] ∧ 0 ≤ lo ∧ lo ≤ hi ∧ cntG hi ms ≤ n ∧ ∀ e', 0 ≤ e' → cntG e' ms ≤ n → lo ≤ e')
    (fun σ' H' => muI 4 σ' H' - muI 3 σ' H') ⟨fun _ _ e => e, 0, b - a0, _, rfl, Int.le_refl 0, by omega, by omega, fun e' h _ => h⟩ ?_
  rintro σ' H2 ⟨s2, lo, hi, u, rfl, l0, lh, ch, cl⟩
  walk_at "z"
  refine z_wb (fun c => ?_) (fun c => ?_)
  · walk_at "z"
    refine z_I (wide_div (b := 2) (by decide) (by decide) (by decide) (by decide)) ?_
    walk_at "z"
    generalize hm : (lo + hi) / 2 = mid
    refine ⟨a, ms, mid, rfl, s2 _ _ e1, by omega, fun g H3 ws f3 s3 e3 gg => ?_⟩
    have lw := gg.len
    walk_at "z"
    refine z_if (fun c2 => ?_) (fun c2 => ?_)
    · walk_at "z"
      refine ⟨⟨s2.trans s3, lo, mid, _, rfl, l0, by omega, by unfold cntG; omega, cl⟩, ?_⟩
      show mid.toNat - lo.toNat < hi.toNat - lo.toNat
      omega
    · walk_at "z"
      refine ⟨⟨s2.trans s3, mid + 1, hi, _, rfl, by omega, by omega, ch, fun e' h0 h' => ?_⟩, ?_⟩
      · rcases Int.lt_or_le mid e' with z | z
        · omega
        · have := cnt_mono z am
          unfold cntG at *
          omega
      · show hi.toNat - (mid + 1).toNat < hi.toNat - lo.toNat
        omega
  · walk_at "z"
    have : lo = hi := by omega
    subst this
    exact q lo ms H2 (s1.trans s2) am mm lm ⟨l0, ch, cl⟩
end

def mid (g : GP) : Int := (g.1 + g.2) / 2
theorem wd2 {a : Int} : CDivW a 2 := wide_div (b := 2) (by decide) (by decide) (by decide) (by decide)
def sp_group_value (K : PySem.W.Frag) : Sp := fun vs H Q _ => ∃ (v : V) (g : GP), vs = [v] ∧ Dp K H v (gD g) ∧ Q (.int (mid g)) H
section
theorem ok_group_value {P : Program} {w : World} {K : PySem.W.Frag} {mg : Str → Option Value} {base : Heap} {A : Nat → Addr} {D : Nat → FuncData} (T : Txt K mg A D) : FnOk P w K mg base (L2.CX P w) 1 (A 10) (D 10) ["group"] (sp_group_value K) := by
  refine T.F_group_value.okX sc_group_value (fun vs H Q E h => ?_) (fun cdv A' outer s H vs Q E hr h => ?_)
  · obtain ⟨v, g, rfl, _⟩ := h
    rfl
  obtain ⟨v, g, rfl, dv, q⟩ := h
  refine ⟨_, (pss_one (ps_ret (pe_op op_fdivW (pe_op op_add (pe_ix ix_tup (pv 0) pe_int (fun _ _ => rfl)) (pe_ix ix_tup (pv 0) pe_int (fun _ _ => rfl))) pe_int))), ?_⟩
  obtain ⟨p, rfl, hp⟩ := dp_g dv
  walk_at "z"
  refine z_I wd2 ?_
  exact q
end
/-- the groups of a table -/
def sp_table_groups (K : PySem.W.Frag) : Sp := fun vs H Q _ => ∃ (p : Addr) (ns : List Int) (n : Nat), vs = [.ref p, .int (n : Int)] ∧ H p = some (.lst (ns.map V.int)) ∧ ns.length ≤ 60 ∧ 1 ≤ n ∧
  ∀ a H' ws e ms, H a = none → Same H H' → H' a = some (.lst ws) → Asc ms → (∀ k, k ∈ ms ↔ k ∈ ns ∧ 0 < k) → ms.length ≤ ns.length → Tol ms n e → Gs K H' ws (grp e ms) → Q (.ref a) H'
section
theorem ok_table_groups {P : Program} {w : World} {K : PySem.W.Frag} {mg : Str → Option Value} {base : Heap} {A : Nat → Addr} {D : Nat → FuncData} (T : Txt K mg A D) : FnOk P w K mg base (L2.CX P w) 3 (A 9) (D 9) ["values", "limit"] (sp_table_groups K) := by
  refine T.F_table_groups.okX sc_table_groups (fun vs H Q E h => ?_) (fun cdv A' outer s H vs Q E hr h => ?_)
  · obtain ⟨p, ns, n, rfl, _⟩ := h
    rfl
  obtain ⟨p, ns, n, rfl, hp, hl, hn, q⟩ := h
  refine ⟨_, (pss_one (ps_ret (pe_call (ok_groups T) (hr.mono (by decide)) (by rfl) T.m_groups T.F_groups.kp T.b_groups .nil (passes_call (takes_of rfl rfl rfl rfl) (fun _ _ _ _ h => h)) (pa_cons (pv 0) (pa_cons (pe_call (ok_least_tolerance T) (hr.mono (by decide)) (by rfl) T.m_least_tolerance T.F_least_tolerance.kp T.b_least_tolerance .nil (passes_call (takes_of rfl rfl rfl rfl) (fun _ _ _ _ h => h)) (pa_cons (pv 0) (pa_cons (pv 1) pa_nil))) pa_nil))))), ?_⟩
  walk_at "z"
  refine ⟨p, ns, n, rfl, hp, hl, hn, fun e ms H1 s1 am mm lm T1 => ?_⟩
  walk_at "z"
  refine ⟨p, ns, e, rfl, s1 _ _ hp, hl, fun a H2 ws ms' f2 s2 h2 am' mm' _ g2 => ?_⟩
  have := asc_ext am am' (fun k => (mm k).trans (mm' k).symm)
  subst this
  exact q a H2 ws e ms (fresh_of s1 f2) (s1.trans s2) h2 am mm lm T1 g2
end
def sp_table : Sp := fun vs H Q _ => ∃ (p : Addr) (ns : List Int) (n : Nat), vs = [.ref p, .int (n : Int)] ∧ H p = some (.lst (ns.map V.int)) ∧ ns.length ≤ 60 ∧ 1 ≤ n ∧
  ∀ a H' e ms, H a = none → Same H H' → H' a = some (.lst ((0 :: (grp e ms).map mid).map V.int)) → Asc ms → (∀ k, k ∈ ms ↔ k ∈ ns ∧ 0 < k) → ms.length ≤ ns.length → Tol ms n e → Q (.ref a) H'
section
theorem ok_table {P : Program} {w : World} {K : PySem.W.Frag} {mg : Str → Option Value} {base : Heap} {A : Nat → Addr} {D : Nat → FuncData} (T : Txt K mg A D) : FnOk P w K mg base (L2.CX P w) 4 (A 11) (D 11) ["values", "limit"] (sp_table) := by
  refine T.F_table.okX sc_table (fun vs H Q E h => ?_) (fun cdv A' outer s H vs Q E hr h => ?_)
  · obtain ⟨p, ns, n, rfl, _⟩ := h
    rfl
  obtain ⟨p, ns, n, rfl, hp, hl, hn, q⟩ := h
  refine ⟨_, (pss_one (ps_ret (pe_op op_cat (pe_lst (pa_cons pe_int pa_nil)) (pe_lc (own := [("group", 2)]) (g := gName 2) (tt := tYes) rfl sc_table.nd (pi_list (pe_call (ok_table_groups T) (hr.mono (by decide)) (by rfl) T.m_table_groups T.F_table_groups.kp T.b_table_groups .nil (passes_call (takes_of rfl rfl rfl rfl) (fun _ _ _ _ h => h)) (pa_cons (pv 0) (pa_cons (pv 1) pa_nil)))) (blkOk_by (N := ["values", "limit", "group"]) (sc := defScope s_table) (by decide +kernel)) (fun _ _ _ _ _ => pg_name (i := 2) sc_table.nd rfl (Or.inl rfl)) (fun _ _ _ _ _ => pts_nil) (fun _ _ _ _ _ => (pe_call (ok_group_value T) (hr.mono (by decide)) (by rfl) T.m_group_value T.F_group_value.kp T.b_group_value .nil passL (pa_cons (pv 2) pa_nil))))))), ?_⟩
  walk_at "z"
  intro a1 H1 f1 s1 h1
  walk_at "z"
  refine z_lcE ?_
  walk_at "z"
  refine ⟨p, ns, n, rfl, s1 _ _ hp, hl, hn, fun a2 H2 ws e ms f2 s2 h2 am mm lm T2 g2 => ?_⟩
  have lw := g2.len
  have lc : (grp e ms).length ≤ 60 := by
    have := cnt_len (e := e) ms
    unfold cntG at this
    omega
  walk_at "z"
  refine z_lcLs (by omega) (.inl (.inl h2)) (fun _ => rfl) (fun i D acc H' => Same H2 H' ∧ H2 D = none ∧ acc = ((grp e ms).take i).map fun g => V.int (mid g)) (fun D H' f s _ => ⟨s, f, rfl⟩) (fun i D acc H' h => .inl (.inl (h.1 _ _ h2)))
    (fun i x D acc H' hx hl' hD ⟨s', fD, ea⟩ => ?_) (fun D acc H' fD hl' hD ⟨s', _, ea⟩ => ?_)
  · obtain ⟨z, hz, dz⟩ := (g2.mono s').getv hx
    walk_at "z"
    refine ⟨_, z, rfl, dz, ?_⟩
    refine z_lcB hD hl' (by have := (List.getElem?_eq_some_iff.mp hz).1; omega) fun H4 hD4 k4 e4 => ⟨fun b o h => ?_, fD, ?_⟩
    · rw [e4 b (ne_of_none h fD)]
      exact s' _ _ h
    · rw [ea, List.take_add_one, hz, List.map_append]
      rfl
  · rw [ea, lw, List.take_length] at hD
    walk_at "z"
    refine z_cat ((s2.trans s') _ _ h1) hD (by simp only [List.length_map, List.length_cons, List.length_nil]; omega) fun b H4 f4 s4 h4 => ?_
    refine q b H4 e ms (fresh_of ((s1.trans s2).trans s') f4) (((s1.trans s2).trans s').trans s4) ?_ am mm lm T2
    rw [h4, List.map_cons, List.map_map]
    rfl
end
def sp_table_value : Sp := fun vs H Q _ => ∃ (p : Addr) (ns : List Int) (n : Nat) (v : Int), vs = [.ref p, .int (n : Int), .int v] ∧ H p = some (.lst (ns.map V.int)) ∧ ns.length ≤ 60 ∧ 1 ≤ n ∧
  ∀ t H' e ms, Same H H' → Asc ms → (∀ k, k ∈ ms ↔ k ∈ ns ∧ 0 < k) → Tol ms n e → ((∃ g ∈ grp e ms, g.1 ≤ v ∧ v ≤ g.2 ∧ t = mid g) ∨ ((∀ g ∈ grp e ms, ¬ (g.1 ≤ v ∧ v ≤ g.2)) ∧ t = 0)) → Q (.int t) H'
section
theorem ok_table_value {P : Program} {w : World} {K : PySem.W.Frag} {mg : Str → Option Value} {base : Heap} {A : Nat → Addr} {D : Nat → FuncData} (T : Txt K mg A D) : FnOk P w K mg base (L2.CX P w) 4 (A 12) (D 12) ["values", "limit", "value"] (sp_table_value) := by
  refine T.F_table_value.okX sc_table_value (fun vs H Q E h => ?_) (fun cdv A' outer s H vs Q E hr h => ?_)
  · obtain ⟨p, ns, n, v, rfl, _⟩ := h
    rfl
  obtain ⟨p, ns, n, v, rfl, hp, hl, hn, q⟩ := h
  refine ⟨_, (pss_cons (ps_for (passes_of rfl) rfl (pi_list (pe_call (ok_table_groups T) (hr.mono (by decide)) (by rfl) T.m_table_groups T.F_table_groups.kp T.b_table_groups .nil (passes_call (takes_of rfl rfl rfl rfl) (fun _ _ _ _ h => h)) (pa_cons (pv 0) (pa_cons (pv 1) pa_nil)))) (pg_name (i := 3) sc_table_value.nd rfl (.inl rfl))
  (pss_one (ps_if (pt_chain op_le op_le (pe_ix ix_tup (pv 3) pe_int (fun _ _ => rfl)) (pv 2) (pe_ix ix_tup (pv 3) pe_int (fun _ _ => rfl)))
  (pss_one (ps_ret (pe_call (ok_group_value T) (hr.mono (by decide)) (by rfl) T.m_group_value T.F_group_value.kp T.b_group_value .nil (passes_call (takes_of rfl rfl rfl rfl) (fun _ _ _ _ h => h)) (pa_cons (pv 3) pa_nil))))
  pss_nil)))
  (pss_one (ps_ret pe_int))), ?_⟩
  walk_at "z"
  refine z_forE ?_
  walk_at "z"
  refine ⟨p, ns, n, rfl, hp, hl, hn, fun a2 H2 ws e ms f2 s2 h2 am mm lm T2 g2 => ?_⟩
  unfold ForL
  have lw := g2.len
  refine z_forL (fun R q => q) (.inl (.inl h2)) (fun i σ' H' => H' = H2 ∧ (∃ u, σ' = [some (.ref p), some (.int (n : Int)), some (.int v), u]) ∧ ∀ g ∈ (grp e ms).take i, ¬ (g.1 ≤ v ∧ v ≤ g.2)) ⟨rfl, ⟨_, rfl⟩, fun g hg => by cases hg⟩ (fun i σ' H' _ h => by rw [h.1]; exact .inl (.inl h2)) ?_ ?_
  · rintro i x σ' H' hx ⟨rfl, ⟨u, rfl⟩, no⟩
    obtain ⟨z, hz, dz⟩ := g2.getv hx
    obtain ⟨tz, rfl, hzt⟩ := dp_g dz
    have mz := List.mem_of_getElem? hz
    have next : ¬ (z.1 ≤ v ∧ v ≤ z.2) → ∀ g ∈ (grp e ms).take (i + 1), ¬ (g.1 ≤ v ∧ v ≤ g.2) := fun c g hg => by
      rw [List.take_add_one, hz] at hg
      rcases List.mem_append.mp hg with h | h
      · exact no g h
      · cases List.mem_singleton.mp h
        exact c
    walk_at "z"
    refine z_if (fun c1 => ?_) (fun c1 => ?_)
    · walk_at "z"
      refine z_if (fun c2 => ?_) (fun c2 => ?_)
      · walk_at "z"
        refine ⟨_, z, rfl, dz, ?_⟩
        exact q _ _ e ms s2 am mm T2 (.inl ⟨z, mz, c1, c2, rfl⟩)
      · walk_at "z"
        exact ⟨rfl, ⟨_, rfl⟩, next fun h => c2 h.2⟩
    · walk_at "z"
      exact ⟨rfl, ⟨_, rfl⟩, next fun h => c1 h.1⟩
  · rintro σ' H' ⟨rfl, ⟨u, rfl⟩, no⟩
    rw [lw, List.take_length] at no
    walk_at "z"
    exact q 0 _ e ms s2 am mm T2 (.inr ⟨no, rfl⟩)
end
/-! ### walks over tuples, parts of tuples and lists -/
def ForT (K : PySem.W.Frag) (g : TG) (tb : TS) (n : L2.St → Hp → Prop) (r : VK) (b c : L2.St → Hp → Prop) (σ : L2.St) : VK := fun x H1 => tFor (iTup K (tC x)) g tb ⟨n, r, b, c⟩ σ H1
section
variable {K : PySem.W.Frag} {H H' : Hp} {Q : VK} {σ : L2.St}
theorem z_forTE {tl : TE} {g : TG} {tb : TS} {n : L2.St → Hp → Prop} {r : VK} {b c : L2.St → Hp → Prop} (h : tl σ H (ForT K g tb n r b c σ)) : tFor (iTup K tl) g tb ⟨n, r, b, c⟩ σ H := h
theorem z_forTT {g : TG} {tb : TS} {n : L2.St → Hp → Prop} {r : VK} {b c : L2.St → Hp → Prop} {a : Addr} {xs : List V} (hx : SqT K H a xs) (Pv : Nat → L2.St → Hp → Prop) (h0 : Pv 0 σ H) (hl : ∀ i σ H, i ≤ xs.length → Pv i σ H → SqT K H a xs)
    (hs : ∀ i x σ H, xs[i]? = some x → Pv i σ H → g x σ H fun σ2 H2 => tb ⟨Pv (i + 1), r, n, Pv (i + 1)⟩ σ2 H2) (hd : ∀ σ H, Pv xs.length σ H → n σ H) : ForT K g tb n r b c σ (.ref a) H := z_forT (fun R q => q) hx Pv h0 hl hs hd
theorem cut_to {xs : List V} {k : Nat} (h : k ≤ xs.length) : cutV xs none (some (k : Int)) = xs.take k := by
  unfold cutV
  rw [HT.sIx_nat, HT.sIx_none, Nat.min_eq_left h]
  rfl
theorem cut_from {xs : List V} {k : Nat} (h : k ≤ xs.length) : cutV xs (some (k : Int)) none = xs.drop k := by
  unfold cutV
  rw [HT.sIx_nat, HT.sIx_none, Nat.min_eq_left h, List.take_of_length_le (by rw [List.length_drop]; omega)]
theorem kp_at {p : Addr} {o : HO} : Kp p H (upd H p o) := fun _ _ h e => by rw [upd_ne h]; exact e
theorem dpa_take : ∀ {ds : List PyData} {vs : List V} (n : Nat), DpAll K H vs ds → DpAll K H (vs.take n) (ds.take n)
  | _, _, 0, _ => .nil
  | _, _, _ + 1, .nil => .nil
  | _, _, n + 1, .cons h a => .cons h (dpa_take n a)
theorem dpa_drop : ∀ {ds : List PyData} {vs : List V} (n : Nat), DpAll K H vs ds → DpAll K H (vs.drop n) (ds.drop n)
  | _, _, 0, h => h
  | _, _, _ + 1, .nil => .nil
  | _, _, n + 1, .cons _ a => dpa_drop n a
theorem dpa_atM {α : Type} {f : α → PyData} {xs : List α} {vs : List V} {i : Nat} {v : V} (h : DpAll K H vs (xs.map f)) (e : vs[i]? = some v) : ∃ x, xs[i]? = some x ∧ Dp K H v (f x) := by
  obtain ⟨d, hd, dv⟩ := dpa_getv h e
  rw [List.getElem?_map] at hd
  cases hx : xs[i]? with
  | none => rw [hx] at hd; cases hd
  | some x =>
    rw [hx] at hd
    cases hd
    exact ⟨x, rfl, dv⟩
theorem dpa_lenM {α : Type} {f : α → PyData} {xs : List α} {vs : List V} (h : DpAll K H vs (xs.map f)) : vs.length = xs.length := by
  rw [dpa_len h, List.length_map]
end
local macro_rules | `(tactic| walk_at "z1") => `(tactic| first | with_reducible refine z_forTE ?_ | with_reducible refine z_tru ?_ | with_reducible refine z_forE ?_ | with_reducible refine z_revL ?_)
local macro_rules | `(tactic| walk_at "z1") => `(tactic| first | with_reducible refine Li.z_inE ?_ | with_reducible refine Li.z_tbT ?_ | with_reducible refine Li.z_tbF ?_ | with_reducible refine Li.z_lc2E ?_ | with_reducible refine Li.z_lc2TE ?_ | with_reducible refine Li.z_notInE ?_ | with_reducible refine Li.z_getE ?_ | with_reducible refine Li.z_putE ?_ | with_reducible refine Li.z_get1E ?_)
/-! ### all tuples stay -/
def TupLike : HO → Prop
  | .tup _ => True
  | .frz _ (.tup _) => True
  | _ => False
def TK (H H' : Hp) : Prop := ∀ b o, TupLike o → H b = some o → H' b = some o
theorem TK.of {H H' : Hp} (s : Same H H') : TK H H' := fun b o _ e => s b o e
theorem TK.trans {H H1 H2 : Hp} (a : TK H H1) (b : TK H1 H2) : TK H H2 := fun x o t e => b x o t (a x o t e)
theorem TK.kp {H H' : Hp} {p : Addr} {o : HO} (k : Kp p H H') (hp : H p = some o) (n : ¬ TupLike o) : TK H H' := fun b x t e => k b x (fun z => by
  rw [z, hp] at e
  cases e
  exact n t) e
theorem seqT_tk {K : PySem.W.Frag} {H H' : Hp} {a : Addr} {xs : List V} (k : TK H H') (h : SqT K H a xs) : SqT K H' a xs := by
  rcases h with (h | ⟨o, h⟩) | h
  · exact .inl (.inl (k _ _ trivial h))
  · exact .inl (.inr ⟨o, k _ _ trivial h⟩)
  · exact .inr h
mutual
theorem dp_tk {K : PySem.W.Frag} {H H' : Hp} (k : TK H H') : ∀ {d : PyData} {v : V}, tupOnly d = true → Dp K H v d → Dp K H' v d
  | _, _, _, .non => .non
  | _, _, _, .bl b => .bl b
  | _, _, _, .int i => .int i
  | _, _, _, .str x => .str x
  | _, _, t, .lst h a => by simp [tupOnly] at t
  | _, _, t, .tup h a => .tup (seqT_tk k h) (dp_tkA k (by simpa [tupOnly] using t) a)
theorem dp_tkA {K : PySem.W.Frag} {H H' : Hp} (k : TK H H') : ∀ {ds : List PyData} {vs : List V}, tupOnlyA ds = true → DpAll K H vs ds → DpAll K H' vs ds
  | _, _, _, .nil => .nil
  | _, _, t, .cons h a => by
    have t' : (tupOnly _ && tupOnlyA _) = true := t
    rw [Bool.and_eq_true] at t'
    exact .cons (dp_tk k t'.1 h) (dp_tkA k t'.2 a)
end
theorem Sd.notup {H0 H : Hp} {p : Addr} (S : Sd H0 H p) {H' : Hp} (k : Kp p H H') : TK H H' := by
  obtain ⟨a, b, m, e⟩ := S.stm
  exact TK.kp k e (fun z => z)
/-! ### actions, steps, labels -/
inductive Act
  | kern (n : Int)
  | lig (c : Int) (l r : Bool) (a : Int)
deriving DecidableEq
def actD : Act → PyData
  | .kern n => .tuple [.str "kern", .int n]
  | .lig c l r a => .tuple [.str "ligature", .int c, .bool l, .bool r, .int a]
structure Stp where
  right : Int
  act : Act
  last : Bool
def stpD (s : Stp) : PyData := .tuple [.int s.right, actD s.act, .bool s.last]
def labD (l : Int × Nat) : PyData := .tuple [.int l.1, .int (l.2 : Int)]
def stsT (ss : List Stp) : PyData := .tuple (ss.map stpD)
def labT (ls : List (Int × Nat)) : PyData := .tuple (ls.map labD)
def firstA (right : Int) : List Stp → Option Act
  | [] => none
  | s :: r => if s.right = right then some s.act else if s.last then none else firstA right r
def ruleF (steps : List Stp) (left right : Int) : List (Int × Nat) → Option Act
  | [] => none
  | l :: r => if l.1 = left then firstA right (steps.drop l.2) else ruleF steps left right r
theorem firstA_at {right : Int} {ss : List Stp} {j : Nat} {s : Stp} (e : ss[j]? = some s) : firstA right (ss.drop j) = if s.right = right then some s.act else if s.last then none else firstA right (ss.drop (j + 1)) := by
  obtain ⟨h, e⟩ := List.getElem?_eq_some_iff.mp e
  rw [List.drop_eq_getElem_cons h, e]
  rfl
theorem ruleF_at {steps : List Stp} {left right : Int} {ls : List (Int × Nat)} {j : Nat} {l : Int × Nat} (e : ls[j]? = some l) : ruleF steps left right (ls.drop j) = if l.1 = left then firstA right (steps.drop l.2) else ruleF steps left right (ls.drop (j + 1)) := by
  obtain ⟨h, e⟩ := List.getElem?_eq_some_iff.mp e
  rw [List.drop_eq_getElem_cons h, e]
  rfl
def OptA (K : PySem.W.Frag) (H : Hp) (v : V) : Option Act → Prop
  | none => v = .non
  | some a => Dp K H v (actD a)
section
variable {K : PySem.W.Frag} {H H' : Hp} {v : V}
theorem OptA.mono (s : Same H H') {o : Option Act} (h : OptA K H v o) : OptA K H' v o := by
  cases o with
  | none => exact h
  | some a => exact dp_mono s h
theorem same_keep {a : Addr} {o : HO} (s : Same H H') (f : H a = none) : Same H (upd H' a o) := fun b x e => by
  rw [upd_ne (ne_of_none e f)]
  exact s b x e
theorem dp_stp {s : Stp} (h : Dp K H v (stpD s)) : ∃ b wa, v = .ref b ∧ SqT K H b [.int s.right, wa, .bl s.last] ∧ Dp K H wa (actD s.act) := by
  obtain ⟨b, vs, rfl, hb, a⟩ := dp_tup h
  obtain ⟨v1, r1, rfl, d1, a⟩ := dpa_cons a
  obtain ⟨v2, r2, rfl, d2, a⟩ := dpa_cons a
  obtain ⟨v3, r3, rfl, d3, a⟩ := dpa_cons a
  cases dpa_nil a
  cases d1
  cases d3
  exact ⟨b, v2, rfl, hb, d2⟩
theorem dp_lab {l : Int × Nat} (h : Dp K H v (labD l)) : ∃ b, v = .ref b ∧ SqT K H b [.int l.1, .int (l.2 : Int)] := by
  obtain ⟨b, vs, rfl, hb, a⟩ := dp_tup h
  obtain ⟨v1, r1, rfl, d1, a⟩ := dpa_cons a
  obtain ⟨v2, r2, rfl, d2, a⟩ := dpa_cons a
  cases dpa_nil a
  cases d1
  cases d2
  exact ⟨b, rfl, hb⟩
theorem dp_kern {n : Int} (h : Dp K H v (actD (.kern n))) : ∃ b, v = .ref b ∧ SqT K H b [.str "kern", .int n] := by
  obtain ⟨b, vs, rfl, hb, a⟩ := dp_tup h
  obtain ⟨v1, r1, rfl, d1, a⟩ := dpa_cons a
  obtain ⟨v2, r2, rfl, d2, a⟩ := dpa_cons a
  cases dpa_nil a
  cases d1
  cases d2
  exact ⟨b, rfl, hb⟩
theorem dp_lig {c : Int} {l r : Bool} {n : Int} (h : Dp K H v (actD (.lig c l r n))) : ∃ b, v = .ref b ∧ SqT K H b [.str "ligature", .int c, .bl l, .bl r, .int n] := by
  obtain ⟨b, vs, rfl, hb, a⟩ := dp_tup h
  obtain ⟨v1, r1, rfl, d1, a⟩ := dpa_cons a
  obtain ⟨v2, r2, rfl, d2, a⟩ := dpa_cons a
  obtain ⟨v3, r3, rfl, d3, a⟩ := dpa_cons a
  obtain ⟨v4, r4, rfl, d4, a⟩ := dpa_cons a
  obtain ⟨v5, r5, rfl, d5, a⟩ := dpa_cons a
  cases dpa_nil a
  cases d1
  cases d2
  cases d3
  cases d4
  cases d5
  exact ⟨b, rfl, hb⟩
end
def sp_action_from (K : PySem.W.Frag) : Sp := fun vs H Q _ => ∃ (v : V) (steps : List Stp) (i : Nat) (right : Int), vs = [v, .int (i : Int), .int right] ∧ Dp K H v (stsT steps) ∧ i ≤ steps.length ∧ ∀ w H', Same H H' → OptA K H' w (firstA right (steps.drop i)) → Q w H'
section
theorem ok_action_from {P : Program} {w : World} {K : PySem.W.Frag} {mg : Str → Option Value} {base : Heap} {A : Nat → Addr} {D : Nat → FuncData} (T : Txt K mg A D) : FnOk P w K mg base (L2.CX P w) 1 (A 14) (D 14) ["steps", "index", "right"] (sp_action_from K) := by
  refine T.F_action_from.okX sc_action_from (fun vs H Q E h => ?_) (fun cdv A' outer s H vs Q E hr h => ?_)
  · obtain ⟨v, steps, i, right, rfl, _⟩ := h
    rfl
  obtain ⟨v, steps, i, right, rfl, dv, hi, q⟩ := h
  refine ⟨_, (pss_cons (ps_for (passes_of rfl) rfl (pi_tup (pe_slice L2.sl_tupA (pv 0) (po_some (pv 1)) po_none)) (pg_tup (by rfl) (pgs_cons (pg_name (i := 3) sc_action_from.nd rfl (.inl rfl)) (pgs_cons (pg_name (i := 4) sc_action_from.nd rfl (.inl rfl)) (pgs_cons (pg_name (i := 5) sc_action_from.nd rfl (.inl rfl)) pgs_nil))))
  (pss_cons (ps_if (pt_cmpR op_eq (pv 3) (pv 2) (nomark _))
  (pss_one (ps_ret (pv 4)))
  pss_nil)
  (pss_one (ps_if (pt_val (pv 5))
  (pss_one (ps_ret pe_non))
  pss_nil))))
  (pss_one (ps_ret pe_non))), ?_⟩
  obtain ⟨a, vs, rfl, ha, la⟩ := dp_tup dv
  have lv := dpa_lenM la
  walk_at "z"
  refine ⟨_, rfl, ?_⟩
  walk_at "z"
  refine Tg.z_slA ha fun p H1 s1 h1 => ?_
  rw [cut_from (by omega)] at h1
  have l1 := dpa_drop i (dp_monoA s1 la)
  rw [← List.map_drop] at l1
  refine z_forTT h1 (fun j σ' H' => H' = H1 ∧ (∃ x3 x4 x5, σ' = [some (.ref a), some (.int (i : Int)), some (.int right), x3, x4, x5]) ∧ firstA right (steps.drop i) = firstA right ((steps.drop i).drop j)) ⟨rfl, ⟨_, _, _, rfl⟩, rfl⟩ (fun j σ' H' _ h => by rw [h.1]; exact h1) ?_ ?_
  · rintro j x σ' H' hx ⟨rfl, ⟨x3, x4, x5, rfl⟩, e⟩
    obtain ⟨s, hs, dx⟩ := dpa_atM l1 hx
    obtain ⟨b, wa, rfl, sb, da⟩ := dp_stp dx
    rw [firstA_at hs] at e
    walk_at "z"
    refine z_if (fun c => ?_) (fun c => ?_)
    · walk_at "z"
      rw [if_pos c] at e
      refine q _ _ s1 ?_
      rw [e]
      exact da
    · rw [if_neg c] at e
      walk_at "z"
      refine z_ifB (fun c2 => ?_) (fun c2 => ?_)
      · walk_at "z"
        rw [if_pos c2] at e
        refine q _ _ s1 ?_
        rw [e]
        rfl
      · walk_at "z"
        rw [c2, if_neg (by decide)] at e
        exact ⟨rfl, ⟨_, _, _, rfl⟩, e⟩
  · rintro σ' H' ⟨rfl, ⟨x3, x4, x5, rfl⟩, e⟩
    walk_at "z"
    refine q _ _ s1 ?_
    have e2 : (steps.drop i).drop (vs.drop i).length = [] := List.drop_eq_nil_of_le (by rw [List.length_drop, List.length_drop]; omega)
    rw [e, e2]
    rfl
end
def LabOk (steps : List Stp) (labels : List (Int × Nat)) : Prop := ∀ l ∈ labels, l.2 ≤ steps.length
def sp_rule (K : PySem.W.Frag) : Sp := fun vs H Q _ => ∃ (v u : V) (steps : List Stp) (labels : List (Int × Nat)) (left right : Int), vs = [v, u, .int left, .int right] ∧ Dp K H v (stsT steps) ∧ Dp K H u (labT labels) ∧ LabOk steps labels ∧ ∀ w H', Same H H' → OptA K H' w (ruleF steps left right labels) → Q w H'
section
theorem ok_rule {P : Program} {w : World} {K : PySem.W.Frag} {mg : Str → Option Value} {base : Heap} {A : Nat → Addr} {D : Nat → FuncData} (T : Txt K mg A D) : FnOk P w K mg base (L2.CX P w) 2 (A 13) (D 13) ["steps", "labels", "left", "right"] (sp_rule K) := by
  refine T.F_rule.okX sc_rule (fun vs H Q E h => ?_) (fun cdv A' outer s H vs Q E hr h => ?_)
  · obtain ⟨v, u, steps, labels, left, right, rfl, _⟩ := h
    rfl
  obtain ⟨v, u, steps, labels, left, right, rfl, dv, du, ok, q⟩ := h
  refine ⟨_, (pss_cons (ps_for (passes_of rfl) rfl (pi_tup (pv 1)) (pg_tup (by rfl) (pgs_cons (pg_name (i := 4) sc_rule.nd rfl (.inl rfl)) (pgs_cons (pg_name (i := 5) sc_rule.nd rfl (.inl rfl)) pgs_nil)))
  (pss_one (ps_if (pt_cmpR op_eq (pv 4) (pv 2) (nomark _))
  (pss_one (ps_ret (pe_call (ok_action_from T) (hr.mono (by decide)) (by rfl) T.m_action_from T.F_action_from.kp T.b_action_from .nil (passes_call (takes_of rfl rfl rfl rfl) (fun _ _ _ _ h => h)) (pa_cons (pv 0) (pa_cons (pv 5) (pa_cons (pv 3) pa_nil))))))
  pss_nil)))
  (pss_one (ps_ret pe_non))), ?_⟩
  obtain ⟨a, vs, rfl, ha, la⟩ := dp_tup du
  have lv := dpa_lenM la
  walk_at "z"
  refine z_forTT ha (fun j σ' H' => H' = H ∧ (∃ x4 x5, σ' = [some v, some (.ref a), some (.int left), some (.int right), x4, x5]) ∧ ruleF steps left right labels = ruleF steps left right (labels.drop j)) ⟨rfl, ⟨_, _, rfl⟩, rfl⟩ (fun j σ' H' _ h => by rw [h.1]; exact ha) ?_ ?_
  · rintro j x σ' H' hx ⟨rfl, ⟨x4, x5, rfl⟩, e⟩
    obtain ⟨l, hl, dx⟩ := dpa_atM la hx
    obtain ⟨b, rfl, sb⟩ := dp_lab dx
    rw [ruleF_at hl] at e
    walk_at "z"
    refine z_if (fun c => ?_) (fun c => ?_)
    · walk_at "z"
      rw [if_pos c] at e
      rw [e] at q
      exact ⟨v, steps, l.2, right, rfl, dv, ok l (List.mem_of_getElem? hl), q⟩
    · rw [if_neg c] at e
      walk_at "z"
      exact ⟨rfl, ⟨_, _, rfl⟩, e⟩
  · rintro σ' H' ⟨rfl, ⟨x4, x5, rfl⟩, e⟩
    walk_at "z"
    refine q _ _ (fun _ _ z => z) ?_
    have e2 : labels.drop vs.length = [] := List.drop_eq_nil_of_le (by omega)
    rw [e, e2]
    rfl
end
/-! ### what remains of two neighbors -/
def appI (l r : Int) : Option Act → List Int × Int
  | some (.lig c ls rs a) => ((if ls then [l, c] else [c]) ++ (if rs then [r] else []), a)
  | _ => ([l, r], 1)
def sp_applied (K : PySem.W.Frag) : Sp := fun vs H Q _ => ∃ (l r : Int) (w : V) (o : Option Act), vs = [.int l, .int r, w] ∧ OptA K H w o ∧ ∀ t L H', Same H H' → H L = none → H' t = some (.tup [.ref L, .int (appI l r o).2]) → H' L = some (.lst ((appI l r o).1.map V.int)) → Q (.ref t) H'
section
theorem ok_applied {P : Program} {w : World} {K : PySem.W.Frag} {mg : Str → Option Value} {base : Heap} {A : Nat → Addr} {D : Nat → FuncData} (T : Txt K mg A D) : FnOk P w K mg base (L2.CX P w) 1 (A 17) (D 17) ["left", "right", "action"] (sp_applied K) := by
  refine T.F_applied.okX sc_applied (fun vs H Q E h => ?_) (fun cdv A' outer s H vs Q E hr h => ?_)
  · obtain ⟨l, r, w', o, rfl, _⟩ := h
    rfl
  obtain ⟨l, r, w', o, rfl, ho, q⟩ := h
  refine ⟨_, (pss_cons (ps_if (PW.pt (pw_or (pt_cmpR Z.op_isN1 (pv 2) pe_non (nomark _)) (pw_or1 (pt_cmpR op_eq (pe_ix ix_tup (pv 2) pe_int (fun _ _ => rfl)) pe_str (nomark _)))))
  (pss_one (ps_ret (pe_tup (pa_cons (pe_lst (pa_cons (pv 0) (pa_cons (pv 1) pa_nil))) (pa_cons pe_int pa_nil)))))
  pss_nil)
  (pss_cons (ps_asg (pv 2) (pg_tup (by rfl) (pgs_cons (pg_name (i := 3) sc_applied.nd rfl (.inl rfl)) (pgs_cons (pg_name (i := 4) sc_applied.nd rfl (.inl rfl)) (pgs_cons (pg_name (i := 5) sc_applied.nd rfl (.inl rfl)) (pgs_cons (pg_name (i := 6) sc_applied.nd rfl (.inl rfl)) (pgs_cons (pg_name (i := 7) sc_applied.nd rfl (.inl rfl)) pgs_nil)))))))
  (pss_cons (ps_set (i := 8) sc_applied.nd rfl (.inl rfl) (pe_lst (pa_cons (pv 4) pa_nil)))
  (pss_cons (ps_if (pt_val (pv 5))
  (pss_one (ps_set (i := 8) sc_applied.nd rfl (.inl rfl) (pe_lst (pa_cons (pv 0) (pa_cons (pv 4) pa_nil)))))
  pss_nil)
  (pss_cons (ps_if (pt_val (pv 6))
  (pss_one (ps_expr (pe_bm PySem.F.plainAttrs_list PySem.F.slot_list_append PySem.F.type_list_append mt_append (pv 8) (pa_cons (pv 1) pa_nil))))
  pss_nil)
  (pss_one (ps_ret (pe_tup (pa_cons (pv 8) (pa_cons (pv 7) pa_nil)))))))))), ?_⟩
  cases o with
  | none =>
    have ho : w' = .non := ho
    subst ho
    walk_at "z"
    intro L H1 f1 s1 h1
    walk_at "z"
    intro t H2 f2 s2 h2
    exact q t L H2 (s1.trans s2) f1 h2 (s2 _ _ h1)
  | some a =>
    cases a with
    | kern n =>
      obtain ⟨b, rfl, sb⟩ := dp_kern ho
      walk_at "z"
      refine z_eqS ?_
      walk_at "z"
      intro L H1 f1 s1 h1
      walk_at "z"
      intro t H2 f2 s2 h2
      exact q t L H2 (s1.trans s2) f1 h2 (s2 _ _ h1)
    | lig c ls rs n =>
      obtain ⟨b, rfl, sb⟩ := dp_lig ho
      walk_at "z"
      refine z_eq rfl ?_
      rw [decide_eq_false (by intro z; injection z with z; exact absurd z (by decide))]
      walk_at "z"
      intro L H1 f1 s1 h1
      walk_at "z"
      have ad : ∀ (t : Addr) (H' : Hp) (xs : List Int), (appI l r (some (Act.lig c ls rs n))).1 = xs → Same H H' → H' t = some (.tup [.ref L, .int n]) → H' L = some (.lst (xs.map V.int)) → Q (.ref t) H' := fun t H' xs e s e1 e2 => q t L H' s f1 e1 (by rw [e]; exact e2)
      cases ls with
      | false =>
        walk_at "z"
        cases rs with
        | false =>
          walk_at "z"
          intro t H2 f2 s2 h2
          exact ad t H2 [c] rfl (s1.trans s2) h2 (s2 _ _ h1)
        | true =>
          walk_at "z"
          refine z_bmL (fun R q => by walk_at "z"; exact q) h1 ?_
          walk_at "z"
          refine z_append h1 (by show 1 < 1000; decide) ?_
          walk_at "z"
          intro t H2 f2 s2 h2
          exact ad t H2 [c, r] rfl ((same_keep s1 f1).trans s2) h2 (s2 _ _ upd_same)
      | true =>
        walk_at "z"
        intro L2 H2 f2 s2 h2
        walk_at "z"
        have ad2 : ∀ (t : Addr) (H' : Hp) (xs : List Int), (appI l r (some (Act.lig c true rs n))).1 = xs → Same H H' → H' t = some (.tup [.ref L2, .int n]) → H' L2 = some (.lst (xs.map V.int)) → Q (.ref t) H' := fun t H' xs e s e1 e2 => q t L2 H' s (fresh_of s1 f2) e1 (by rw [e]; exact e2)
        have s12 := s1.trans s2
        cases rs with
        | false =>
          walk_at "z"
          intro t H3 f3 s3 h3
          exact ad2 t H3 [l, c] rfl (s12.trans s3) h3 (s3 _ _ h2)
        | true =>
          walk_at "z"
          refine z_bmL (fun R q => by walk_at "z"; exact q) h2 ?_
          walk_at "z"
          refine z_append h2 (by show 2 < 1000; decide) ?_
          walk_at "z"
          intro t H3 f3 s3 h3
          exact ad2 t H3 [l, c, r] rfl ((same_keep s12 (fresh_of s1 f2)).trans s3) h3 (s3 _ _ upd_same)
end
/-! ### the ends of pairs: what they are -/
abbrev Pr := Int × Int
abbrev RuleT := Int → Int → Option Act
def appP (R : RuleT) (p : Pr) : List Int × Int := appI p.1 p.2 (R p.1 p.2)
def itemsP (R : RuleT) (p : Pr) : List Int := (appP R p).1.drop (appP R p).2.toNat
/-- the rules over the codes C -/
structure WfR (R : RuleT) (C : List Int) : Prop where
  place : ∀ l r, 0 ≤ (appP R (l, r)).2 ∧ (appP R (l, r)).2.toNat < (appP R (l, r)).1.length
  few : ∀ l r, (appP R (l, r)).1.length ≤ 3
  mem : ∀ l r, l ∈ C → r ∈ C → ∀ x ∈ (appP R (l, r)).1, x ∈ C
theorem WfR.items {R : RuleT} {C : List Int} (w : WfR R C) (p : Pr) : ∃ h t, itemsP R p = h :: t ∧ t.length ≤ 2 := by
  obtain ⟨h0, h1⟩ := w.place p.1 p.2
  have h2 := w.few p.1 p.2
  cases h : itemsP R p with
  | nil =>
    have := congrArg List.length h
    unfold itemsP at this
    rw [List.length_drop] at this
    have h1 : (appP R p).2.toNat < (appP R p).1.length := h1
    have e : ([] : List Int).length = 0 := rfl
    omega
  | cons x r =>
    refine ⟨x, r, rfl, ?_⟩
    have := congrArg List.length h
    unfold itemsP at this
    rw [List.length_drop, List.length_cons] at this
    have h2 : (appP R p).1.length ≤ 3 := h2
    omega
theorem WfR.memI {R : RuleT} {C : List Int} (w : WfR R C) {p : Pr} (h1 : p.1 ∈ C) (h2 : p.2 ∈ C) {x : Int} (hx : x ∈ itemsP R p) : x ∈ C := w.mem p.1 p.2 h1 h2 x (List.mem_of_mem_drop hx)
def FoldE (E : Pr → Int → Prop) : Int → List Int → Int → Prop
  | h, [], e => e = h
  | h, y :: r, e => ∃ z, E (h, y) z ∧ FoldE E z r e
def EndN (R : RuleT) : Nat → Pr → Int → Prop
  | 0, _, _ => False
  | n + 1, p, e => ∃ h t, itemsP R p = h :: t ∧ FoldE (EndN R n) h t e
def End (R : RuleT) (p : Pr) (e : Int) : Prop := ∃ n, EndN R n p e
def Endless (R : RuleT) (p : Pr) : Prop := ∀ n e, ¬ EndN R n p e
theorem FoldE.mono {E F : Pr → Int → Prop} (h : ∀ p e, E p e → F p e) : ∀ {t : List Int} {x e : Int}, FoldE E x t e → FoldE F x t e
  | [], _, _, k => k
  | _ :: _, _, _, ⟨z, k1, k2⟩ => ⟨z, h _ _ k1, FoldE.mono h k2⟩
section
variable {R : RuleT}
theorem EndN.succ : ∀ {n : Nat} {p : Pr} {e : Int}, EndN R n p e → EndN R (n + 1) p e
  | n + 1, _, _, ⟨h, t, e1, k⟩ => ⟨h, t, e1, k.mono fun _ _ => EndN.succ⟩
theorem EndN.le {n m : Nat} (h : n ≤ m) {p : Pr} {e : Int} (k : EndN R n p e) : EndN R m p e := by
  obtain ⟨j, rfl⟩ := Nat.exists_eq_add_of_le h
  clear h
  induction j with
  | zero => exact k
  | succ j ih => exact ih.succ
theorem FoldE.det {E F : Pr → Int → Prop} (h : ∀ p e f, E p e → F p f → e = f) : ∀ {t : List Int} {x e f : Int}, FoldE E x t e → FoldE F x t f → e = f
  | [], _, _, _, a, b => a.trans b.symm
  | _ :: _, _, _, _, ⟨z, a1, a2⟩, ⟨y, b1, b2⟩ => by
    obtain rfl := h _ _ _ a1 b1
    exact FoldE.det h a2 b2
theorem EndN.det : ∀ {n m : Nat} {p : Pr} {e f : Int}, EndN R n p e → EndN R m p f → e = f
  | n + 1, m + 1, _, _, _, ⟨h, t, e1, a⟩, ⟨h', t', e2, b⟩ => by
    rw [e1] at e2
    cases e2
    exact FoldE.det (E := EndN R n) (F := EndN R m) (fun _ _ _ a b => EndN.det a b) a b
/-- p needs q -/
def Need (R : RuleT) (p q : Pr) : Prop := ∀ n e, EndN R n p e → ∃ m, m < n ∧ ∃ f, EndN R m q f
theorem Need.trans {p q r : Pr} (a : Need R p q) (b : Need R q r) : Need R p r := fun n e h => by
  obtain ⟨m, h1, f, h2⟩ := a n e h
  obtain ⟨k, h3, h4⟩ := b m f h2
  exact ⟨k, Nat.lt_trans h3 h1, h4⟩
theorem Need.self {p : Pr} (a : Need R p p) : Endless R p := fun n => by
  induction n using Nat.strongRecOn with
  | ind n ih =>
    intro e h
    obtain ⟨m, h1, f, h2⟩ := a n e h
    exact ih m h1 f h2
theorem Need.endless {p q : Pr} (a : Need R p q) (b : Endless R q) : Endless R p := fun n e h => by
  obtain ⟨m, h1, f, h2⟩ := a n e h
  exact b m f h2
/-! ### what is known so far -/
abbrev MapT := Pr → Option (Option Int)
def folM (M : MapT) : Int → List Int → Option Int × Option Pr
  | h, [] => (some h, none)
  | h, y :: r => match M (h, y) with
    | none => (none, some (h, y))
    | some none => (none, none)
    | some (some z) => folM M z r
def Right (R : RuleT) (M : MapT) : Prop := ∀ q z, M q = some (some z) → End R q z
theorem fol_done {M : MapT} (g : Right R M) : ∀ {t : List Int} {h e : Int}, folM M h t = (some e, none) → ∃ n, FoldE (EndN R n) h t e
  | [], h, e, k => ⟨0, by cases k; rfl⟩
  | y :: r, h, e, k => by
    unfold folM at k
    cases c : M (h, y) with
    | none => rw [c] at k; cases k
    | some o =>
      cases o with
      | none => rw [c] at k; cases k
      | some z =>
        rw [c] at k
        obtain ⟨n, h1⟩ := g _ _ c
        obtain ⟨m, h2⟩ := fol_done g k
        exact ⟨n + m, z, h1.le (Nat.le_add_right _ _), h2.mono fun _ _ => EndN.le (Nat.le_add_left _ _)⟩
theorem fol_need {M : MapT} (g : Right R M) {q : Pr} : ∀ {t : List Int} {h : Int}, folM M h t = (none, some q) → M q = none ∧ ∀ n e, FoldE (EndN R n) h t e → ∃ f, EndN R n q f
  | [], h, k => by cases k
  | y :: r, h, k => by
    unfold folM at k
    cases c : M (h, y) with
    | none =>
      rw [c] at k
      cases k
      exact ⟨c, fun n e ⟨z, h1, _⟩ => ⟨z, h1⟩⟩
    | some o =>
      cases o with
      | none => rw [c] at k; cases k
      | some z =>
        rw [c] at k
        obtain ⟨h1, h2⟩ := fol_need g k
        refine ⟨h1, fun n e ⟨z', h3, h4⟩ => ?_⟩
        obtain ⟨m, h5⟩ := g _ _ c
        obtain rfl := h3.det h5
        exact h2 n e h4
theorem fol_none {M : MapT} (g : Right R M) : ∀ {t : List Int} {h : Int}, folM M h t = (none, none) → ∃ q, M q = some none ∧ ∀ n e, FoldE (EndN R n) h t e → ∃ f, EndN R n q f
  | [], h, k => by cases k
  | y :: r, h, k => by
    unfold folM at k
    cases c : M (h, y) with
    | none => rw [c] at k; cases k
    | some o =>
      cases o with
      | none => exact ⟨_, c, fun n e ⟨z, h1, _⟩ => ⟨z, h1⟩⟩
      | some z =>
        rw [c] at k
        obtain ⟨q, h1, h2⟩ := fol_none g k
        refine ⟨q, h1, fun n e ⟨z', h3, h4⟩ => ?_⟩
        obtain ⟨m, h5⟩ := g _ _ c
        obtain rfl := h3.det h5
        exact h2 n e h4
theorem fol_cases {M : MapT} : ∀ {t : List Int} {h : Int}, (∃ e, folM M h t = (some e, none)) ∨ (∃ q, folM M h t = (none, some q)) ∨ folM M h t = (none, none)
  | [], h => .inl ⟨h, rfl⟩
  | y :: r, h => by
    unfold folM
    cases c : M (h, y) with
    | none => exact .inr (.inl ⟨_, rfl⟩)
    | some o =>
      cases o with
      | none => exact .inr (.inr rfl)
      | some z => exact fol_cases
theorem fol_mem {M : MapT} {C : List Int} (g : ∀ q z, M q = some (some z) → z ∈ C) : ∀ {t : List Int} {h : Int}, h ∈ C → (∀ x ∈ t, x ∈ C) → (∀ e, folM M h t = (some e, none) → e ∈ C) ∧ ∀ q, folM M h t = (none, some q) → q.1 ∈ C ∧ q.2 ∈ C
  | [], h, m, _ => ⟨fun e k => (by cases k; exact m), fun q k => (by cases k)⟩
  | y :: r, h, m, mt => by
    unfold folM
    cases c : M (h, y) with
    | none => exact ⟨fun e k => (by cases k), fun q k => (by cases k; exact ⟨m, mt y (.head _)⟩)⟩
    | some o =>
      cases o with
      | none => exact ⟨fun e k => (by cases k), fun q k => (by cases k)⟩
      | some z => exact fol_mem g (g _ _ c) fun x hx => mt x (.tail _ hx)
/-- the pairs of st, the last one first, are looked for -/
structure Lok (R : RuleT) (M : MapT) (st : List Pr) : Prop where
  right : Right R M
  shut : ∀ q, M q = some none → q ∈ st ∨ Endless R q
  open_ : ∀ q ∈ st, M q = some none
  chain : st.Pairwise fun a b => Need R b a
  nodup : st.Nodup
def putM (M : MapT) (p : Pr) (o : Option Int) : MapT := fun q => if q = p then some o else M q
theorem Lok.start {M : MapT} (k : Lok R M []) {p : Pr} (h : M p = Option.none) : Lok R (putM M p Option.none) [p] := by
  refine ⟨fun q z e => ?_, fun q e => ?_, fun q hq => ?_, List.pairwise_singleton _ _, by simp⟩
  · unfold putM at e
    split at e
    · cases e
    · exact k.right q z e
  · unfold putM at e
    split at e
    · rename_i c
      exact .inl (by rw [c]; simp)
    · exact (k.shut q e).elim (fun z => nomatch z) .inr
  · rw [List.mem_singleton.mp hq]
    unfold putM
    rw [if_pos rfl]
theorem need_of {M : MapT} {p q : Pr} {h : Int} {t : List Int} (e : itemsP R p = h :: t) (k : ∀ n e, FoldE (EndN R n) h t e → ∃ f, EndN R n q f) : Need R p q := by
  intro n x hx
  cases n with
  | zero => cases hx
  | succ n =>
    obtain ⟨h', t', e', f⟩ := hx
    rw [e] at e'
    cases e'
    exact ⟨n, Nat.lt_succ_self _, k n x f⟩
theorem Lok.push {M : MapT} {p : Pr} {st : List Pr} {h : Int} {t : List Int} {q : Pr} (k : Lok R M (p :: st)) (e : itemsP R p = h :: t) (f : folM M h t = (Option.none, some q)) : Lok R (putM M q Option.none) (q :: p :: st) := by
  obtain ⟨h1, h2⟩ := fol_need k.right f
  have np := need_of (M := M) e h2
  have nq : ∀ x ∈ p :: st, x ≠ q := fun x hx z => by
    have := k.open_ x hx
    rw [z, h1] at this
    cases this
  refine ⟨fun x z e => ?_, fun x e => ?_, fun x hx => ?_, List.pairwise_cons.mpr ⟨fun b hb => ?_, k.chain⟩, List.nodup_cons.mpr ⟨fun z => nq q z rfl, k.nodup⟩⟩
  · unfold putM at e
    split at e
    · cases e
    · exact k.right x z e
  · unfold putM at e
    split at e
    · rename_i c
      exact .inl (by rw [c]; exact .head _)
    · exact (k.shut x e).elim (fun z => .inl (.tail _ z)) .inr
  · unfold putM
    split
    · rfl
    · rename_i c
      exact k.open_ x ((List.mem_cons.mp hx).elim (fun z => absurd z c) fun z => z)
  · rcases List.mem_cons.mp hb with rfl | hb
    · exact np
    · exact ((List.pairwise_cons.mp k.chain).1 b hb).trans np
theorem Lok.pop {M : MapT} {p : Pr} {st : List Pr} {h : Int} {t : List Int} {z : Int} (k : Lok R M (p :: st)) (e : itemsP R p = h :: t) (f : folM M h t = (some z, Option.none)) : Lok R (putM M p (some z)) st := by
  obtain ⟨n, h1⟩ := fol_done k.right f
  have np : p ∉ st := (List.nodup_cons.mp k.nodup).1
  refine ⟨fun x y e2 => ?_, fun x e => ?_, fun x hx => ?_, (List.pairwise_cons.mp k.chain).2, (List.nodup_cons.mp k.nodup).2⟩
  · unfold putM at e2
    split at e2
    · rename_i c
      cases e2
      rw [c]
      exact ⟨n + 1, h, t, e, h1⟩
    · exact k.right x y e2
  · unfold putM at e
    split at e
    · cases e
    · rename_i c
      exact (k.shut x e).elim (fun z => (List.mem_cons.mp z).elim (fun z => absurd z c) .inl) .inr
  · unfold putM
    rw [if_neg (fun z => np (by rw [← z]; exact hx))]
    exact k.open_ x (.tail _ hx)
theorem Lok.drop {M : MapT} {p : Pr} {st : List Pr} {h : Int} {t : List Int} (k : Lok R M (p :: st)) (e : itemsP R p = h :: t) (f : folM M h t = (Option.none, Option.none)) : Lok R (putM M p Option.none) st := by
  obtain ⟨q, h1, h2⟩ := fol_none k.right f
  have np := need_of (M := M) e h2
  have en : Endless R p := by
    rcases k.shut q h1 with m | m
    · rcases List.mem_cons.mp m with rfl | m
      · exact np.self
      · exact (np.trans ((List.pairwise_cons.mp k.chain).1 q m)).self
    · exact np.endless m
  have ne : p ∉ st := (List.nodup_cons.mp k.nodup).1
  have ep : M p = some Option.none := k.open_ p (.head _)
  have eM : putM M p Option.none = M := funext fun x => by
    unfold putM
    split
    · rename_i c
      rw [c, ep]
    · rfl
  rw [eM]
  refine ⟨k.right, fun x e => ?_, fun x hx => k.open_ x (.tail _ hx), (List.pairwise_cons.mp k.chain).2, (List.nodup_cons.mp k.nodup).2⟩
  rcases k.shut x e with m | m
  · rcases List.mem_cons.mp m with rfl | m
    · exact .inr en
    · exact .inl m
  · exact .inr m
end
/-! ### the dict of the ends -/
abbrev Kv := List (List L2.Key × V)
def kP (p : Pr) : List L2.Key := [Sum.inl p.1, Sum.inl p.2]
theorem kP_inj {p q : Pr} (h : kP p = kP q) : p = q := by
  unfold kP at h
  injection h with h1 h2
  injection h2 with h2 _
  injection h1 with h1
  injection h2 with h2
  exact Prod.ext h1 h2
def decV : V → Option Int
  | .int e => some e
  | _ => none
def encV : Option Int → V
  | some e => .int e
  | none => .non
theorem dec_enc (o : Option Int) : decV (encV o) = o := by cases o <;> rfl
def mapD (kvs : Kv) : MapT := fun p => (valV kvs (kP p)).map decV
structure KvOk (C : List Int) (kvs : Kv) : Prop where
  nodup : (kvs.map (·.1)).Nodup
  mem : ∀ kv ∈ kvs, ∃ p : Pr, kv.1 = kP p ∧ p.1 ∈ C ∧ p.2 ∈ C ∧ ∃ o, kv.2 = encV o ∧ ∀ e, o = some e → e ∈ C
theorem nodup_len {α : Type} [DecidableEq α] : ∀ {xs ys : List α}, xs.Nodup → (∀ x ∈ xs, x ∈ ys) → xs.length ≤ ys.length
  | [], _, _, _ => Nat.zero_le _
  | x :: r, ys, nd, h => by
    have hx := h x (.head _)
    have := nodup_len (ys := ys.erase x) (List.nodup_cons.mp nd).2 fun y hy => (List.mem_erase_of_ne (fun z => (List.nodup_cons.mp nd).1 (by rw [← z]; exact hy))).mpr (h y (.tail _ hy))
    rw [List.length_erase_of_mem hx] at this
    have := List.length_pos_of_mem hx
    rw [List.length_cons]
    omega
def allP (C : List Int) : List (List L2.Key) := C.flatMap fun l => C.map fun r => kP (l, r)
theorem allP_len (C : List Int) : (allP C).length = C.length * C.length := by
  unfold allP
  rw [List.length_flatMap]
  have : ∀ D : List Int, (D.map fun l => (C.map fun r => kP (l, r)).length).sum = D.length * C.length := by
    intro D
    induction D with
    | nil => simp
    | cons d r ih => rw [List.map_cons, List.sum_cons, ih, List.length_map, List.length_cons, Nat.succ_mul, Nat.add_comm]
  exact this C
theorem KvOk.len {C : List Int} {kvs : Kv} (h : KvOk C kvs) : kvs.length ≤ C.length * C.length := by
  rw [← allP_len, ← List.length_map (f := (·.1)) (as := kvs)]
  refine nodup_len h.nodup fun k hk => ?_
  obtain ⟨kv, hkv, rfl⟩ := List.mem_map.mp hk
  obtain ⟨p, e, h1, h2, _⟩ := h.mem kv hkv
  rw [e]
  exact List.mem_flatMap.mpr ⟨p.1, h1, List.mem_map.mpr ⟨p.2, h2, rfl⟩⟩
theorem KvOk.val {C : List Int} {kvs : Kv} (h : KvOk C kvs) {k : List L2.Key} {v : V} (e : valV kvs k = some v) : ∃ o, v = encV o ∧ ∀ e, o = some e → e ∈ C := by
  unfold valV at e
  cases c : kvs.find? fun kv => decide (kv.1 = k) with
  | none => rw [c] at e; cases e
  | some kv =>
    rw [c] at e
    cases e
    obtain ⟨_, _, _, _, o⟩ := h.mem kv (List.mem_of_find?_eq_some c)
    exact o
theorem KvOk.at_ {C : List Int} {kvs : Kv} (h : KvOk C kvs) {p : Pr} {v : V} (e : valV kvs (kP p) = some v) : ∃ o, v = encV o ∧ mapD kvs p = some o ∧ ∀ e, o = some e → e ∈ C := by
  obtain ⟨o, rfl, m⟩ := h.val e
  refine ⟨o, rfl, ?_, m⟩
  unfold mapD
  rw [e]
  show some (decV (encV o)) = _
  rw [dec_enc]
theorem mapD_put (kvs : Kv) (p : Pr) (o : Option Int) : mapD (putK kvs (kP p) (encV o)) = putM (mapD kvs) p o := funext fun q => by
  unfold mapD putM
  rw [valV_put]
  by_cases c : q = p
  · rw [if_pos c, if_pos (by rw [c])]
    show some (decV (encV o)) = _
    rw [dec_enc]
  · rw [if_neg c, if_neg (fun z => c (kP_inj z))]
theorem keys_put (kvs : Kv) (k : List L2.Key) (v : V) : (putK kvs k v).map (·.1) = if (valV kvs k).isSome then kvs.map (·.1) else kvs.map (·.1) ++ [k] := by
  rw [← valV_any]
  unfold putK
  split
  · rw [List.map_map]
    refine List.map_congr_left fun kv _ => ?_
    show (if kv.1 = k then (kv.1, v) else kv).1 = kv.1
    split <;> rfl
  · rw [List.map_append]
    rfl
theorem mem_put {kvs : Kv} {k : List L2.Key} {v : V} {kv : List L2.Key × V} (h : kv ∈ putK kvs k v) : kv ∈ kvs ∨ kv = (k, v) := by
  unfold putK at h
  split at h
  · obtain ⟨x, hx, e⟩ := List.mem_map.mp h
    split at e
    · rename_i c
      right
      rw [← e, c]
    · left
      rw [← e]
      exact hx
  · rcases List.mem_append.mp h with h | h
    · exact .inl h
    · exact .inr (List.mem_singleton.mp h)
theorem KvOk.put {C : List Int} {kvs : Kv} (h : KvOk C kvs) {p : Pr} {o : Option Int} (h1 : p.1 ∈ C) (h2 : p.2 ∈ C) (ho : ∀ e, o = some e → e ∈ C) : KvOk C (putK kvs (kP p) (encV o)) := by
  refine ⟨?_, fun kv hkv => ?_⟩
  · rw [keys_put]
    split
    · exact h.nodup
    · rename_i c
      refine List.nodup_append.mpr ⟨h.nodup, by simp, fun a ha b hb => ?_⟩
      rw [List.mem_singleton.mp hb]
      rintro rfl
      apply c
      obtain ⟨kv, hkv, e⟩ := List.mem_map.mp ha
      rw [← valV_any]
      exact List.any_eq_true.mpr ⟨kv, hkv, by simpa using e⟩
  · rcases mem_put hkv with m | rfl
    · exact h.mem kv m
    · exact ⟨p, rfl, h1, h2, o, rfl, ho⟩
theorem len_put_new {kvs : Kv} {p : Pr} {v : V} (h : mapD kvs p = none) : (putK kvs (kP p) v).length = kvs.length + 1 := by
  unfold mapD at h
  have e : valV kvs (kP p) = none := by
    cases c : valV kvs (kP p) with
    | none => rfl
    | some v => rw [c] at h; cases h
  rw [putK_new v e, List.length_append]
  rfl
theorem len_put_old {kvs : Kv} {p : Pr} {v : V} {o : Option Int} (h : mapD kvs p = some o) : (putK kvs (kP p) v).length = kvs.length := by
  have k := congrArg List.length (keys_put kvs (kP p) v)
  unfold mapD at h
  have e : (valV kvs (kP p)).isSome = true := by
    cases c : valV kvs (kP p) with
    | none => rw [c] at h; cases h
    | some v => rfl
  rw [if_pos e, List.length_map, List.length_map] at k
  exact k
/-! ### the ends of pairs: the program -/
def ResF (H : Hp) : Option Int × Option Pr → V → V → Prop
  | (o, none), w1, w2 => w1 = encV o ∧ w2 = .non
  | (_, some q), w1, w2 => w1 = .non ∧ ∃ b, w2 = .ref b ∧ H b = some (.tup ((kP q).map kV))
theorem atI_last (xs : List V) (x : V) : atI (xs ++ [x]) (-1) = some x := by
  unfold atI
  have : ixN (xs ++ [x]).length (-1) = some xs.length := by
    unfold ixN
    simp
    omega
  rw [this]
  simp
theorem folM_at {M : MapT} {h : Int} {t : List Int} {j : Nat} {y : Int} (e : t[j]? = some y) : folM M h (t.drop j) = match M (h, y) with
    | none => (none, some (h, y))
    | some none => (none, none)
    | some (some z) => folM M z (t.drop (j + 1)) := by
  obtain ⟨hj, e⟩ := List.getElem?_eq_some_iff.mp e
  rw [List.drop_eq_getElem_cons hj, e]
  rfl
def sp_followed (K : PySem.W.Frag) : Sp := fun vs H Q _ => ∃ (L d : Addr) (h : Int) (t C : List Int) (kvs : Kv), vs = [.ref L, .ref d] ∧ H L = some (.lst ((h :: t).map V.int)) ∧ H d = some (.dT kvs) ∧ KvOk C kvs ∧ t.length ≤ 500 ∧
  ∀ tp w1 w2 H', Same H H' → H' tp = some (.tup [w1, w2]) → ResF H' (folM (mapD kvs) h t) w1 w2 → Q (.ref tp) H'
theorem mapD_none {kvs : Kv} {p : Pr} (h : valV kvs (kP p) = none) : mapD kvs p = none := by
  unfold mapD
  rw [h]
  rfl
section
theorem ok_followed {P : Program} {w : World} {K : PySem.W.Frag} {mg : Str → Option Value} {base : Heap} {A : Nat → Addr} {D : Nat → FuncData} (T : Txt K mg A D) : FnOk P w K mg base (L2.CX P w) 1 (A 20) (D 20) ["items", "ends"] (sp_followed K) := by
  refine T.F_followed.okX sc_followed (fun vs H Q E h => ?_) (fun cdv A' outer s H vs Q E hr h => ?_)
  · obtain ⟨L, d, h, t, C, kvs, rfl, _⟩ := h
    rfl
  obtain ⟨L, d, h, t, C, kvs, rfl, hL, hd, ok, lt, q⟩ := h
  refine ⟨_, (pss_cons (ps_set (i := 2) sc_followed.nd rfl (.inl rfl) (pe_ix ix_list (pv 0) pe_int (fun _ _ => rfl)))
  (pss_cons (ps_for (passes_of rfl) rfl (pi_list (pe_slice sl_list (pv 0) (po_some pe_int) po_none)) (pg_name (i := 3) sc_followed.nd rfl (.inl rfl))
  (pss_cons (ps_if (pt_cmp (pc_dnotin (Nat.lt_of_le_of_lt (Nat.add_le_add_left (by decide) _) hr.units) (pe_tup (pa_cons (pv 2) (pa_cons (pv 3) pa_nil))) (pv 1)))
  (pss_one (ps_ret (pe_tup (pa_cons pe_non (pa_cons (pe_tup (pa_cons (pv 2) (pa_cons (pv 3) pa_nil))) pa_nil)))))
  pss_nil)
  (pss_cons (ps_set (i := 2) sc_followed.nd rfl (.inl rfl) (pe_dget (Nat.lt_of_le_of_lt (Nat.add_le_add_left (by decide) _) hr.units) (pv 1) (pe_tup (pa_cons (pv 2) (pa_cons (pv 3) pa_nil))) (fun _ _ => rfl)))
  (pss_one (ps_if (pt_cmpR Z.op_isN1 (pv 2) pe_non (nomark _))
  (pss_one (ps_ret (pe_tup (pa_cons pe_non (pa_cons pe_non pa_nil)))))
  pss_nil)))))
  (pss_one (ps_ret (pe_tup (pa_cons (pv 2) (pa_cons pe_non pa_nil))))))), ?_⟩
  walk_at "z"
  refine z_ixL (.inl (.inl hL)) (v := .int h) (show atI _ ((0 : Nat) : Int) = _ from atI_nat rfl) ?_
  walk_at "z"
  refine ⟨_, rfl, ?_⟩
  walk_at "z"
  refine z_slL (.inl (.inl hL)) (ys := t.map V.int) (cut_from (k := 1) (by simp)) fun p H1 f1 s1 h1 => ?_
  have hd1 := s1 _ _ hd
  refine z_forL (fun R q => q) (.inl (.inl h1)) (fun j σ' H' => Same H1 H' ∧ ∃ (z : Int) (x3 : Option V), σ' = [some (.ref L), some (.ref d), some (.int z), x3] ∧ folM (mapD kvs) h t = folM (mapD kvs) z (t.drop j)) ⟨fun _ _ e => e, h, _, rfl, rfl⟩ (fun j σ' H' _ hh => .inl (.inl (hh.1 _ _ h1))) ?_ ?_
  · rintro j x σ' H2 hx ⟨s2, z, x3, rfl, e⟩
    rw [List.getElem?_map] at hx
    cases hy : t[j]? with
    | none => rw [hy] at hx; cases hx
    | some y =>
      rw [hy] at hx
      cases hx
      rw [folM_at hy] at e
      walk_at "z"
      intro b H3 f3 s3 h3
      walk_at "z"
      have s13 := s2.trans s3
      have ed := s13 _ _ hd1
      refine Li.z_notIn (DGet.t (k := kP (z, y)) ed h3) ?_
      have h3' : H3 b = some (.tup ((kP (z, y)).map kV)) := h3
      cases c : valV kvs (kP (z, y)) with
      | none =>
        walk_at "z"
        intro b2 H4 f4 s4 h4
        walk_at "z"
        intro tp H5 f5 s5 h5
        rw [mapD_none c] at e
        refine q tp _ _ H5 ((s1.trans s13).trans (s4.trans s5)) h5 ?_
        rw [e]
        exact ⟨rfl, b2, rfl, s5 _ _ h4⟩
      | some v =>
        obtain ⟨o, rfl, em, _⟩ := ok.at_ c
        walk_at "z"
        intro b2 H4 f4 s4 h4
        walk_at "z"
        refine Li.z_get (v := encV o) (by rw [← c]; exact DGet.t (s4 _ _ ed) h4) ?_
        walk_at "z"
        rw [em] at e
        cases o with
        | none =>
          show rIsN .non .non _ _
          walk_at "z"
          intro tp H5 f5 s5 h5
          refine q tp _ _ H5 ((s1.trans s13).trans (s4.trans s5)) h5 ?_
          rw [e]
          exact ⟨rfl, rfl⟩
        | some z' =>
          show rIsN (.int z') .non _ _
          refine z_isNI ?_
          walk_at "z"
          exact ⟨s13.trans s4, z', _, rfl, e⟩
  · rintro σ' H2 ⟨s2, z, x3, rfl, e⟩
    walk_at "z"
    intro tp H5 f5 s5 h5
    refine q tp _ _ H5 (s1.trans (s2.trans s5)) h5 ?_
    have e2 : t.drop (t.map V.int).length = [] := List.drop_eq_nil_of_le (by rw [List.length_map]; omega)
    rw [e, e2]
    exact ⟨rfl, rfl⟩
end
/-- the references of the stack -/
def StkAt (H : Hp) : List Addr → List Pr → Prop
  | [], [] => True
  | a :: r, p :: s => H a = some (.tup ((kP p).map kV)) ∧ StkAt H r s
  | _, _ => False
theorem StkAt.keep {H H' : Hp} (k : ∀ a xs, H a = some (.tup xs) → H' a = some (.tup xs)) : ∀ {as : List Addr} {ps : List Pr}, StkAt H as ps → StkAt H' as ps
  | [], [], _ => trivial
  | _ :: _, _ :: _, h => ⟨k _ _ h.1, StkAt.keep k h.2⟩
  | [], _ :: _, h => h.elim
  | _ :: _, [], h => h.elim
theorem StkAt.len {H : Hp} : ∀ {as : List Addr} {ps : List Pr}, StkAt H as ps → as.length = ps.length
  | [], [], _ => rfl
  | _ :: r, _ :: s, h => by rw [List.length_cons, List.length_cons, StkAt.len h.2]
  | [], _ :: _, h => h.elim
  | _ :: _, [], h => h.elim
structure Rules (K : PySem.W.Frag) (H : Hp) (v u : V) (steps : List Stp) (labels : List (Int × Nat)) (C : List Int) : Prop where
  dv : Dp K H v (stsT steps)
  du : Dp K H u (labT labels)
  ok : LabOk steps labels
  wf : WfR (fun l r => ruleF steps l r labels) C
  few : C.length ≤ 20
  fs : steps.length ≤ 60
  fl : labels.length ≤ 60
  cs : ∀ s ∈ steps, s.right ∈ C
  cl : ∀ l ∈ labels, l.1 ∈ C
theorem actD_tup (a : Act) : tupOnly (actD a) = true := by cases a <;> rfl
theorem sts_tup (ss : List Stp) : tupOnly (stsT ss) = true := by
  show tupOnlyA (ss.map stpD) = true
  induction ss with
  | nil => rfl
  | cons s r ih =>
    show ((true && (tupOnly (actD s.act) && (true && true))) && tupOnlyA (r.map stpD)) = true
    rw [ih, actD_tup]
    rfl
theorem lab_tup (ls : List (Int × Nat)) : tupOnly (labT ls) = true := by
  show tupOnlyA (ls.map labD) = true
  induction ls with
  | nil => rfl
  | cons s r ih =>
    show (tupOnly (labD s) && tupOnlyA (r.map labD)) = true
    rw [ih]
    rfl
def sp_find_ends (K : PySem.W.Frag) : Sp := fun vs H Q _ => ∃ (v u : V) (b d : Addr) (p : Pr) (steps : List Stp) (labels : List (Int × Nat)) (C : List Int) (kvs : Kv), vs = [v, u, .ref b, .ref d] ∧ Rules K H v u steps labels C ∧ H b = some (.tup ((kP p).map kV)) ∧ p.1 ∈ C ∧ p.2 ∈ C ∧ H d = some (.dT kvs) ∧ KvOk C kvs ∧ Lok (fun l r => ruleF steps l r labels) (mapD kvs) [] ∧
  ∀ kvs' H', Kp d H H' → H' d = some (.dT kvs') → KvOk C kvs' → Lok (fun l r => ruleF steps l r labels) (mapD kvs') [] → (∀ q, (mapD kvs q).isSome → (mapD kvs' q).isSome) → (mapD kvs' p).isSome → Q .non H'
theorem Rules.tk {K : PySem.W.Frag} {H H' : Hp} {v u : V} {steps : List Stp} {labels : List (Int × Nat)} {C : List Int} (h : Rules K H v u steps labels C) (k : TK H H') : Rules K H' v u steps labels C := ⟨dp_tk k (sts_tup _) h.dv, dp_tk k (lab_tup _) h.du, h.ok, h.wf, h.few, h.fs, h.fl, h.cs, h.cl⟩
def muF (d W : Addr) : L2.St → Hp → Nat := fun _ H => match H d, H W with
  | some (.dT kvs), some (.lst ws) => 2 * (400 - kvs.length) + ws.length
  | _, _ => 0
theorem muF_at {d W : Addr} {σ : L2.St} {H : Hp} {kvs : Kv} {ws : List V} (h1 : H d = some (.dT kvs)) (h2 : H W = some (.lst ws)) : muF d W σ H = 2 * (400 - kvs.length) + ws.length := by
  unfold muF
  rw [h1, h2]
theorem sq20 {n : Nat} (h : n ≤ 20) : n * n ≤ 400 := Nat.mul_le_mul h h
theorem some_put {M : MapT} {p q : Pr} {o : Option Int} (h : (M q).isSome) : (putM M p o q).isSome := by
  unfold putM
  split
  · rfl
  · exact h
theorem some_at (M : MapT) (p : Pr) (o : Option Int) : (putM M p o p).isSome := by
  unfold putM
  rw [if_pos rfl]
  rfl
theorem cut_items {R : RuleT} {C : List Int} (w : WfR R C) (y : Pr) : cutV ((appP R y).1.map V.int) (some (appP R y).2) none = (itemsP R y).map V.int := by
  obtain ⟨h0, h1⟩ := w.place y.1 y.2
  have h0 : 0 ≤ (appP R y).2 := h0
  have h1 : (appP R y).2.toNat < (appP R y).1.length := h1
  have e : (appP R y).2 = (((appP R y).2.toNat : Nat) : Int) := by omega
  rw [e, cut_from (by rw [List.length_map]; omega), ← List.map_drop]
  rfl
section
theorem ok_find_ends {P : Program} {w : World} {K : PySem.W.Frag} {mg : Str → Option Value} {base : Heap} {A : Nat → Addr} {D : Nat → FuncData} (T : Txt K mg A D) : FnOk P w K mg base (L2.CX P w) 3 (A 19) (D 19) ["steps", "labels", "pair", "ends"] (sp_find_ends K) := by
  refine T.F_find_ends.okX sc_find_ends (fun vs H Q E h => ?_) (fun cdv A' outer s H vs Q E hr h => ?_)
  · obtain ⟨v, u, b, d, p, steps, labels, C, kvs, rfl, _⟩ := h
    rfl
  obtain ⟨v, u, b, d, p, steps, labels, C, kvs, rfl, ru, hb, p1, p2, hd, ok, lk, q⟩ := h
  refine ⟨_, (pss_cons (ps_if (pt_cmp (pc_din (Nat.lt_of_le_of_lt (Nat.add_le_add_left (by decide) _) hr.units) (pv 2) (pv 3)))
  (pss_one ps_retN)
  pss_nil)
  (pss_cons (ps_dput (Nat.lt_of_le_of_lt (Nat.add_le_add_left (by decide) _) hr.units) (pv 3) (pv 2) pe_non rfl)
  (pss_cons (ps_set (i := 4) sc_find_ends.nd rfl (.inl rfl) (pe_lst (pa_cons (pv 2) pa_nil)))
  (pss_one (ps_while (passes_of rfl) (Z.pt_tru (pv 4) (by intro _; rfl))
  (pss_cons (ps_asg (pe_ix ix_list (pv 4) (pe_un un_neg pe_int) (fun _ _ => rfl)) (pg_tup (by rfl) (pgs_cons (pg_name (i := 5) sc_find_ends.nd rfl (.inl rfl)) (pgs_cons (pg_name (i := 6) sc_find_ends.nd rfl (.inl rfl)) pgs_nil))))
  (pss_cons (ps_asg (pe_call (ok_applied T) (hr.mono (by decide)) (by rfl) T.m_applied T.F_applied.kp T.b_applied .nil (passes_call (takes_of rfl rfl rfl rfl) (fun _ _ _ _ h => h)) (pa_cons (pv 5) (pa_cons (pv 6) (pa_cons (pe_call (ok_rule T) (hr.mono (by decide)) (by rfl) T.m_rule T.F_rule.kp T.b_rule .nil (passes_call (takes_of rfl rfl rfl rfl) (fun _ _ _ _ h => h)) (pa_cons (pv 0) (pa_cons (pv 1) (pa_cons (pv 5) (pa_cons (pv 6) pa_nil))))) pa_nil)))) (pg_tup (by rfl) (pgs_cons (pg_name (i := 7) sc_find_ends.nd rfl (.inl rfl)) (pgs_cons (pg_name (i := 8) sc_find_ends.nd rfl (.inl rfl)) pgs_nil))))
  (pss_cons (ps_asg (pe_call (ok_followed T) (hr.mono (by decide)) (by rfl) T.m_followed T.F_followed.kp T.b_followed .nil (passes_call (takes_of rfl rfl rfl rfl) (fun _ _ _ _ h => h)) (pa_cons (pe_slice sl_list (pv 7) (po_some (pv 8)) po_none) (pa_cons (pv 3) pa_nil))) (pg_tup (by rfl) (pgs_cons (pg_name (i := 9) sc_find_ends.nd rfl (.inl rfl)) (pgs_cons (pg_name (i := 10) sc_find_ends.nd rfl (.inl rfl)) pgs_nil))))
  (pss_one (ps_if (pt_cmpR Z.op_isN1 (pv 10) pe_non (nomark _))
  (pss_one (ps_dput (Nat.lt_of_le_of_lt (Nat.add_le_add_left (by decide) _) hr.units) (pv 3) (pe_bm0 PySem.F.plainAttrs_list PySem.F.slot_list_pop PySem.F.type_list_pop mt_pop (pv 4)) (pv 9) rfl))
  (pss_cons (ps_dput (Nat.lt_of_le_of_lt (Nat.add_le_add_left (by decide) _) hr.units) (pv 3) (pv 10) pe_non rfl)
  (pss_one (ps_expr (pe_bm PySem.F.plainAttrs_list PySem.F.slot_list_append PySem.F.type_list_append mt_append (pv 4) (pa_cons (pv 10) pa_nil))))))))))))))), ?_⟩
  walk_at "z"
  refine Li.z_in (DGet.t (k := kP p) hd hb) ?_
  walk_at "z"
  cases c : valV kvs (kP p) with
  | some o =>
    walk_at "z"
    refine q kvs H (fun _ _ _ e => e) hd ok lk (fun _ h => h) ?_
    unfold mapD
    rw [c]
    rfl
  | none =>
    walk_at "z"
    have lkv := ok.len
    have l20 := sq20 ru.few
    have hk : kvs.length < sizeLine := Nat.lt_of_le_of_lt (show kvs.length ≤ 400 by omega) (by decide)
    refine Li.z_put (DPut.t (k := kP p) hd hb hk) ?_
    have nbd : b ≠ d := ne_of hb hd (by intro z; cases z)
    have n0 : mapD kvs p = none := mapD_none c
    have k1 : Kp d H (upd H d (.dT (putK kvs (kP p) .non))) := fun x o n e => by rw [upd_ne n]; exact e
    have hd1 : upd H d (.dT (putK kvs (kP p) .non)) d = some (.dT (putK kvs (kP p) .non)) := upd_same
    have ok1 : KvOk C (putK kvs (kP p) .non) := ok.put (o := none) p1 p2 (fun _ e => by cases e)
    have eM1 : mapD (putK kvs (kP p) .non) = putM (mapD kvs) p none := mapD_put kvs p none
    have lk1 : Lok (fun l r => ruleF steps l r labels) (mapD (putK kvs (kP p) .non)) [p] := by rw [eM1]; exact lk.start n0
    have gr1 : ∀ q, (mapD kvs q).isSome → (mapD (putK kvs (kP p) .non) q).isSome := fun q h => by rw [eM1]; exact some_put h
    have sp1 : (mapD (putK kvs (kP p) .non) p).isSome := by rw [eM1]; exact some_at _ _ _
    generalize upd H d (.dT (putK kvs (kP p) .non)) = H1 at *
    generalize putK kvs (kP p) .non = kvs1 at *
    walk_at "z"
    intro W H2 fW s2 hW
    walk_at "z"
    have nWd : W ≠ d := (ne_of_none hd1 fW).symm
    have hW0 : H W = none := by
      cases e : H W with
      | none => rfl
      | some o =>
        rw [k1 _ _ nWd e] at fW
        cases fW
    refine z_while (fun σ' H' => ∃ (x5 x6 x7 x8 x9 x10 : Option V), σ' = [some v, some u, some (.ref b), some (.ref d), some (.ref W), x5, x6, x7, x8, x9, x10] ∧ Kp d H H' ∧ ∃ (ws : List Addr) (st : List Pr) (kvs' : Kv), H' W = some (.lst (ws.reverse.map V.ref)) ∧ StkAt H' ws st ∧ (∀ x ∈ st, x.1 ∈ C ∧ x.2 ∈ C) ∧ H' d = some (.dT kvs') ∧ KvOk C kvs' ∧
        Lok (fun l r => ruleF steps l r labels) (mapD kvs') st ∧ (∀ q, (mapD kvs q).isSome → (mapD kvs' q).isSome) ∧ (mapD kvs' p).isSome) (muF d W) ?_ ?_
    · exact ⟨_, _, _, _, _, _, rfl, k1.trans' (kp_of s2), [b], [p], kvs1, hW, ⟨s2 _ _ (k1 _ _ nbd hb), trivial⟩, fun x hx => by rw [List.mem_singleton.mp hx]; exact ⟨p1, p2⟩, s2 _ _ hd1, ok1, lk1, gr1, sp1⟩
    · rintro σ' H' ⟨x5, x6, x7, x8, x9, x10, rfl, kH, ws, st, kvs', hWs, hst, cst, hd', ok', lk', gr', sp'⟩
      walk_at "z"
      refine z_truL hWs ?_
      cases ws with
      | nil =>
        cases st with
        | cons _ _ => exact hst.elim
        | nil =>
          walk_at "z"
          refine z_wbF ?_
          walk_at "z"
          exact q kvs' H' kH hd' ok' lk' gr' sp'
      | cons a r =>
        cases st with
        | nil => exact hst.elim
        | cons y s =>
          have eW : ((a :: r).reverse.map V.ref) = r.reverse.map V.ref ++ [.ref a] := by rw [List.reverse_cons, List.map_append]; rfl
          have ne : (!((a :: r).reverse.map V.ref).isEmpty) = true := by rw [eW]; simp
          rw [ne]
          refine z_wbT ?_
          rw [eW] at hWs
          rw [muF_at hd' hWs]
          have hy := hst.1
          have cy := cst y (.head _)
          obtain ⟨t0, tl, eI, l2⟩ := ru.wf.items y
          have tkH : TK H H' := TK.kp kH hd (fun z => z)
          have ru' := ru.tk tkH
          walk_at "z"
          refine z_ixL (.inl (.inl hWs)) (atI_last _ _) ?_
          have hy' : H' a = some (.tup [.int y.1, .int y.2]) := hy
          walk_at "z"
          refine ⟨v, u, steps, labels, y.1, y.2, rfl, ru'.dv, ru'.du, ru.ok, fun w H3 s3 ho => ?_⟩
          walk_at "z"
          refine ⟨y.1, y.2, w, _, rfl, ho, fun t L H4 s4 fL h4 hL => ?_⟩
          walk_at "z"
          refine ⟨_, rfl, ?_⟩
          walk_at "z"
          refine z_slL (.inl (.inl hL)) (ys := (t0 :: tl).map V.int) (by rw [← eI]; exact cut_items ru.wf y) fun P5 H5 f5 s5 h5 => ?_
          walk_at "z"
          have s35 := s3.trans (s4.trans s5)
          refine ⟨P5, d, t0, tl, C, kvs', rfl, h5, s35 _ _ hd', ok', by omega, fun tp w1 w2 H6 s6 h6 res => ?_⟩
          walk_at "z"
          have s36 := s35.trans s6
          have hd6 := s36 _ _ hd'
          have hW6 := s36 _ _ hWs
          have ha6 := s36 _ _ hy
          have naW : a ≠ W := ne_of ha6 hW6 (by intro z; cases z)
          have nad : a ≠ d := ne_of ha6 hd6 (by intro z; cases z)
          have lkv' := ok'.len
          have hk' : kvs'.length < sizeLine := Nat.lt_of_le_of_lt (show kvs'.length ≤ 400 by omega) (by decide)
          have mI : ∀ x ∈ t0 :: tl, x ∈ C := fun x hx => ru.wf.memI cy.1 cy.2 (by rw [eI]; exact hx)
          have gv : ∀ q z, mapD kvs' q = some (some z) → z ∈ C := fun q z e => by
            unfold mapD at e
            cases c9 : valV kvs' (kP q) with
            | none => rw [c9] at e; cases e
            | some v9 =>
              rw [c9] at e
              obtain ⟨o, rfl, m⟩ := ok'.val c9
              injection e with e
              rw [dec_enc] at e
              exact m z e
          have fm := fol_mem (M := mapD kvs') (C := C) gv (mI t0 (.head _)) (fun x hx => mI x (.tail _ hx))
          have oy : mapD kvs' y = some none := lk'.open_ y (.head _)
          have done : ∀ o : Option Int, folM (mapD kvs') t0 tl = (o, none) → (∀ e, o = some e → e ∈ C) → ∃ kvs2, kvs2 = putK kvs' (kP y) (encV o) ∧ KvOk C kvs2 ∧ Lok (fun l r => ruleF steps l r labels) (mapD kvs2) s ∧ (∀ q, (mapD kvs q).isSome → (mapD kvs2 q).isSome) ∧ (mapD kvs2 p).isSome ∧ kvs2.length = kvs'.length := fun o fe mo => by
            refine ⟨_, rfl, ok'.put cy.1 cy.2 mo, ?_, fun q h => ?_, ?_, len_put_old oy⟩
            · rw [mapD_put]
              cases o with
              | none => exact lk'.drop eI fe
              | some z => exact lk'.pop eI fe
            · rw [mapD_put]
              exact some_put (gr' q h)
            · rw [mapD_put]
              exact some_put sp'
          have popped : ∀ (o : Option Int) (kvs2 : Kv), kvs2 = putK kvs' (kP y) (encV o) → KvOk C kvs2 → Lok (fun l r => ruleF steps l r labels) (mapD kvs2) s → (∀ q, (mapD kvs q).isSome → (mapD kvs2 q).isSome) → (mapD kvs2 p).isSome → kvs2.length = kvs'.length → ∀ H8, H8 = upd (upd H6 W (.lst (r.reverse.map V.ref))) d (.dT kvs2) →
              Kp d H H8 ∧ H8 W = some (.lst (r.reverse.map V.ref)) ∧ StkAt H8 r s ∧ H8 d = some (.dT kvs2) := fun o kvs2 e2 o2 l2 g2 p2 n2 H8 e8 => by
            subst e8
            have k9 : ∀ x o, x ≠ d → x ≠ W → H6 x = some o → upd (upd H6 W (.lst (r.reverse.map V.ref))) d (.dT kvs2) x = some o := fun x o n1 n2 e => by rw [upd_ne n1, upd_ne n2]; exact e
            refine ⟨fun x o n e => ?_, by rw [upd_ne nWd]; exact upd_same, ?_, upd_same⟩
            · refine k9 x o n (fun z => ?_) (s36 _ _ (kH _ _ n e))
              rw [z, hW0] at e
              cases e
            · refine StkAt.keep (fun x xs e => ?_) hst.2
              have e6 := s36 _ _ e
              exact k9 x _ (ne_of e6 hd6 (by intro z; cases z)) (ne_of e6 hW6 (by intro z; cases z)) e6
          rcases fol_cases (M := mapD kvs') (t := tl) (h := t0) with ⟨e, fe⟩ | ⟨y', fe⟩ | fe
          · rw [fe] at res
            obtain ⟨rfl, rfl⟩ := res
            walk_at "z"
            refine z_bm0L (fun R q => by walk_at "z"; exact q) hW6 ?_
            refine z_pop hW6 ?_
            have hd7 : upd H6 W (.lst (r.reverse.map V.ref)) d = some (.dT kvs') := by rw [upd_ne nWd.symm]; exact hd6
            refine Li.z_put (DPut.t (k := kP y) hd7 (by rw [upd_ne naW]; exact ha6) hk') ?_
            obtain ⟨kvs2, e2, o2, l2, g2, p2, n2⟩ := done (some e) fe (fun z h => by cases h; exact fm.1 e fe)
            rw [← e2]
            obtain ⟨m1, m2, m3, m4⟩ := popped (some e) kvs2 e2 o2 l2 g2 p2 n2 _ rfl
            refine ⟨⟨_, _, _, _, _, _, rfl, m1, r, s, kvs2, m2, m3, fun x hx => cst x (.tail _ hx), m4, o2, l2, g2, p2⟩, ?_⟩
            rw [muF_at m4 m2, n2, List.length_append, List.length_singleton]
            omega
          · rw [fe] at res
            obtain ⟨rfl, b2, rfl, h2⟩ := res
            walk_at "z"
            have fq := fm.2 y' fe
            have ny := (fol_need lk'.right fe).1
            refine Li.z_put (DPut.t (k := kP y') hd6 h2 hk') ?_
            have nb2d : b2 ≠ d := ne_of h2 hd6 (by intro z; cases z)
            have ok2 : KvOk C (putK kvs' (kP y') .non) := ok'.put (o := none) fq.1 fq.2 (fun _ e => by cases e)
            have eM2 : mapD (putK kvs' (kP y') .non) = putM (mapD kvs') y' none := mapD_put kvs' y' none
            have lk2 : Lok (fun l r => ruleF steps l r labels) (mapD (putK kvs' (kP y') .non)) (y' :: y :: s) := by rw [eM2]; exact lk'.push eI fe
            have gr2 : ∀ q, (mapD kvs q).isSome → (mapD (putK kvs' (kP y') .non) q).isSome := fun q h => by rw [eM2]; exact some_put (gr' q h)
            have sp2 : (mapD (putK kvs' (kP y') .non) p).isSome := by rw [eM2]; exact some_put sp'
            have ln2 : (putK kvs' (kP y') .non).length = kvs'.length + 1 := len_put_new ny
            generalize putK kvs' (kP y') .non = kvs2 at *
            have hW7 : upd H6 d (.dT kvs2) W = some (.lst (r.reverse.map V.ref ++ [.ref a])) := by rw [upd_ne nWd]; exact hW6
            walk_at "z"
            refine z_bmL (fun R q => by walk_at "z"; exact q) hW7 ?_
            walk_at "z"
            have lst := hst.2.len
            have lr : r.length ≤ 400 := by
              have l1 := lk2.nodup
              have : (y' :: y :: s).length ≤ kvs2.length := by
                rw [← List.length_map (f := (·.1)) (as := kvs2), ← List.length_map (f := kP) (as := y' :: y :: s)]
                refine nodup_len ?_ fun k hk => ?_
                · exact List.Pairwise.map _ (fun a b n z => n (kP_inj z)) l1
                · obtain ⟨x, hx, rfl⟩ := List.mem_map.mp hk
                  have o := lk2.open_ x hx
                  unfold mapD at o
                  cases c8 : valV kvs2 (kP x) with
                  | none => rw [c8] at o; cases o
                  | some v8 =>
                    unfold valV at c8
                    cases c7 : kvs2.find? fun kv => decide (kv.1 = kP x) with
                    | none => rw [c7] at c8; cases c8
                    | some kv =>
                      have := List.find?_some c7
                      exact List.mem_map.mpr ⟨kv, List.mem_of_find?_eq_some c7, by simpa using this⟩
              have := ok2.len
              rw [List.length_cons, List.length_cons] at *
              omega
            refine z_append hW7 (by rw [List.length_append, List.length_map, List.length_reverse, List.length_singleton]; omega) ?_
            walk_at "z"
            have k9 : ∀ x o, x ≠ d → x ≠ W → H6 x = some o → upd (upd H6 d (.dT kvs2)) W (.lst (r.reverse.map V.ref ++ [.ref a] ++ [.ref b2])) x = some o := fun x o n1 n2 e => by rw [upd_ne n2, upd_ne n1]; exact e
            have nb2W : b2 ≠ W := ne_of h2 hW6 (by intro z; cases z)
            have m4 : upd (upd H6 d (.dT kvs2)) W (.lst (r.reverse.map V.ref ++ [.ref a] ++ [.ref b2])) d = some (.dT kvs2) := by rw [upd_ne nWd.symm]; exact upd_same
            refine ⟨⟨_, _, _, _, _, _, rfl, fun x o n e => ?_, b2 :: a :: r, y' :: y :: s, kvs2, ?_, ⟨k9 _ _ nb2d nb2W h2, k9 _ _ nad naW ha6, StkAt.keep (fun x xs e => ?_) hst.2⟩, fun x hx => ?_, m4, ok2, lk2, gr2, sp2⟩, ?_⟩
            · refine k9 x o n (fun z => ?_) (s36 _ _ (kH _ _ n e))
              rw [z, hW0] at e
              cases e
            · rw [upd_same, List.reverse_cons, List.reverse_cons, List.map_append, List.map_append]
              rfl
            · have e6 := s36 _ _ e
              exact k9 x _ (ne_of e6 hd6 (by intro z; cases z)) (ne_of e6 hW6 (by intro z; cases z)) e6
            · rcases List.mem_cons.mp hx with rfl | hx
              · exact fq
              · exact cst x hx
            · have := ok2.len
              rw [muF_at m4 upd_same, ln2]
              simp only [List.length_append, List.length_singleton]
              omega
          · rw [fe] at res
            obtain ⟨rfl, rfl⟩ := res
            walk_at "z"
            refine z_bm0L (fun R q => by walk_at "z"; exact q) hW6 ?_
            refine z_pop hW6 ?_
            have hd7 : upd H6 W (.lst (r.reverse.map V.ref)) d = some (.dT kvs') := by rw [upd_ne nWd.symm]; exact hd6
            refine Li.z_put (DPut.t (k := kP y) hd7 (by rw [upd_ne naW]; exact ha6) hk') ?_
            obtain ⟨kvs2, e2, o2, l2, g2, p2, n2⟩ := done none fe (fun z h => by cases h)
            rw [← e2]
            obtain ⟨m1, m2, m3, m4⟩ := popped none kvs2 e2 o2 l2 g2 p2 n2 _ rfl
            refine ⟨⟨_, _, _, _, _, _, rfl, m1, r, s, kvs2, m2, m3, fun x hx => cst x (.tail _ hx), m4, o2, l2, g2, p2⟩, ?_⟩
            rw [muF_at m4 m2, n2, List.length_append, List.length_singleton]
            omega
end
/-! ### all pairs with a rule, and the endless ones -/
def kOf (H : Hp) : V → Pr
  | .ref t => match H t with
    | some (.tup [.int i, .int j]) => (i, j)
    | _ => (0, 0)
  | _ => (0, 0)
theorem kOf_at {H : Hp} {a : Addr} {p : Pr} (h : H a = some (.tup ((kP p).map kV))) : kOf H (.ref a) = p := by
  have h' : H a = some (.tup [.int p.1, .int p.2]) := h
  simp only [kOf, h']
theorem StkAt.kof {H : Hp} : ∀ {as : List Addr} {ps : List Pr}, StkAt H as ps → ps = as.map fun a => kOf H (.ref a)
  | [], [], _ => rfl
  | a :: r, p :: s, h => by rw [List.map_cons, kOf_at h.1, ← StkAt.kof h.2]
  | [], _ :: _, h => h.elim
  | _ :: _, [], h => h.elim
theorem StkAt.mem {H : Hp} : ∀ {as : List Addr} {ps : List Pr}, StkAt H as ps → ∀ a ∈ as, H a = some (.tup ((kP (kOf H (.ref a))).map kV))
  | a :: r, p :: s, h, x, hx => by
    rcases List.mem_cons.mp hx with rfl | hx
    · rw [kOf_at h.1]
      exact h.1
    · exact StkAt.mem h.2 x hx
  | [], _ :: _, h, _, _ => h.elim
  | _ :: _, [], h, _, _ => h.elim
theorem StkAt.of {H : Hp} : ∀ {as : List Addr}, (∀ a ∈ as, H a = some (.tup ((kP (kOf H (.ref a))).map kV))) → StkAt H as (as.map fun a => kOf H (.ref a))
  | [], _ => trivial
  | a :: r, h => ⟨h a (.head _), StkAt.of fun x hx => h x (.tail _ hx)⟩
theorem StkAt.get {H : Hp} : ∀ {as : List Addr} {ps : List Pr} {i : Nat} {a : Addr}, StkAt H as ps → as[i]? = some a → ∃ p, ps[i]? = some p ∧ H a = some (.tup ((kP p).map kV))
  | _ :: _, p :: _, 0, _, h, e => by cases e; exact ⟨p, rfl, h.1⟩
  | _ :: _, _ :: _, i + 1, _, h, e => StkAt.get (i := i) h.2 (by simpa using e)
  | [], _ :: _, _, _, h, _ => h.elim
  | _ :: _, [], _, _, h, _ => h.elim
theorem StkAt.app {H : Hp} {a : Addr} {p : Pr} : ∀ {as : List Addr} {ps : List Pr}, StkAt H as ps → H a = some (.tup ((kP p).map kV)) → StkAt H (as ++ [a]) (ps ++ [p])
  | [], [], _, e => ⟨e, trivial⟩
  | _ :: _, _ :: _, h, e => ⟨h.1, StkAt.app h.2 e⟩
  | [], _ :: _, h, _ => h.elim
  | _ :: _, [], h, _ => h.elim
theorem refs_perm {ys : List V} {ts : List Addr} (h : ys.Perm (ts.map V.ref)) : ∃ us : List Addr, ys = us.map V.ref ∧ us.Perm ts := by
  have all : ∀ y ∈ ys, ∃ t, y = V.ref t := fun y hy => by
    obtain ⟨t, _, e⟩ := List.mem_map.mp (h.mem_iff.mp hy)
    exact ⟨t, e.symm⟩
  have : ∃ us : List Addr, ys = us.map V.ref := by
    clear h
    induction ys with
    | nil => exact ⟨[], rfl⟩
    | cons y r ih =>
      obtain ⟨t, rfl⟩ := all y (.head _)
      obtain ⟨us, rfl⟩ := ih fun z hz => all z (.tail _ hz)
      exact ⟨t :: us, rfl⟩
  obtain ⟨us, rfl⟩ := this
  refine ⟨us, rfl, ?_⟩
  have k := h.map fun v => match v with | V.ref t => t | _ => 0
  rw [List.map_map, List.map_map] at k
  have e : ∀ l : List Addr, l.map ((fun v => match v with | V.ref t => t | _ => 0) ∘ V.ref) = l := fun l => by
    induction l with
    | nil => rfl
    | cons a r ih => rw [List.map_cons, ih]; rfl
  rw [e, e] at k
  exact k
theorem z_sortedPO {K : PySem.W.Frag} {H : Hp} {Q : VK} {a : Addr} {as : List Addr} {ps : List Pr} (h : SqL K H a (as.map V.ref)) (hs : StkAt H as ps)
    (k : ∀ (bs : List Addr) (qs : List Pr) (p : Addr) (H' : Hp), qs.Perm ps → qs.Pairwise (fun x y => SrtO.lexB y x = false) → StkAt H' bs qs → H p = none → Same H H' → H' p = some (.lst (bs.map V.ref)) → Q (.ref p) H') : rSortedPO K [.ref a] H Q := by
  refine ⟨a, as.map V.ref, kOf H, rfl, h, fun x hx => ?_, fun ys p srt stb hp => ?_⟩
  · obtain ⟨t, ht, rfl⟩ := List.mem_map.mp hx
    exact ⟨t, rfl, hs.mem t ht⟩
  · obtain ⟨us, rfl, pu⟩ := refs_perm stb.perm
    have s1 : Same H (upd H p (.lst (us.map V.ref))) := same_upd hp
    refine k us (us.map fun a => kOf H (.ref a)) p _ ?_ ?_ ?_ hp s1 upd_same
    · rw [hs.kof]
      exact pu.map _
    · exact List.pairwise_map.mpr (List.pairwise_map.mp srt)
    · exact StkAt.keep (fun _ _ e => s1 _ _ e) (StkAt.of fun a ha => hs.mem a (pu.mem_iff.mp ha))
def sp_pairs_with_steps (K : PySem.W.Frag) : Sp := fun vs H Q _ => ∃ (v u : V) (steps : List Stp) (labels : List (Int × Nat)) (C : List Int), vs = [v, u] ∧ Rules K H v u steps labels C ∧
  ∀ D as ps H', H D = none → Same H H' → H' D = some (.lst (as.map V.ref)) → StkAt H' as ps → as.length ≤ 3600 → (∀ p, p ∈ ps ↔ p.1 ∈ labels.map (·.1) ∧ p.2 ∈ steps.map (·.right)) → Q (.ref D) H'
section
theorem ok_pairs_with_steps {P : Program} {w : World} {K : PySem.W.Frag} {mg : Str → Option Value} {base : Heap} {A : Nat → Addr} {D : Nat → FuncData} (T : Txt K mg A D) : FnOk P w K mg base (L2.CX P w) 1 (A 16) (D 16) ["steps", "labels"] (sp_pairs_with_steps K) := by
  refine T.F_pairs_with_steps.okX sc_pairs_with_steps (fun vs H Q E h => ?_) (fun cdv A' outer s H vs Q E hr h => ?_)
  · obtain ⟨v, u, steps, labels, C, rfl, _⟩ := h
    rfl
  obtain ⟨v, u, steps, labels, C, rfl, ru, q⟩ := h
  refine ⟨_, (pss_cons (ps_set (i := 2) sc_pairs_with_steps.nd rfl (.inr rfl) (pe_callB (cr_sortedSet rfl) (by rfl) T.z_sorted (by decide +kernel) (pa_cons (Sc.pe_setI (own := [("step", 3)]) (g := gName 3) (tt := tYes) rfl sc_pairs_with_steps.nd (pi_tup (pv 0)) (blkOk_by (N := ["steps", "labels", "rights", "step", "left", "label", "right"]) (sc := defScope s_pairs_with_steps) (by decide +kernel)) (fun _ _ _ _ _ => pg_name (i := 3) sc_pairs_with_steps.nd rfl (Or.inl rfl)) (fun _ _ _ _ _ => pts_nil) (fun _ _ _ _ _ => (pe_ix (show IxR _ (rIxT K) from ix_tup) (pv 3) pe_int (fun _ _ => rfl)))) pa_nil)))
  (pss_one (ps_ret (pe_lc2 (own := [("left", 4), ("right", 6)]) (vs1 := [6]) (g := gName 4) (g1 := gName 6) (tt := tYes) (tt1 := tYes) rfl sc_pairs_with_steps.nd (pi_list (pe_callB (cr_sortedSet rfl) (by rfl) T.z_sorted (by decide +kernel) (pa_cons (Sc.pe_setI (own := [("label", 5)]) (g := gName 5) (tt := tYes) rfl sc_pairs_with_steps.nd (pi_tup (pv 1)) (blkOk_by (N := ["steps", "labels", "rights", "step", "left", "label", "right"]) (sc := defScope s_pairs_with_steps) (by decide +kernel)) (fun _ _ _ _ _ => pg_name (i := 5) sc_pairs_with_steps.nd rfl (Or.inl rfl)) (fun _ _ _ _ _ => pts_nil) (fun _ _ _ _ _ => (pe_ix (show IxR _ (rIxT K) from ix_tup) (pv 5) pe_int (fun _ _ => rfl)))) pa_nil))) (blkOk_by (N := ["steps", "labels", "rights", "step", "left", "label", "right"]) (sc := defScope s_pairs_with_steps) (by decide +kernel)) (by decide) (fun _ _ _ _ _ => pg_name (i := 4) sc_pairs_with_steps.nd rfl (Or.inl rfl)) (fun _ _ _ _ _ => pts_nil) (fun _ _ _ _ _ => (show PI _ _ _ (iList K _) from pi_list (pv 2))) (fun _ _ _ _ _ => pg_name (i := 6) sc_pairs_with_steps.nd rfl (Or.inl rfl)) (fun _ _ _ _ _ => pts_nil) (fun _ _ _ _ _ => (pe_tup (pa_cons (pv 4) (pa_cons (pv 6) pa_nil)))))))), ?_⟩
  obtain ⟨a, vs, rfl, ha, la⟩ := dp_tup ru.dv
  obtain ⟨b, us, rfl, hb, lb⟩ := dp_tup ru.du
  have lv := dpa_lenM la
  have lu := dpa_lenM lb
  have fs := ru.fs
  have fl := ru.fl
  walk_at "z"
  refine Li.z_setW (ns := steps.map (·.right)) walk_tup (by omega) (by rw [List.length_map, lv]) (fun R q => ⟨.ref a, rfl, a, rfl, ⟨_, ha⟩, q⟩) (fun H' s => seqT s ha) (fun i x n H' H2 R hn hi s' y k => ?_) fun S1 H1 S n1 fS s1 hS mS l1 => ?_
  · obtain ⟨rfl, hx⟩ := y
    obtain ⟨s, hs, dx⟩ := dpa_atM (dp_monoA s' la) hx
    obtain ⟨b9, wa, rfl, sb, da⟩ := dp_stp dx
    rw [List.getElem?_map, hs] at hn
    cases hn
    refine ⟨rfl, ?_⟩
    walk_at "z"
    exact k _ (fun _ _ z => z)
  walk_at "z"
  refine Sc.z_sortedSet hS (by omega) fun rs p2 H2 sR mR lR f2 s2 h2 => ?_
  walk_at "z"
  have s02 := s1.trans s2
  have hb2 := seqT s02 hb
  have lb2 := dp_monoA s02 lb
  refine Li.z_setW (ns := labels.map (·.1)) walk_tup (by omega) (by rw [List.length_map, lu]) (fun R q => ⟨.ref b, rfl, b, rfl, ⟨_, hb2⟩, q⟩) (fun H' s => seqT s hb2) (fun i x n H' H2 R hn hi s' y k => ?_) fun S3 H3 S n3 f3 s3 hS3 mS3 l3 => ?_
  · obtain ⟨rfl, hx⟩ := y
    obtain ⟨l, hl, dx⟩ := dpa_atM (dp_monoA s' lb2) hx
    obtain ⟨b9, rfl, sb⟩ := dp_lab dx
    rw [List.getElem?_map, hl] at hn
    cases hn
    refine ⟨rfl, ?_⟩
    walk_at "z"
    exact k _ (fun _ _ z => z)
  walk_at "z"
  refine Sc.z_sortedSet hS3 (by omega) fun ls p4 H4 sL mL lL f4 s4 h4 => ?_
  have h24 := (s3.trans s4) _ _ h2
  have s04 := s02.trans (s3.trans s4)
  refine Li.z_lc2 (H := H4) walk_list (fun R q => ⟨p4, rfl, ⟨_, .inl (.inl h4)⟩, q⟩)
    (fun i D acc H' => Same H4 H' ∧ H4 D = none ∧ ∃ as ps, acc = as.map V.ref ∧ StkAt H' as ps ∧ as.length = i * rs.length ∧ ps = (ls.take i).flatMap fun l => rs.map fun r => (l, r))
    (fun D H' f s _ => ⟨s, f, [], [], rfl, trivial, by simp, by simp⟩) (fun i D acc H' h => .inl (.inl (h.1 _ _ h4))) ?_ ?_
  · rintro i x D acc H' H5 hD hi hA ⟨s', fD, as, ps, rfl, st, la', rfl⟩ ⟨rfl, hx⟩
    rw [List.getElem?_map] at hx
    rw [List.length_map] at hi
    cases hl : ls[i]? with
    | none => rw [hl] at hx; cases hx
    | some l =>
      rw [hl] at hx
      cases hx
      refine ⟨rfl, ?_⟩
      have h25 := s' _ _ h24
      refine ⟨.ref p2, rfl, p2, rfl, ⟨_, .inl (.inl h25)⟩, ?_⟩
      refine Li.z_inner walk_list (fun j acc H' => Same H4 H' ∧ ∃ as ps, acc = as.map V.ref ∧ StkAt H' as ps ∧ as.length = i * rs.length + j ∧ ps = ((ls.take i).flatMap fun l => rs.map fun r => (l, r)) ++ (rs.take j).map fun r => (l, r)) hA
        ⟨s', as, _, rfl, st, la', by simp⟩ (fun j acc H' h => .inl (.inl (h.1 _ _ h24))) ?_ ?_
      · rintro j y acc H6 H7 hj hA6 ⟨s6, as6, ps6, rfl, st6, la6, rfl⟩ ⟨rfl, hy⟩
        rw [List.getElem?_map] at hy
        cases hr : rs[j]? with
        | none => rw [hr] at hy; cases hy
        | some r =>
          rw [hr] at hy
          cases hy
          refine ⟨rfl, ?_⟩
          walk_at "z"
          intro t H8 f8 s8 h8
          have ll : ls.length ≤ 60 := by omega
          have lr : rs.length ≤ 60 := by omega
          have b1 : i * rs.length ≤ 60 * 60 := Nat.mul_le_mul (by omega) lr
          have hj' := (List.getElem?_eq_some_iff.mp hr).1
          refine Li.z_inB (s8 _ _ hA6) (by rw [List.length_map]; omega) fun H9 h9 e9 => ⟨fun x o e => ?_, as6 ++ [t], _, by rw [List.map_append]; rfl, StkAt.app (StkAt.keep (fun x xs e => ?_) st6) (p := (l, r)) ?_, by rw [List.length_append, la6]; rfl, ?_⟩
          · rw [e9 _ (ne_of_none e fD)]
            exact s8 _ _ (s6 _ _ e)
          · have e8 := s8 _ _ e
            rw [e9 _ (ne_of e8 (s8 _ _ hA6) (by intro z; cases z))]
            exact e8
          · rw [e9 _ (ne_of h8 (s8 _ _ hA6) (by intro z; cases z))]
            exact h8
          · rw [List.take_add_one, hr, List.map_append, List.append_assoc]
            rfl
      · rintro acc H6 hA6 ⟨s6, as6, ps6, rfl, st6, la6, rfl⟩
        rw [List.length_map] at la6
        refine ⟨_, hA6, s6, fD, as6, _, rfl, st6, by rw [la6, Nat.succ_mul], ?_⟩
        rw [List.length_map, List.take_length, List.take_add_one, hl, List.flatMap_append]
        simp
  · rintro D acc H5 fD hA ⟨s5, _, as, ps, rfl, st, la5, rfl⟩
    rw [List.length_map, List.take_length] at st
    refine q D as _ H5 ?_ (s04.trans s5) hA st (by rw [la5, List.length_map]; exact Nat.le_trans (Nat.mul_le_mul (show ls.length ≤ 60 by omega) (show rs.length ≤ 60 by omega)) (by decide)) fun p => ?_
    · cases e : H D with
      | none => rfl
      | some o =>
        rw [s04 _ _ e] at fD
        cases fD
    · rw [List.mem_flatMap]
      constructor
      · rintro ⟨l, hl, hp⟩
        obtain ⟨r, hr, rfl⟩ := List.mem_map.mp hp
        exact ⟨(mS3 _).mp ((mL l).mp hl), (mS _).mp ((mR r).mp hr)⟩
      · rintro ⟨h1, h2⟩
        exact ⟨p.1, (mL _).mpr ((mS3 _).mpr h1), List.mem_map.mpr ⟨p.2, (mR _).mpr ((mS _).mpr h2), rfl⟩⟩
end
theorem firstA_mem {right : Int} {a : Act} : ∀ {ss : List Stp}, firstA right ss = some a → ∃ s ∈ ss, s.right = right ∧ s.act = a
  | [], h => by cases h
  | s :: r, h => by
    unfold firstA at h
    split at h
    · rename_i c
      cases h
      exact ⟨s, .head _, c, rfl⟩
    · split at h
      · cases h
      · obtain ⟨x, hx, e⟩ := firstA_mem h
        exact ⟨x, .tail _ hx, e⟩
theorem ruleF_mem {steps : List Stp} {left right : Int} {a : Act} : ∀ {ls : List (Int × Nat)}, ruleF steps left right ls = some a → left ∈ ls.map (·.1) ∧ ∃ s ∈ steps, s.right = right ∧ s.act = a
  | [], h => by cases h
  | l :: r, h => by
    unfold ruleF at h
    split at h
    · rename_i c
      obtain ⟨s, hs, e⟩ := firstA_mem h
      exact ⟨by rw [← c]; exact .head _, s, List.mem_of_mem_drop hs, e⟩
    · obtain ⟨h1, h2⟩ := ruleF_mem h
      exact ⟨.tail _ h1, h2⟩
theorem end_free {R : RuleT} {p : Pr} (h : R p.1 p.2 = none) : End R p p.2 := ⟨1, p.2, [], by unfold itemsP appP; rw [h]; rfl, rfl⟩
theorem end_kern {R : RuleT} {p : Pr} {n : Int} (h : R p.1 p.2 = some (.kern n)) : End R p p.2 := ⟨1, p.2, [], by unfold itemsP appP; rw [h]; rfl, rfl⟩
theorem End.not {R : RuleT} {p : Pr} {e : Int} (h : End R p e) : ¬ Endless R p := fun z => by
  obtain ⟨n, h⟩ := h
  exact z n e h
theorem valV_mem {kvs : Kv} {k : List L2.Key} {v : V} (nd : (kvs.map (·.1)).Nodup) (h : (k, v) ∈ kvs) : valV kvs k = some v := by
  induction kvs with
  | nil => cases h
  | cons x r ih =>
    rw [List.map_cons, List.nodup_cons] at nd
    rcases List.mem_cons.mp h with rfl | h
    · exact valV_pos rfl
    · rw [valV_neg fun e => nd.1 (by rw [e]; exact List.mem_map.mpr ⟨_, h, rfl⟩)]
      exact ih nd.2 h
theorem mem_valV {kvs : Kv} {k : List L2.Key} {v : V} (h : valV kvs k = some v) : (k, v) ∈ kvs := by
  unfold valV at h
  cases c : kvs.find? fun kv => decide (kv.1 = k) with
  | none => rw [c] at h; cases h
  | some kv =>
    rw [c] at h
    cases h
    have e : kv.1 = k := by simpa using List.find?_some c
    rw [← e]
    exact List.mem_of_find?_eq_some c
theorem lok0 (R : RuleT) : Lok R (mapD []) [] := ⟨fun q z e => (by cases e), fun q e => (by cases e), fun q h => (nomatch h), List.Pairwise.nil, List.nodup_nil⟩
def sp_endless_pairs (K : PySem.W.Frag) : Sp := fun vs H Q _ => ∃ (v u : V) (steps : List Stp) (labels : List (Int × Nat)) (C : List Int), vs = [v, u] ∧ Rules K H v u steps labels C ∧
  ∀ L as ps H', H L = none → Same H H' → H' L = some (.lst (as.map V.ref)) → StkAt H' as ps → ps.Nodup → ps.Pairwise (fun x y => SrtO.lexB y x = false) → (∀ p, p ∈ ps ↔ p.1 ∈ C ∧ p.2 ∈ C ∧ Endless (fun l r => ruleF steps l r labels) p) → Q (.ref L) H'
theorem keep_new {H H1 H2 : Hp} {d : Addr} (f : H d = none) (s : Same H H1) (k : Kp d H1 H2) : Same H H2 := fun b o e => k b o (ne_of_none e f) (s b o e)
section
theorem ok_endless_pairs {P : Program} {w : World} {K : PySem.W.Frag} {mg : Str → Option Value} {base : Heap} {A : Nat → Addr} {D : Nat → FuncData} (T : Txt K mg A D) : FnOk P w K mg base (L2.CX P w) 4 (A 18) (D 18) ["steps", "labels"] (sp_endless_pairs K) := by
  refine T.F_endless_pairs.okX sc_endless_pairs (fun vs H Q E h => ?_) (fun cdv A' outer s H vs Q E hr h => ?_)
  · obtain ⟨v, u, steps, labels, C, rfl, _⟩ := h
    rfl
  obtain ⟨v, u, steps, labels, C, rfl, ru, q⟩ := h
  refine ⟨_, (pss_cons (ps_set (i := 2) sc_endless_pairs.nd rfl (.inr rfl) (pe_dnewT))
  (pss_cons (ps_for (passes_of rfl) rfl (pi_list (pe_call (ok_pairs_with_steps T) (hr.mono (by decide)) (by rfl) T.m_pairs_with_steps T.F_pairs_with_steps.kp T.b_pairs_with_steps .nil (passes_call (takes_of rfl rfl rfl rfl) (fun _ _ _ _ h => h)) (pa_cons (pv 0) (pa_cons (pv 1) pa_nil)))) (pg_name (i := 3) sc_endless_pairs.nd rfl (.inl rfl))
  (pss_one (ps_expr (pe_call (ok_find_ends T) (hr.mono (by decide)) (by rfl) T.m_find_ends T.F_find_ends.kp T.b_find_ends .nil (passes_call (takes_of rfl rfl rfl rfl) (fun _ _ _ _ h => h)) (pa_cons (pv 0) (pa_cons (pv 1) (pa_cons (pv 3) (pa_cons (pv 2) pa_nil))))))))
  (pss_one (ps_ret (pe_callB cr_sortedPO (by rfl) T.z_sorted (by decide +kernel) (pa_cons (pe_lock (pe_lc (own := [("pair", 3)]) (g := gName 3) rfl sc_endless_pairs.nd (pi_keys (pv 2)) (blkOk_by (N := ["steps", "labels", "ends", "pair"]) (sc := defScope s_endless_pairs) (by decide +kernel)) (fun _ _ _ _ _ => pg_name (i := 3) sc_endless_pairs.nd rfl (Or.inl rfl)) (fun _ _ _ _ _ => (pts_one (pt_cmpR Z.op_isN1 (pe_dget (Nat.lt_of_le_of_lt (Nat.add_le_add_left (by decide) _) hr.units) (pv 2) (pv 3) (fun _ _ => rfl)) pe_non (nomark _)))) (fun _ _ _ _ _ => (pv 3)))) pa_nil)))))), ?_⟩
  walk_at "z"
  intro d fd
  have s1 : Same H (upd H d (.dT [])) := same_upd fd
  have hd1 : upd H d (.dT []) d = some (.dT []) := upd_same
  generalize upd H d (.dT []) = H1 at *
  walk_at "z"
  refine ⟨v, u, steps, labels, C, rfl, ru.tk (TK.of s1), fun D as ps H2 fD s2 hD st l36 mem => ?_⟩
  have s12 := s1.trans s2
  have ru2 := ru.tk (TK.of s12)
  have hd2 := s2 _ _ hd1
  have nDd : D ≠ d := (ne_of_none hd1 fD).symm
  refine z_forL (fun R q => q) (.inl (.inl hD)) (fun i σ' H' => (∃ x3, σ' = [some v, some u, some (.ref d), x3]) ∧ Kp d H2 H' ∧ ∃ kvs, H' d = some (.dT kvs) ∧ KvOk C kvs ∧ Lok (fun l r => ruleF steps l r labels) (mapD kvs) [] ∧ ∀ p ∈ ps.take i, (mapD kvs p).isSome)
    ⟨⟨_, rfl⟩, fun _ _ _ e => e, [], hd2, ⟨by simp, fun _ h => nomatch h⟩, lok0 _, fun p h => by simp at h⟩ (fun i σ' H' _ h => .inl (.inl (h.2.1 _ _ nDd hD))) ?_ ?_
  · rintro i x σ' H3 hx ⟨⟨x3, rfl⟩, k3, kvs, hd3, ok, lk, dom⟩
    rw [List.getElem?_map] at hx
    cases ha : as[i]? with
    | none => rw [ha] at hx; cases hx
    | some a =>
      rw [ha] at hx
      cases hx
      obtain ⟨p, hp, hpa⟩ := st.get ha
      have hm := (mem p).mp (List.mem_of_getElem? hp)
      have c1 : p.1 ∈ C := by
        obtain ⟨l, hl, e⟩ := List.mem_map.mp hm.1
        rw [← e]
        exact ru.cl l hl
      have c2 : p.2 ∈ C := by
        obtain ⟨s, hs, e⟩ := List.mem_map.mp hm.2
        rw [← e]
        exact ru.cs s hs
      have tk3 : TK H2 H3 := TK.kp k3 hd2 (fun z => z)
      walk_at "z"
      refine ⟨v, u, a, d, p, steps, labels, C, kvs, rfl, ru2.tk tk3, tk3 _ _ trivial hpa, c1, c2, hd3, ok, lk, fun kvs' H4 k4 hd4 ok4 lk4 gr4 sm4 => ?_⟩
      walk_at "z"
      refine ⟨⟨_, rfl⟩, k3.trans' k4, kvs', hd4, ok4, lk4, fun p' hp' => ?_⟩
      rw [List.take_add_one, hp] at hp'
      rcases List.mem_append.mp hp' with m | m
      · exact gr4 p' (dom p' m)
      · have m : p' = p := by simpa using m
        rw [m]
        exact sm4
  · rintro σ' H3 ⟨⟨x3, rfl⟩, k3, kvs, hd3, ok, lk, dom⟩
    have la := st.len
    rw [List.length_map, la, List.take_length] at dom
    walk_at "z"
    refine Li.z_lock hd3 trivial fun od => ?_
    have sE : ∀ b o, b ≠ d → H3 b = some o → upd H3 d (.frz od (.dT kvs)) b = some o := fun b o n e => by rw [upd_ne n]; exact e
    have hd4 : upd H3 d (.frz od (.dT kvs)) d = some (.frz od (.dT kvs)) := upd_same
    generalize hH4 : upd H3 d (.frz od (.dT kvs)) = H4 at *
    refine Li.z_lcWT (H := H4) walk_keysT (fun R q => ⟨.ref d, rfl, d, od, rfl, .inr ⟨kvs, hd4, q⟩⟩)
      (fun i D' acc H' => Same H4 H' ∧ H4 D' = none ∧ ∃ as ps, acc = as.map V.ref ∧ StkAt H' as ps ∧ as.length ≤ i ∧ (ps.map kP).Sublist ((kvs.take i).map (·.1)) ∧ ∀ p, p ∈ ps ↔ (kP p, V.non) ∈ kvs.take i)
      (fun D' H' f s _ => ⟨s, f, [], [], rfl, trivial, Nat.le_refl _, by simp, by simp⟩) (fun i D' acc H' h => h.1 _ _ hd4) ?_ ?_
    · rintro i x D' acc H' H5 fD' hi hA ⟨s', _, as', ps', rfl, st', la', sub, mm⟩ ⟨rfl, k, w', q', hk, rfl, hq⟩
      have mk := List.mem_of_getElem? hk
      obtain ⟨p, rfl, cp1, cp2, o, rfl, _⟩ := ok.mem _ mk
      have tk : kvs.take (i + 1) = kvs.take i ++ [(kP p, encV o)] := by rw [List.take_add_one, hk]; rfl
      refine ⟨rfl, ?_⟩
      walk_at "z"
      refine Li.z_get (v := encV o) (.inr ⟨kvs, kP p, q', .inr ⟨od, s' _ _ hd4⟩, rfl, hq, (valV_mem ok.nodup mk).symm⟩) ?_
      walk_at "z"
      cases o with
      | some z =>
        show rIsN (.int z) .non _ _
        refine z_isNI ?_
        walk_at "z"
        refine ⟨_, hA, s', fD', as', ps', rfl, st', by omega, ?_, fun p' => ?_⟩
        · rw [tk, List.map_append]
          exact sub.trans (List.sublist_append_left _ _)
        · rw [mm, tk, List.mem_append, List.mem_singleton]
          constructor
          · exact .inl
          · rintro (h | h)
            · exact h
            · exact absurd (congrArg Prod.snd h) (by intro z; cases z)
      | none =>
        show rIsN .non .non _ _
        walk_at "z"
        have lk2 := ok.len
        have l20 := sq20 ru.few
        refine Li.z_inB hA (by rw [List.length_map]; omega) fun H6 h6 e6 => ⟨fun b o e => ?_, fD', as' ++ [q'], ps' ++ [p], by rw [List.map_append]; rfl, StkAt.app (StkAt.keep (fun x xs e => ?_) st') ?_, by rw [List.length_append]; exact Nat.add_le_add_right la' 1, ?_, fun p' => ?_⟩
        · rw [e6 _ (ne_of_none e fD')]
          exact s' _ _ e
        · rw [e6 _ (ne_of e hA (by intro z; cases z))]
          exact e
        · rw [e6 _ (ne_of hq hA (by intro z; cases z))]
          exact hq
        · rw [tk, List.map_append, List.map_append]
          exact sub.append (List.Sublist.refl _)
        · rw [tk, List.mem_append, List.mem_append, mm, List.mem_singleton, List.mem_singleton]
          constructor
          · rintro (h | rfl)
            · exact .inl h
            · exact .inr rfl
          · rintro (h | h)
            · exact .inl h
            · exact .inr (kP_inj (by injection h))
    · rintro D' acc H' fD' hA ⟨s', _, as', ps', rfl, st', la', sub, mm⟩
      rw [List.take_length] at sub mm
      have hd5 := s' _ _ hd4
      refine ⟨hd5, ?_⟩
      have nDd' : D' ≠ d := (ne_of_none hd4 fD').symm
      have hA6 : upd H' d (.dT kvs) D' = some (.lst (as'.map V.ref)) := by rw [upd_ne nDd']; exact hA
      have st6 : StkAt (upd H' d (.dT kvs)) as' ps' := StkAt.keep (fun x xs e => by rw [upd_ne (ne_of e hd5 (by intro z; cases z))]; exact e) st'
      have sH : Same H (upd H' d (.dT kvs)) := fun b o e => by
        have nb := ne_of_none e fd
        rw [upd_ne nb]
        exact s' _ _ (sE _ _ nb (k3 _ _ nb (s12 _ _ e)))
      walk_at "z"
      refine z_sortedPO (.inl (.inl hA6)) st6 fun bs qs L H7 pq srt st7 f7 s7 h7 => ?_
      have nd : ps'.Nodup := by
        have := sub.nodup ok.nodup
        exact List.Pairwise.of_map kP (fun a b h e => h (by rw [e])) this
      refine q L bs qs H7 ?_ (sH.trans s7) h7 st7 (pq.nodup_iff.mpr nd) srt fun p => ?_
      · cases e : H L with
        | none => rfl
        | some o =>
          rw [sH _ _ e] at f7
          cases f7
      · rw [pq.mem_iff, mm]
        constructor
        · intro h
          obtain ⟨p', e1, c1, c2, _⟩ := ok.mem _ h
          obtain rfl := kP_inj e1
          refine ⟨c1, c2, (lk.shut p ?_).resolve_left (fun z => nomatch z)⟩
          unfold mapD
          rw [valV_mem ok.nodup h]
          rfl
        · rintro ⟨c1, c2, en⟩
          cases e : ruleF steps p.1 p.2 labels with
          | none => exact absurd en (end_free e).not
          | some a =>
            obtain ⟨m1, s, hs, er, _⟩ := ruleF_mem e
            have hm := (mem p).mpr ⟨m1, by rw [← er]; exact List.mem_map.mpr ⟨s, hs, rfl⟩⟩
            have := dom p hm
            cases c : valV kvs (kP p) with
            | none => rw [mapD_none c] at this; cases this
            | some v9 =>
              obtain ⟨o, rfl, em, _⟩ := ok.at_ c
              cases o with
              | none => exact mem_valV c
              | some z => exact absurd en (lk.right p z em).not
end
/-! ### the rules as a dict -/
def kernO : Option Act → Int
  | some (.kern n) => n
  | _ => 0
/-- the dict holds the rules -/
def RulesD (K : PySem.W.Frag) (H : Hp) (R : RuleT) (kvs : Kv) : Prop := ∀ p : Pr, match R p.1 p.2 with
  | none => valV kvs (kP p) = none
  | some a => ∃ v, valV kvs (kP p) = some v ∧ Dp K H v (actD a)
theorem RulesD.get {K : PySem.W.Frag} {H : Hp} {R : RuleT} {kvs : Kv} (h : RulesD K H R kvs) (p : Pr) : ∃ o, valV kvs (kP p) = o ∧ OptA K H (o.getD .non) (R p.1 p.2) := by
  have h := h p
  cases c : R p.1 p.2 with
  | none =>
    rw [c] at h
    exact ⟨_, h, rfl⟩
  | some a =>
    rw [c] at h
    obtain ⟨v, e, d⟩ := h
    exact ⟨_, e, d⟩
theorem RulesD.tk {K : PySem.W.Frag} {H H' : Hp} {R : RuleT} {kvs : Kv} (k : TK H H') (h : RulesD K H R kvs) : RulesD K H' R kvs := fun p => by
  have h := h p
  cases c : R p.1 p.2 with
  | none =>
    rw [c] at h
    exact h
  | some a =>
    rw [c] at h
    obtain ⟨v, e, d⟩ := h
    exact ⟨v, e, dp_tk k (actD_tup a) d⟩

def sp_rules_of (K : PySem.W.Frag) : Sp := fun vs H Q _ => ∃ (v u : V) (steps : List Stp) (labels : List (Int × Nat)) (C : List Int), vs = [v, u] ∧ Rules K H v u steps labels C ∧
  ∀ d kvs H', H d = none → Same H H' → H' d = some (.dT kvs) → RulesD K H' (fun l r => ruleF steps l r labels) kvs → Q (.ref d) H'


section
theorem ok_rules_of {P : Program} {w : World} {K : PySem.W.Frag} {mg : Str → Option Value} {base : Heap} {A : Nat → Addr} {D : Nat → FuncData} (T : Txt K mg A D) : FnOk P w K mg base (L2.CX P w) 3 (A 15) (D 15) ["steps", "labels"] (sp_rules_of K) := by
  refine T.F_rules_of.okX sc_rules_of (fun vs H Q E h => ?_) (fun cdv A' outer s H vs Q E hr h => ?_)
  · obtain ⟨v, u, steps, labels, C, rfl, _⟩ := h
    rfl
  obtain ⟨v, u, steps, labels, C, rfl, ru, q⟩ := h
  refine ⟨_, (pss_cons (ps_set (i := 2) sc_rules_of.nd rfl (.inl rfl) (pe_dnewT))
  (pss_cons (ps_for (passes_of rfl) rfl (pi_list (pe_call (ok_pairs_with_steps T) (hr.mono (by decide)) (by rfl) T.m_pairs_with_steps T.F_pairs_with_steps.kp T.b_pairs_with_steps .nil (passes_call (takes_of rfl rfl rfl rfl) (fun _ _ _ _ h => h)) (pa_cons (pv 0) (pa_cons (pv 1) pa_nil)))) (pg_tup (by rfl) (pgs_cons (pg_name (i := 3) sc_rules_of.nd rfl (.inl rfl)) (pgs_cons (pg_name (i := 4) sc_rules_of.nd rfl (.inl rfl)) pgs_nil)))
  (pss_cons (ps_set (i := 5) sc_rules_of.nd rfl (.inl rfl) (pe_call (ok_rule T) (hr.mono (by decide)) (by rfl) T.m_rule T.F_rule.kp T.b_rule .nil (passes_call (takes_of rfl rfl rfl rfl) (fun _ _ _ _ h => h)) (pa_cons (pv 0) (pa_cons (pv 1) (pa_cons (pv 3) (pa_cons (pv 4) pa_nil))))))
  (pss_one (ps_if (pt_cmpR Z.op_notN1 (pv 5) pe_non (nomark _))
  (pss_one (ps_dput (Nat.lt_of_le_of_lt (Nat.add_le_add_left (by decide) _) hr.units) (pv 2) (pe_tup (pa_cons (pv 3) (pa_cons (pv 4) pa_nil))) (pv 5) rfl))
  pss_nil))))
  (pss_one (ps_ret (pv 2))))), ?_⟩
  walk_at "z"
  intro d fd
  have s1 : Same H (upd H d (.dT [])) := same_upd fd
  have hd1 : upd H d (.dT []) d = some (.dT []) := upd_same
  generalize upd H d (.dT []) = H1 at *
  walk_at "z"
  refine ⟨v, u, steps, labels, C, rfl, ru.tk (TK.of s1), fun D as ps H2 fD s2 hD st l36 mem => ?_⟩
  have s12 := s1.trans s2
  have ru2 := ru.tk (TK.of s12)
  have hd2 := s2 _ _ hd1
  have nDd : D ≠ d := (ne_of_none hd1 fD).symm
  refine z_forL (fun R q => q) (.inl (.inl hD)) (fun i σ' H' => (∃ x3 x4 x5, σ' = [some v, some u, some (.ref d), x3, x4, x5]) ∧ Kp d H2 H' ∧ ∃ kvs, H' d = some (.dT kvs) ∧ kvs.length ≤ i ∧ ∀ p : Pr, (p ∉ ps.take i → valV kvs (kP p) = none) ∧ (p ∈ ps.take i → match ruleF steps p.1 p.2 labels with
      | none => valV kvs (kP p) = none
      | some a => ∃ w, valV kvs (kP p) = some w ∧ Dp K H' w (actD a)))
    ⟨⟨_, _, _, rfl⟩, fun _ _ _ e => e, [], hd2, Nat.le_refl _, fun p => ⟨fun _ => rfl, fun h => by simp at h⟩⟩ (fun i σ' H' _ h => .inl (.inl (h.2.1 _ _ nDd hD))) ?_ ?_
  · rintro i x σ' H3 hx ⟨⟨x3, x4, x5, rfl⟩, k3, kvs, hd3, lk, dom⟩
    rw [List.getElem?_map] at hx
    cases ha : as[i]? with
    | none => rw [ha] at hx; cases hx
    | some a =>
      rw [ha] at hx
      cases hx
      obtain ⟨p, hp, hpa⟩ := st.get ha
      have tk3 : TK H2 H3 := TK.kp k3 hd2 (fun z => z)
      have hpa3 : H3 a = some (.tup [.int p.1, .int p.2]) := tk3 _ _ trivial hpa
      have ru3 := ru2.tk tk3
      have et : ps.take (i + 1) = ps.take i ++ [p] := by rw [List.take_add_one, hp]; rfl
      walk_at "z"
      refine ⟨v, u, steps, labels, p.1, p.2, rfl, ru3.dv, ru3.du, ru.ok, fun w H4 s4 ho => ?_⟩
      walk_at "z"
      have hd4 := s4 _ _ hd3
      cases e : ruleF steps p.1 p.2 labels with
      | none =>
        rw [e] at ho
        have ho : w = .non := ho
        subst ho
        walk_at "z"
        refine ⟨⟨_, _, _, rfl⟩, k3.trans' (kp_of s4), kvs, hd4, by omega, fun p' => ⟨fun h => (dom p').1 fun z => h (by rw [et]; exact List.mem_append.mpr (.inl z)), fun h => ?_⟩⟩
        by_cases m : p' ∈ ps.take i
        · have := (dom p').2 m
          cases e2 : ruleF steps p'.1 p'.2 labels with
          | none => rw [e2] at this; exact this
          | some b =>
            rw [e2] at this
            obtain ⟨w, h1, h2⟩ := this
            exact ⟨w, h1, dp_mono s4 h2⟩
        · rw [et] at h
          have : p' = p := by
            rcases List.mem_append.mp h with z | z
            · exact absurd z m
            · simpa using z
          rw [this, e]
          rw [this] at m
          exact (dom p).1 m
      | some b =>
        rw [e] at ho
        have ho : Dp K H4 w (actD b) := ho
        have hw : ∃ t, w = .ref t := by
          cases b with
          | kern n => obtain ⟨t, rfl, _⟩ := dp_kern ho; exact ⟨t, rfl⟩
          | lig c l r n => obtain ⟨t, rfl, _⟩ := dp_lig ho; exact ⟨t, rfl⟩
        obtain ⟨t, rfl⟩ := hw
        walk_at "z"
        intro b2 H5 f5 s5 h5
        walk_at "z"
        have hd5 := s5 _ _ hd4
        have li : i < 10000 := by
          have h1 := (List.getElem?_eq_some_iff.mp hp).1
          have h2 := st.len
          omega
        refine Li.z_put (DPut.t (k := kP p) hd5 h5 (Nat.lt_of_le_of_lt lk (Nat.lt_of_lt_of_le li (by decide)))) ?_
        have kp5 : Kp d H3 (upd H5 d (.dT (putK kvs (kP p) (.ref t)))) := fun x o n e => by rw [upd_ne n]; exact s5 _ _ (s4 _ _ e)
        have tk5 : TK H4 (upd H5 d (.dT (putK kvs (kP p) (.ref t)))) := fun x o z e => by
          have e5 := s5 _ _ e
          rw [upd_ne fun n => by rw [n, hd5] at e5; cases e5; exact z]
          exact e5
        refine ⟨⟨_, _, _, rfl⟩, k3.trans' kp5, _, upd_same, Nat.le_trans (length_putK _ _ _) (Nat.add_le_add_right lk 1), fun p' => ⟨fun h => ?_, fun h => ?_⟩⟩
        · rw [et] at h
          rw [valV_put, if_neg (fun z => h (List.mem_append.mpr (.inr (by rw [kP_inj z]; exact .head _))))]
          exact (dom p').1 fun z => h (List.mem_append.mpr (.inl z))
        · by_cases c : p' = p
          · rw [c, e]
            refine ⟨.ref t, by rw [valV_put, if_pos rfl], dp_tk tk5 (actD_tup b) ho⟩
          · rw [et] at h
            have m : p' ∈ ps.take i := by
              rcases List.mem_append.mp h with z | z
              · exact z
              · exact absurd (by simpa using z) c
            have := (dom p').2 m
            cases e2 : ruleF steps p'.1 p'.2 labels with
            | none =>
              rw [e2] at this
              show valV _ _ = none
              rw [valV_put, if_neg fun z => c (kP_inj z)]
              exact this
            | some b3 =>
              rw [e2] at this
              obtain ⟨w3, h1, h2⟩ := this
              refine ⟨w3, by rw [valV_put, if_neg fun z => c (kP_inj z)]; exact h1, dp_tk tk5 (actD_tup _) (dp_mono s4 h2)⟩
  · rintro σ' H3 ⟨⟨x3, x4, x5, rfl⟩, k3, kvs, hd3, lk, dom⟩
    have la := st.len
    rw [List.length_map, la, List.take_length] at dom
    walk_at "z"
    refine q d kvs H3 fd (keep_new fd s12 k3) hd3 fun p => ?_
    show match ruleF steps p.1 p.2 labels with
      | none => valV kvs (kP p) = none
      | some a => ∃ v, valV kvs (kP p) = some v ∧ Dp K H3 v (actD a)
    by_cases m : p ∈ ps
    · exact (dom p).2 m
    · have n := (dom p).1 m
      cases e : ruleF steps p.1 p.2 labels with
      | none => exact n
      | some a =>
        obtain ⟨m1, s, hs, er, _⟩ := ruleF_mem e
        exact absurd ((mem p).mpr ⟨m1, by rw [← er]; exact List.mem_map.mpr ⟨s, hs, rfl⟩⟩) m
end


def sp_kern_of (K : PySem.W.Frag) : Sp := fun vs H Q _ => ∃ (w : V) (o : Option Act), vs = [w] ∧ OptA K H w o ∧ Q (.int (kernO o)) H


section
theorem ok_kern_of {P : Program} {w : World} {K : PySem.W.Frag} {mg : Str → Option Value} {base : Heap} {A : Nat → Addr} {D : Nat → FuncData} (T : Txt K mg A D) : FnOk P w K mg base (L2.CX P w) 1 (A 24) (D 24) ["action"] (sp_kern_of K) := by
  refine T.F_kern_of.okX sc_kern_of (fun vs H Q E h => ?_) (fun cdv A' outer s H vs Q E hr h => ?_)
  · obtain ⟨w', o, rfl, _⟩ := h
    rfl
  obtain ⟨w', o, rfl, ho, q⟩ := h
  refine ⟨_, (pss_cons (ps_if (PW.pt (pw_and (pt_cmpR Z.op_notN1 (pv 0) pe_non (nomark _)) (pw_and1 (pt_cmpR op_eq (pe_ix ix_tup (pv 0) pe_int (fun _ _ => rfl)) pe_str (nomark _)))))
  (pss_one (ps_ret (pe_ix ix_tup (pv 0) pe_int (fun _ _ => rfl))))
  pss_nil)
  (pss_one (ps_ret pe_int))), ?_⟩
  cases o with
  | none =>
    have ho : w' = .non := ho
    subst ho
    walk_at "z"
    exact q
  | some a =>
    cases a with
    | kern n =>
      obtain ⟨b, rfl, sb⟩ := dp_kern ho
      walk_at "z"
      refine z_eqS ?_
      walk_at "z"
      exact q
    | lig c ls rs n =>
      obtain ⟨b, rfl, sb⟩ := dp_lig ho
      walk_at "z"
      refine z_eq rfl ?_
      rw [decide_eq_false (by intro z; injection z with z; exact absurd z (by decide))]
      walk_at "z"
      exact q
end


def sp_check_length (K : PySem.W.Frag) (A : Nat → Addr) : Sp := fun vs H Q E => ∃ n : Int, vs = [.int n] ∧ (400 < n → E (.ref (A 2)) none H) ∧ (n ≤ 400 → Q .non H)


section
theorem ok_check_length {P : Program} {w : World} {K : PySem.W.Frag} {mg : Str → Option Value} {base : Heap} {A : Nat → Addr} {D : Nat → FuncData} (T : Txt K mg A D) : FnOk P w K mg base (L2.CX P w) 1 (A 22) (D 22) ["count"] (sp_check_length K A) := by
  refine T.F_check_length.okX sc_check_length (fun vs H Q E h => ?_) (fun cdv A' outer s H vs Q E hr h => ?_)
  · obtain ⟨n, rfl, _⟩ := h
    rfl
  obtain ⟨n, rfl, h1, h2⟩ := h
  refine ⟨_, (pss_one (ps_if (pt_cmpR op_gt (pv 0) (Z.pe_globE T.c_MOST_ITEMS) (nomark _))
  (pss_one (ps_raise rfl (takes_of rfl rfl rfl rfl) (Tg.pmkF T.x_TooLong (by rfl) (Z.pe_globE T.c_MOST_ITEMS) (by decide +kernel))))
  pss_nil)), ?_⟩
  walk_at "z"
  refine z_if (fun c => ?_) (fun c => ?_)
  · walk_at "z"
    exact h1 c
  · walk_at "z"
    exact h2 (by omega)
end

/-! ### a line is set -/
structure RowS where
  done : List Pr
  here : Int
  ahead : List Int
def stepS (R : RuleT) (s : RowS) (r : Int) (rest : List Int) : RowS :=
  { done := s.done ++ ((appP R (s.here, r)).1.take (appP R (s.here, r)).2.toNat).map fun x => (x, kernO (R s.here r)),
    here := ((appP R (s.here, r)).1[(appP R (s.here, r)).2.toNat]?).getD 0,
    ahead := (appP R (s.here, r)).1.drop ((appP R (s.here, r)).2.toNat + 1) ++ rest }
def lenS (R : RuleT) (s : RowS) (r : Int) (rest : List Int) : Nat := s.done.length + (appP R (s.here, r)).1.length + rest.length
def runS (R : RuleT) : Nat → RowS → Option (Option (List Pr))
  | 0, _ => none
  | k + 1, s => match s.ahead with
    | [] => some (some (s.done ++ [(s.here, 0)]))
    | r :: rest => if 400 < lenS R s r rest then some none else runS R k (stepS R s r rest)

def sp_set_row (K : PySem.W.Frag) (A : Nat → Addr) : Sp := fun vs H Q E => ∃ (d c : Addr) (kvs : Kv) (R : RuleT) (C cs : List Int) (k : Nat) (res : Option (List Pr)), vs = [.ref d, .ref c] ∧ H d = some (.dT kvs) ∧ RulesD K H R kvs ∧ WfR R C ∧ SqL K H c (cs.map V.int) ∧ cs.length ≤ 900 ∧ runS R k ⟨[], 128, cs ++ [128]⟩ = some res ∧
  (res = none → ∀ H', Same H H' → E (.ref (A 2)) none H') ∧ ∀ done, res = some done → ∀ D as H', H D = none → Same H H' → H' D = some (.lst (as.map V.ref)) → StkAt H' as done → as.length ≤ 1000 → Q (.ref D) H'


section
theorem ok_set_row {P : Program} {w : World} {K : PySem.W.Frag} {mg : Str → Option Value} {base : Heap} {A : Nat → Addr} {D : Nat → FuncData} (T : Txt K mg A D) : FnOk P w K mg base (L2.CX P w) 2 (A 23) (D 23) ["rules", "codes"] (sp_set_row K A) := by
  refine T.F_set_row.okX sc_set_row (fun vs H Q E h => ?_) (fun cdv A' outer s H vs Q E hr h => ?_)
  · obtain ⟨d, c, kvs, R, C, cs, k, res, rfl, _⟩ := h
    rfl
  obtain ⟨d, c, kvs, R, C, cs, k, res, rfl, hd, rd, wf, hc, lc, run, no, q⟩ := h
  refine ⟨_, (pss_cons (ps_set (i := 2) sc_set_row.nd rfl (.inl rfl) (pe_lst pa_nil))
  (pss_cons (ps_set (i := 3) sc_set_row.nd rfl (.inl rfl) (Z.pe_globE T.c_EDGE))
  (pss_cons (ps_set (i := 4) sc_set_row.nd rfl (.inl rfl) (pe_op op_cat (pe_lst (pa_cons (Z.pe_globE T.c_EDGE) pa_nil)) (pe_revL (pv 1))))
  (pss_cons (ps_while (passes_of rfl) (Z.pt_tru (pv 4) (by intro _; rfl))
  (pss_cons (ps_set (i := 5) sc_set_row.nd rfl (.inl rfl) (pe_bm0 PySem.F.plainAttrs_list PySem.F.slot_list_pop PySem.F.type_list_pop mt_pop (pv 4)))
  (pss_cons (ps_set (i := 6) sc_set_row.nd rfl (.inl rfl) (pe_dget1 (Nat.lt_of_le_of_lt (Nat.add_le_add_left (by decide) _) hr.units) (pv 0) (pe_tup (pa_cons (pv 3) (pa_cons (pv 5) pa_nil))) ⟨rfl, rfl, rfl, rfl⟩))
  (pss_cons (ps_asg (pe_call (ok_applied T) (hr.mono (by decide)) (by rfl) T.m_applied T.F_applied.kp T.b_applied .nil (passes_call (takes_of rfl rfl rfl rfl) (fun _ _ _ _ h => h)) (pa_cons (pv 3) (pa_cons (pv 5) (pa_cons (pv 6) pa_nil)))) (pg_tup (by rfl) (pgs_cons (pg_name (i := 7) sc_set_row.nd rfl (.inl rfl)) (pgs_cons (pg_name (i := 8) sc_set_row.nd rfl (.inl rfl)) pgs_nil))))
  (pss_cons (ps_expr (pe_call (ok_check_length T) (hr.mono (by decide)) (by rfl) T.m_check_length T.F_check_length.kp T.b_check_length .nil (passes_call (takes_of rfl rfl rfl rfl) (fun _ _ _ _ h => h)) (pa_cons (pe_op op_add (pe_op op_add (pe_callB Z.c_len (by rfl) T.z_len (by decide +kernel) (pa_cons (pv 2) pa_nil)) (pe_callB Z.c_len (by rfl) T.z_len (by decide +kernel) (pa_cons (pv 7) pa_nil))) (pe_callB Z.c_len (by rfl) T.z_len (by decide +kernel) (pa_cons (pv 4) pa_nil))) pa_nil)))
  (pss_cons (ps_for (passes_of rfl) rfl (pi_list (pe_slice sl_list (pv 7) po_none (po_some (pv 8)))) (pg_name (i := 9) sc_set_row.nd rfl (.inl rfl))
  (pss_one (ps_expr (pe_bm PySem.F.plainAttrs_list PySem.F.slot_list_append PySem.F.type_list_append mt_append (pv 2) (pa_cons (pe_tup (pa_cons (pv 9) (pa_cons (pe_call (ok_kern_of T) (hr.mono (by decide)) (by rfl) T.m_kern_of T.F_kern_of.kp T.b_kern_of .nil (passes_call (takes_of rfl rfl rfl rfl) (fun _ _ _ _ h => h)) (pa_cons (pv 6) pa_nil)) pa_nil))) pa_nil)))))
  (pss_cons (ps_set (i := 3) sc_set_row.nd rfl (.inl rfl) (pe_ix ix_list (pv 7) (pv 8) (fun _ _ => rfl)))
  (pss_one (ps_expr (pe_bm PySem.F.plainAttrs_list PySem.F.slot_list_extend PySem.F.type_list_extend mt_extend (pv 4) (pa_cons (Li.pe_revH (pv 7) (po_some (pv 8))) pa_nil)))))))))))
  (pss_cons (ps_expr (pe_bm PySem.F.plainAttrs_list PySem.F.slot_list_append PySem.F.type_list_append mt_append (pv 2) (pa_cons (pe_tup (pa_cons (pv 3) (pa_cons pe_int pa_nil))) pa_nil)))
  (pss_one (ps_ret (pv 2)))))))), ?_⟩
  walk_at "z"
  intro D H1 fD s1 hD
  walk_at "z"
  intro L2 H2 f2 s2 h2
  walk_at "z"
  refine z_revE (s2.seq (s1.seq hc)) fun L3 H3 f3 s3 h3 => ?_
  walk_at "z"
  refine z_cat (s3 _ _ h2) h3 (by rw [List.length_reverse, List.length_map]; show 1 + cs.length ≤ 1000; omega) fun A1 H4 f4 s4 h4 => ?_
  walk_at "z"
  have s14 := s2.trans (s3.trans s4)
  have hD4 := s14 _ _ hD
  have nAD : A1 ≠ D := (ne_of_none ((s2.trans s3) _ _ hD) f4).symm
  have fA : H A1 = none := by
    cases e : H A1 with
    | none => rfl
    | some o =>
      rw [(s1.trans (s2.trans s3)) _ _ e] at f4
      cases f4
  have s04 := s1.trans s14
  have eA : [V.int 128] ++ (cs.map V.int).reverse = (cs ++ [128]).reverse.map V.int := by rw [List.reverse_append, ← List.map_reverse]; rfl
  rw [eA] at h4
  refine Li.z_whileW (fun m σ' H' => ∃ (x5 x6 x7 x8 x9 : Option V) (s : RowS), σ' = [some (.ref d), some (.ref c), some (.ref D), some (.int s.here), some (.ref A1), x5, x6, x7, x8, x9] ∧ Same H H' ∧ runS R m s = some res ∧ H' A1 = some (.lst (s.ahead.reverse.map V.int)) ∧ s.done.length + s.ahead.length ≤ 999 ∧ s.ahead.length ≤ 999 ∧ ∃ as, H' D = some (.lst (as.map V.ref)) ∧ StkAt H' as s.done) k ?_ ?_
  · exact ⟨_, _, _, _, _, ⟨[], 128, cs ++ [128]⟩, rfl, s04, run, h4, by rw [List.length_append]; show 0 + (cs.length + 1) ≤ 999; omega, by rw [List.length_append]; show cs.length + 1 ≤ 999; omega, [], hD4, trivial⟩
  · rintro m σ' H5 ⟨x5, x6, x7, x8, x9, ⟨done, here, ahead⟩, rfl, s5, run5, hA5, lda, la, as, hD5, st⟩
    have lst := st.len
    dsimp only at *
    cases m with
    | zero => cases run5
    | succ m =>
      unfold runS at run5
      walk_at "z"
      refine z_truL hA5 ?_
      cases ahead with
      | nil =>
        dsimp only at run5
        refine Li.z_wwF ?_
        walk_at "z"
        refine z_bmL (fun R q => by walk_at "z"; exact q) hD5 ?_
        walk_at "z"
        intro t H6 f6 s6 h6
        walk_at "z"
        have hD6 := s6 _ _ hD5
        have lda : done.length + 0 ≤ 999 := lda
        refine z_append hD6 (by rw [List.length_map]; omega) ?_
        walk_at "z"
        have er := Option.some.inj run5
        refine q _ er.symm D (as ++ [t]) (upd H6 D (.lst (as.map V.ref ++ [.ref t]))) fD ?_ (by rw [upd_same, List.map_append]; rfl) (StkAt.app (StkAt.keep (fun x xs e => ?_) st) ?_) ?_
        · exact keep_new fD (s5.trans s6) kp_at
        · have e6 := s6 _ _ e
          rw [upd_ne (ne_of e6 hD6 (by intro z; cases z))]
          exact e6
        · rw [upd_ne (ne_of h6 hD6 (by intro z; cases z))]
          exact h6
        · rw [List.length_append]
          show as.length + 1 ≤ 1000
          omega
      | cons r rest =>
        dsimp only at run5
        have e1 : (r :: rest).reverse.map V.int = rest.reverse.map V.int ++ [.int r] := by rw [List.reverse_cons, List.map_append]; rfl
        rw [e1] at hA5 ⊢
        rw [show (!(rest.reverse.map V.int ++ [V.int r]).isEmpty) = true by simp]
        refine Li.z_wwT ?_
        walk_at "z"
        refine z_bm0L (fun R q => by walk_at "z"; exact q) hA5 ?_
        refine z_pop hA5 ?_
        have hd5 := s5 _ _ hd
        have ndA : d ≠ A1 := ne_of_none hd fA
        have hd6 : upd H5 A1 (.lst (rest.reverse.map V.int)) d = some (.dT kvs) := by rw [upd_ne ndA]; exact hd5
        have hA6 : upd H5 A1 (.lst (rest.reverse.map V.int)) A1 = some (.lst (rest.reverse.map V.int)) := upd_same
        have k6 : Kp A1 H5 (upd H5 A1 (.lst (rest.reverse.map V.int))) := fun x o n e => by rw [upd_ne n]; exact e
        generalize upd H5 A1 (.lst (rest.reverse.map V.int)) = H6 at *
        have s6 := keep_new fA s5 k6
        have tk6 : TK H5 H6 := TK.kp k6 hA5 (fun z => z)
        have hD6 := k6 _ _ nAD.symm hD5
        walk_at "z"
        refine Li.z_get1 (.inr ⟨kvs, .inl hd6⟩) ?_
        walk_at "z"
        intro tp H7 f7 s7 h7
        walk_at "z"
        refine Li.z_get2 (DGet.t (k := kP (here, r)) (s7 _ _ hd6) h7) ?_
        obtain ⟨o, eo, ho⟩ := rd.get (here, r)
        rw [eo]
        have s07 := s6.trans s7
        walk_at "z"
        refine ⟨here, r, o.getD .non, R here r, rfl, ho.mono s07, fun t L H8 s8 fL h8 hL => ?_⟩
        have h8 : H8 t = some (.tup [.ref L, .int (appP R (here, r)).2]) := h8
        have hL : H8 L = some (.lst ((appP R (here, r)).1.map V.int)) := hL
        obtain ⟨p0, p1⟩ := wf.place here r
        have few := wf.few here r
        unfold lenS at run5
        unfold stepS at run5
        dsimp only at run5
        generalize appP R (here, r) = ap at *
        obtain ⟨its, pl⟩ := ap
        dsimp only at *
        obtain ⟨n, rfl⟩ : ∃ n : Nat, pl = (n : Int) := ⟨pl.toNat, by omega⟩
        rw [Int.toNat_natCast] at *
        have s78 := s7.trans s8
        have hD8 := s78 _ _ hD6
        have hA8 := s78 _ _ hA6
        have s08 := s07.trans s8
        walk_at "z"
        refine ⟨_, rfl, fun cc => ?_, fun cc => ?_⟩
        · rw [List.length_map, List.length_map, List.length_map, List.length_reverse] at cc
          rw [if_pos (by omega)] at run5
          cases run5
          exact no rfl H8 s08
        · rw [List.length_map, List.length_map, List.length_map, List.length_reverse] at cc
          rw [if_neg (by omega)] at run5
          walk_at "z"
          refine ⟨_, rfl, ?_⟩
          walk_at "z"
          refine z_slL (.inl (.inl hL)) (ys := (its.take n).map V.int) (by rw [cut_to (by rw [List.length_map]; omega), List.map_take]) fun P9 H9 f9 s9 h9 => ?_
          have s79 := s78.trans s9
          have hD9 := s79 _ _ hD6
          have hL9 := s9 _ _ hL
          have hA9 := s79 _ _ hA6
          have nLD : L ≠ D := (ne_of_none (s7 _ _ hD6) fL).symm
          have nPD : P9 ≠ D := (ne_of_none hD8 f9).symm
          have nLA : L ≠ A1 := (ne_of_none (s7 _ _ hA6) fL).symm
          have st9 : StkAt H9 as done := StkAt.keep (fun x xs e => s79 _ _ (tk6 _ _ trivial e)) st
          have ho9 := (ho.mono s07).mono (s8.trans s9)
          refine z_forL (fun R q => q) (.inl (.inl h9)) (fun i σ' H' => (∃ x9, σ' = [some (.ref d), some (.ref c), some (.ref D), some (.int here), some (.ref A1), some (.int r), some (o.getD .non), some (.ref L), some (.int (n : Int)), x9]) ∧ Kp D H9 H' ∧ ∃ as', H' D = some (.lst (as'.map V.ref)) ∧ StkAt H' as' (done ++ ((its.take n).take i).map fun x => (x, kernO (R here r))))
            ⟨⟨_, rfl⟩, fun _ _ _ e => e, as, hD9, by simpa using st9⟩ (fun i σ' H' _ h => .inl (.inl (h.2.1 _ _ nPD h9))) ?_ ?_
          · rintro i x σ' HA hx ⟨⟨x9', rfl⟩, kA, as', hDA, stA⟩
            rw [List.getElem?_map] at hx
            cases hy : (its.take n)[i]? with
            | none => rw [hy] at hx; cases hx
            | some y =>
              rw [hy] at hx
              cases hx
              have tkA : TK H9 HA := TK.kp kA hD9 (fun z => z)
              have hoA : OptA K HA (o.getD .non) (R here r) := by
                cases e : R here r with
                | none =>
                  rw [e] at ho9
                  exact ho9
                | some a =>
                  rw [e] at ho9
                  exact dp_tk tkA (actD_tup a) ho9
              have lsA := stA.len
              simp only [List.length_append, List.length_map, List.length_take] at lsA
              walk_at "z"
              refine z_bmL (fun R q => by walk_at "z"; exact q) hDA ?_
              walk_at "z"
              refine ⟨o.getD .non, R here r, rfl, hoA, ?_⟩
              walk_at "z"
              intro t2 HB fB sB hB
              have hDB := sB _ _ hDA
              walk_at "z"
              refine z_append hDB (by rw [List.length_map]; omega) ?_
              walk_at "z"
              refine ⟨⟨_, rfl⟩, (kA.trans' (kp_of sB)).trans' kp_at, as' ++ [t2], by rw [upd_same, List.map_append]; rfl, ?_⟩
              rw [List.take_add_one, hy, List.map_append, ← List.append_assoc]
              refine StkAt.app (p := (y, kernO (R here r))) (StkAt.keep (fun x xs e => ?_) stA) ?_
              · have e6 := sB _ _ e
                rw [upd_ne (ne_of e6 hDB (by intro z; cases z))]
                exact e6
              · rw [upd_ne (ne_of hB hDB (by intro z; cases z))]
                exact hB
          · rintro σ' HA ⟨⟨x9', rfl⟩, kA, as', hDA, stA⟩
            rw [List.length_map, List.take_length] at stA
            have hLA := kA _ _ nLD hL9
            have hAA := kA _ _ nAD hA9
            walk_at "z"
            have en : its[n]? = some its[n] := List.getElem?_eq_getElem p1
            refine z_ixL (.inl (.inl hLA)) (v := .int its[n]) (atI_nat (by rw [List.getElem?_map, en]; rfl)) ?_
            walk_at "z"
            refine z_bmL (fun R q => by walk_at "z"; exact q) hAA ?_
            walk_at "z"
            have hDA' := hDA
            refine Li.z_revH (hi := some (n : Int)) (fun R q => ⟨_, rfl, q⟩) (.inl (.inl hLA)) (fun R q => ⟨_, rfl, _, rfl, q⟩) (fun h e => by cases e; omega) fun p HB fB sB hB => ?_
            walk_at "z"
            have elen : (its.map V.int).length = its.length := List.length_map ..
            have hAB := sB _ _ hAA
            have hDB := sB _ _ hDA
            have lsA := stA.len
            simp only [List.length_append, List.length_map, List.length_take] at lsA
            have eR : rest.reverse.map V.int ++ ((its.map V.int).reverse.take (Tg.cntR (its.map V.int).length (some (n : Int)))) = (its.drop (n + 1) ++ rest).reverse.map V.int := by
              rw [List.reverse_append, List.map_append, elen]
              congr 1
              show (its.map V.int).reverse.take (its.length - (((n : Int)).toNat + 1)) = _
              rw [Int.toNat_natCast, ← List.map_reverse, ← List.map_take, List.take_reverse]
              congr 3
              omega
            refine z_extend hAB hB (by rw [← List.length_append, eR]; simp only [List.length_map, List.length_reverse, List.length_append, List.length_drop]; omega) ?_
            walk_at "z"
            rw [eR]
            refine ⟨m, Nat.lt_succ_self _, _, _, _, _, _, ⟨_, _, _⟩, rfl, ?_, by rw [en] at run5; exact run5, upd_same, ?_, ?_, as', ?_, StkAt.keep (fun x xs e => ?_) stA⟩
            · exact keep_new fA (keep_new fD (s6.trans s79) (kA.trans' (kp_of sB))) kp_at
            · simp only [List.length_append, List.length_map, List.length_take, List.length_drop]
              omega
            · simp only [List.length_append, List.length_drop]
              omega
            · rw [upd_ne nAD.symm]
              exact hDB
            · have e6 := sB _ _ e
              rw [upd_ne (ne_of e6 hAB (by intro z; cases z))]
              exact e6
end

/-! ### a line ends -/
theorem runS_go {R : RuleT} {s : RowS} {r : Int} {rest : List Int} {k : Nat} (e : s.ahead = r :: rest) : runS R (k + 1) s = if 400 < lenS R s r rest then some none else runS R k (stepS R s r rest) := by
  obtain ⟨done, here, ahead⟩ := s
  dsimp only at e
  subst e
  rfl
theorem step_eq {R : RuleT} {C : List Int} (w : WfR R C) (done : List Pr) (p : Pr) (rest : List Int) {h : Int} {t : List Int} (e : itemsP R p = h :: t) : ∃ done', stepS R ⟨done, p.1, p.2 :: rest⟩ p.2 rest = ⟨done', h, t ++ rest⟩ := by
  obtain ⟨_, h1⟩ := w.place p.1 p.2
  unfold itemsP at e
  rw [List.drop_eq_getElem_cons (show (appP R p).2.toNat < (appP R p).1.length from h1)] at e
  injection e with e1 e2
  refine ⟨done ++ ((appP R p).1.take (appP R p).2.toNat).map fun x => (x, kernO (R p.1 p.2)), ?_⟩
  unfold stepS
  congr 1
  · show ((appP R p).1[(appP R p).2.toNat]?).getD 0 = h
    rw [List.getElem?_eq_getElem (show (appP R p).2.toNat < (appP R p).1.length from h1)]
    exact e1
  · show (appP R p).1.drop _ ++ rest = _
    rw [e2]
def Goes (R : RuleT) (s : RowS) (e : Int) (rest : List Int) : Prop := ∃ j, (∀ k, runS R (k + j) s = some none) ∨ ∃ done', ∀ k, runS R (k + j) s = runS R k ⟨done', e, rest⟩
theorem goes_fold {R : RuleT} {E : Pr → Int → Prop} (ih : ∀ p e done rest, E p e → Goes R ⟨done, p.1, p.2 :: rest⟩ e rest) : ∀ {t : List Int} {h e : Int} (done : List Pr) (rest : List Int), FoldE E h t e → Goes R ⟨done, h, t ++ rest⟩ e rest
  | [], h, e, done, rest, f => ⟨0, .inr ⟨done, fun k => by rw [show e = h from f]; rfl⟩⟩
  | y :: r, h, e, done, rest, ⟨z, f1, f2⟩ => by
    obtain ⟨j, g⟩ := ih (h, y) z done (r ++ rest) f1
    rcases g with g | ⟨done', g⟩
    · exact ⟨j, .inl g⟩
    · obtain ⟨i, g2⟩ := goes_fold ih done' rest f2
      refine ⟨i + j, g2.imp (fun g2 k => ?_) fun ⟨d, g2⟩ => ⟨d, fun k => ?_⟩⟩
      · rw [← Nat.add_assoc]
        exact (g _).trans (g2 k)
      · rw [← Nat.add_assoc]
        exact (g _).trans (g2 k)
theorem goes_end {R : RuleT} {C : List Int} (w : WfR R C) : ∀ {n : Nat} {p : Pr} {e : Int} (done : List Pr) (rest : List Int), EndN R n p e → Goes R ⟨done, p.1, p.2 :: rest⟩ e rest
  | n + 1, p, e, done, rest, ⟨h, t, e1, f⟩ => by
    by_cases c : 400 < lenS R ⟨done, p.1, p.2 :: rest⟩ p.2 rest
    · exact ⟨1, .inl fun k => by rw [runS_go rfl, if_pos c]⟩
    · obtain ⟨done', es⟩ := step_eq w done p rest e1
      obtain ⟨j, g⟩ := goes_fold (fun p e done rest h => goes_end w done rest h) done' rest f
      refine ⟨j + 1, g.imp (fun g k => ?_) fun ⟨d, g⟩ => ⟨d, fun k => ?_⟩⟩
      · rw [← Nat.add_assoc, runS_go rfl, if_neg c, es]
        exact g k
      · rw [← Nat.add_assoc, runS_go rfl, if_neg c, es]
        exact g k
theorem fold_mem {E : Pr → Int → Prop} {C : List Int} (ih : ∀ p e, p.1 ∈ C → p.2 ∈ C → E p e → e ∈ C) : ∀ {t : List Int} {h e : Int}, h ∈ C → (∀ x ∈ t, x ∈ C) → FoldE E h t e → e ∈ C
  | [], h, e, m, _, f => by rw [show e = h from f]; exact m
  | y :: r, h, e, m, mt, ⟨z, f1, f2⟩ => fold_mem ih (ih (h, y) z m (mt y (.head _)) f1) (fun x hx => mt x (.tail _ hx)) f2
theorem end_mem {R : RuleT} {C : List Int} (w : WfR R C) : ∀ {n : Nat} {p : Pr} {e : Int}, p.1 ∈ C → p.2 ∈ C → EndN R n p e → e ∈ C
  | n + 1, p, e, m1, m2, ⟨h, t, e1, f⟩ => fold_mem (fun p e a b h => end_mem w a b h) (w.memI m1 m2 (by rw [e1]; exact .head _)) (fun x hx => w.memI m1 m2 (by rw [e1]; exact .tail _ hx)) f
def AllEnd (R : RuleT) (C : List Int) : Prop := ∀ p : Pr, p.1 ∈ C → p.2 ∈ C → ¬ Endless R p
theorem run_ends {R : RuleT} {C : List Int} (w : WfR R C) (a : AllEnd R C) : ∀ {ahead : List Int} {here : Int} (done : List Pr), here ∈ C → (∀ x ∈ ahead, x ∈ C) → ∃ k res, runS R k ⟨done, here, ahead⟩ = some res
  | [], here, done, _, _ => ⟨1, _, rfl⟩
  | r :: rest, here, done, m, ma => by
    have mr := ma r (.head _)
    obtain ⟨n, e, he⟩ : ∃ n e, EndN R n (here, r) e := Classical.byContradiction fun z => a (here, r) m mr fun n e h => z ⟨n, e, h⟩
    obtain ⟨j, g⟩ := goes_end w done rest he
    rcases g with g | ⟨done', g⟩
    · exact ⟨0 + j, _, g 0⟩
    · obtain ⟨k, res, h⟩ := run_ends w a done' (end_mem w m mr he) fun x hx => ma x (.tail _ hx)
      exact ⟨k + j, res, (g k).trans h⟩
/-! ### glyphs and kerns -/
abbrev GK := List Int × List Int × Int
def gkS (s : GK) (x : Pr) : GK := if x.1 = 128 then (s.1, s.2.1, s.2.2 + x.2) else (s.1 ++ [x.1], s.2.1 ++ [s.2.2], x.2)
def gkF (row : List Pr) : GK := row.foldl gkS ([], [], 0)
theorem gkF_snoc (row : List Pr) (x : Pr) : gkF (row ++ [x]) = gkS (gkF row) x := by
  unfold gkF
  rw [List.foldl_append]
  rfl
theorem gkF_len (row : List Pr) : (gkF row).1.length ≤ row.length ∧ (gkF row).2.1.length = (gkF row).1.length := by
  have : ∀ (row : List Pr) (s : GK) (n : Nat), s.1.length ≤ n → s.2.1.length = s.1.length → (row.foldl gkS s).1.length ≤ n + row.length ∧ (row.foldl gkS s).2.1.length = (row.foldl gkS s).1.length := by
    intro row
    induction row with
    | nil => intro s n h1 h2; exact ⟨h1, h2⟩
    | cons x r ih =>
      intro s n h1 h2
      have := ih (gkS s x) (n + 1) (by unfold gkS; split <;> simp <;> omega) (by unfold gkS; split <;> simp [h2])
      rw [List.length_cons, List.foldl_cons]
      exact ⟨by omega, this.2⟩
  have := this row ([], [], 0) 0 (Nat.le_refl _) rfl
  exact ⟨by have := this.1; unfold gkF; omega, this.2⟩
theorem set_last (xs : List V) (x y : V) : (xs ++ [x]).set xs.length y = xs ++ [y] := by
  rw [List.set_append_right _ _ (Nat.le_refl _), Nat.sub_self]
  rfl
theorem ixN_last (xs : List V) (x : V) : ixN (xs ++ [x]).length (-1) = some xs.length := by
  unfold ixN
  simp
  omega

def sp_glyphs_and_kerns (K : PySem.W.Frag) : Sp := fun vs H Q _ => ∃ (D : Addr) (as : List Addr) (row : List Pr), vs = [.ref D] ∧ H D = some (.lst (as.map V.ref)) ∧ StkAt H as row ∧ as.length ≤ 1000 ∧
  ∀ t G L H', Same H H' → H' t = some (.tup [.ref G, .ref L]) → H G = none → H L = none → G ≠ L → H' G = some (.lst ((gkF row).1.map V.int)) → H' L = some (.lst (((gkF row).2.1 ++ [(gkF row).2.2]).map V.int)) → Q (.ref t) H'


section
theorem ok_glyphs_and_kerns {P : Program} {w : World} {K : PySem.W.Frag} {mg : Str → Option Value} {base : Heap} {A : Nat → Addr} {D : Nat → FuncData} (T : Txt K mg A D) : FnOk P w K mg base (L2.CX P w) 1 (A 25) (D 25) ["row"] (sp_glyphs_and_kerns K) := by
  refine T.F_glyphs_and_kerns.okX sc_glyphs_and_kerns (fun vs H Q E h => ?_) (fun cdv A' outer s H vs Q E hr h => ?_)
  · obtain ⟨D, as, row, rfl, _⟩ := h
    rfl
  obtain ⟨D, as, row, rfl, hD, st, la, q⟩ := h
  refine ⟨_, (pss_cons (ps_set (i := 1) sc_glyphs_and_kerns.nd rfl (.inl rfl) (pe_lst pa_nil))
  (pss_cons (ps_set (i := 2) sc_glyphs_and_kerns.nd rfl (.inl rfl) (pe_lst (pa_cons pe_int pa_nil)))
  (pss_cons (ps_for (passes_of rfl) rfl (pi_list (pv 0)) (pg_tup (by rfl) (pgs_cons (pg_name (i := 3) sc_glyphs_and_kerns.nd rfl (.inl rfl)) (pgs_cons (pg_name (i := 4) sc_glyphs_and_kerns.nd rfl (.inl rfl)) pgs_nil)))
  (Evl.pss_cut (ps_if (pt_cmpR op_ne (pv 3) (Z.pe_globE T.c_EDGE) (nomark _))
  (pss_cons (ps_expr (pe_bm PySem.F.plainAttrs_list PySem.F.slot_list_append PySem.F.type_list_append mt_append (pv 1) (pa_cons (pv 3) pa_nil)))
  (pss_one (ps_expr (pe_bm PySem.F.plainAttrs_list PySem.F.slot_list_append PySem.F.type_list_append mt_append (pv 2) (pa_cons pe_int pa_nil)))))
  pss_nil)
  (pss_one (ps_augS (pv 2) (pe_un un_neg pe_int) Z.get_list (pv 4) ip_add set_list))))
  (pss_one (ps_ret (pe_tup (pa_cons (pv 1) (pa_cons (pv 2) pa_nil)))))))), ?_⟩
  walk_at "z"
  intro G H1 fG s1 hG
  walk_at "z"
  intro L H2 fL s2 hL
  walk_at "z"
  have hG2 := s2 _ _ hG
  have nLG : L ≠ G := (ne_of_none hG fL).symm
  have s02 := s1.trans s2
  have hD2 := s02 _ _ hD
  have fL0 : H L = none := by
    cases e : H L with
    | none => rfl
    | some o => rw [s1 _ _ e] at fL; cases fL
  have lst := st.len
  refine z_forL (fun R q => q) (.inl (.inl hD2)) (fun i σ' H' => (∃ x3 x4, σ' = [some (.ref D), some (.ref G), some (.ref L), x3, x4]) ∧ Same H H' ∧ H' G = some (.lst ((gkF (row.take i)).1.map V.int)) ∧ H' L = some (.lst (((gkF (row.take i)).2.1 ++ [(gkF (row.take i)).2.2]).map V.int)))
    ⟨⟨_, _, rfl⟩, s02, hG2, hL⟩ (fun i σ' H' _ h => .inl (.inl (h.2.1 _ _ hD))) ?_ ?_
  · rintro i x σ' H3 hx ⟨⟨x3, x4, rfl⟩, s3, hG3, hL3⟩
    rw [List.getElem?_map] at hx
    cases ha : as[i]? with
    | none => rw [ha] at hx; cases hx
    | some a =>
      rw [ha] at hx
      cases hx
      obtain ⟨p, hp, hpa⟩ := st.get ha
      have hp3 : H3 a = some (.tup [.int p.1, .int p.2]) := s3 _ _ hpa
      have hi := (List.getElem?_eq_some_iff.mp ha).1
      have gl := gkF_len (row.take i)
      have lt : (row.take i).length ≤ i := by rw [List.length_take]; omega
      have et : row.take (i + 1) = row.take i ++ [p] := by rw [List.take_add_one, hp]; rfl
      rw [et, gkF_snoc]
      generalize gkF (row.take i) = s at *
      obtain ⟨g, ki, kl⟩ := s
      dsimp only at *
      rw [List.map_append] at hL3
      walk_at "z"
      refine z_cut (fun σ' H' => σ' = [some (.ref D), some (.ref G), some (.ref L), some (.int p.1), some (.int p.2)] ∧ Same H H' ∧ H' G = some (.lst ((gkS (g, ki, kl) p).1.map V.int)) ∧ ∃ k0, H' L = some (.lst ((gkS (g, ki, kl) p).2.1.map V.int ++ [.int k0])) ∧ k0 + p.2 = (gkS (g, ki, kl) p).2.2) ?_ ?_
      · walk_at "z"
        unfold gkS
        refine z_if (fun c => ?_) (fun c => ?_)
        · rw [if_neg c]
          walk_at "z"
          refine z_bmL (fun R q => by walk_at "z"; exact q) hG3 ?_
          walk_at "z"
          refine z_append hG3 (by rw [List.length_map]; omega) ?_
          walk_at "z"
          have hL4 : upd H3 G (.lst (g.map V.int ++ [.int p.1])) L = some (.lst (ki.map V.int ++ [kl].map V.int)) := by rw [upd_ne nLG]; exact hL3
          refine z_bmL (fun R q => by walk_at "z"; exact q) hL4 ?_
          walk_at "z"
          refine z_appendW hL4 (by simp only [List.length_append, List.length_map, List.length_singleton]; omega) ?_
          walk_at "z"
          refine ⟨rfl, keep_new fL0 (keep_new fG s3 kp_at) kp_at, ?_, 0, ?_, by rw [Int.zero_add]⟩
          · rw [upd_ne nLG.symm, upd_same, List.map_append]
            rfl
          · rw [upd_same, List.map_append]
        · have c : p.1 = 128 := Decidable.of_not_not c
          rw [if_pos c]
          walk_at "z"
          exact ⟨rfl, s3, hG3, kl, hL3, rfl⟩
      · rintro σ' H4 ⟨rfl, s4, hG4, k0, hL4, ek⟩
        walk_at "z"
        refine z_augS ?_
        walk_at "z"
        refine ⟨L, _, _, _, rfl, rfl, .inl (.inl hL4), atI_last _ _, ?_⟩
        walk_at "z"
        refine z_ipI ?_
        refine z_setL hL4 (ixN_last _ _) ?_
        rw [set_last, ek]
        refine ⟨⟨_, _, rfl⟩, keep_new fL0 s4 kp_at, ?_, ?_⟩
        · rw [upd_ne nLG.symm]
          exact hG4
        · rw [upd_same, List.map_append]
          rfl
  · rintro σ' H3 ⟨⟨x3, x4, rfl⟩, s3, hG3, hL3⟩
    rw [List.length_map, lst, List.take_length] at hG3 hL3
    walk_at "z"
    intro t H4 f4 s4 h4
    exact q t G L H4 (s3.trans s4) h4 fG fL0 nLG.symm (s4 _ _ hG3) (s4 _ _ hL3)
end


def PostL (K : PySem.W.Frag) (A : Nat → Addr) (H : Hp) (Q : VK) (E : XK) : Option (List Pr) → Prop
  | none => ∀ H', Same H H' → E (.ref (A 2)) none H'
  | some row => ∀ t G L H', Same H H' → H' t = some (.tup [.ref G, .ref L]) → H G = none → H L = none → G ≠ L → H' G = some (.lst ((gkF row).1.map V.int)) → H' L = some (.lst (((gkF row).2.1 ++ [(gkF row).2.2]).map V.int)) → Q (.ref t) H'


def sp_set_line (K : PySem.W.Frag) (A : Nat → Addr) : Sp := fun vs H Q E => ∃ (v u : V) (c : Addr) (steps : List Stp) (labels : List (Int × Nat)) (C cs : List Int), vs = [v, u, .ref c] ∧ Rules K H v u steps labels C ∧ SqL K H c (cs.map V.int) ∧ (128 : Int) ∈ C ∧ (∀ x ∈ cs, x ∈ C) ∧
  (¬ AllEnd (fun l r => ruleF steps l r labels) C → ∀ H', Same H H' → E (.ref (A 3)) none H') ∧ (AllEnd (fun l r => ruleF steps l r labels) C → (400 < cs.length + 2 → ∀ H', Same H H' → E (.ref (A 2)) none H') ∧
    (cs.length + 2 ≤ 400 → ∀ k res, runS (fun l r => ruleF steps l r labels) k ⟨[], 128, cs ++ [128]⟩ = some res → PostL K A H Q E res))


section
theorem ok_set_line {P : Program} {w : World} {K : PySem.W.Frag} {mg : Str → Option Value} {base : Heap} {A : Nat → Addr} {D : Nat → FuncData} (T : Txt K mg A D) : FnOk P w K mg base (L2.CX P w) 5 (A 21) (D 21) ["steps", "labels", "codes"] (sp_set_line K A) := by
  refine T.F_set_line.okX sc_set_line (fun vs H Q E h => ?_) (fun cdv A' outer s H vs Q E hr h => ?_)
  · obtain ⟨v, u, c, steps, labels, C, cs, rfl, _⟩ := h
    rfl
  obtain ⟨v, u, c, steps, labels, C, cs, rfl, ru, hc, m128, mcs, no, yes⟩ := h
  refine ⟨_, (pss_cons (ps_if (Z.pt_tru (pe_call (ok_endless_pairs T) (hr.mono (by decide)) (by rfl) T.m_endless_pairs T.F_endless_pairs.kp T.b_endless_pairs .nil (passes_call (takes_of rfl rfl rfl rfl) (fun _ _ _ _ h => h)) (pa_cons (pv 0) (pa_cons (pv 1) pa_nil))) (by intro _; rfl))
  (pss_one (ps_raise rfl (takes_of rfl rfl rfl rfl) (Z.pmk T.x_EndlessPair (by rfl))))
  pss_nil)
  (pss_cons (ps_expr (pe_call (ok_check_length T) (hr.mono (by decide)) (by rfl) T.m_check_length T.F_check_length.kp T.b_check_length .nil (passes_call (takes_of rfl rfl rfl rfl) (fun _ _ _ _ h => h)) (pa_cons (pe_op op_add (pe_callB Z.c_len (by rfl) T.z_len (by decide +kernel) (pa_cons (pv 2) pa_nil)) pe_int) pa_nil)))
  (pss_one (ps_ret (pe_call (ok_glyphs_and_kerns T) (hr.mono (by decide)) (by rfl) T.m_glyphs_and_kerns T.F_glyphs_and_kerns.kp T.b_glyphs_and_kerns .nil (passes_call (takes_of rfl rfl rfl rfl) (fun _ _ _ _ h => h)) (pa_cons (pe_call (ok_set_row T) (hr.mono (by decide)) (by rfl) T.m_set_row T.F_set_row.kp T.b_set_row .nil (passes_call (takes_of rfl rfl rfl rfl) (fun _ _ _ _ h => h)) (pa_cons (pe_call (ok_rules_of T) (hr.mono (by decide)) (by rfl) T.m_rules_of T.F_rules_of.kp T.b_rules_of .nil (passes_call (takes_of rfl rfl rfl rfl) (fun _ _ _ _ h => h)) (pa_cons (pv 0) (pa_cons (pv 1) pa_nil))) (pa_cons (pv 2) pa_nil))) pa_nil)))))), ?_⟩
  walk_at "z"
  refine ⟨v, u, steps, labels, C, rfl, ru, fun L as ps H1 fL s1 hL st nd srt mem => ?_⟩
  refine z_truL hL ?_
  by_cases ae : AllEnd (fun l r => ruleF steps l r labels) C
  · have ep : ps = [] := by
      cases ps with
      | nil => rfl
      | cons p r =>
        obtain ⟨a, b, e⟩ := (mem p).mp (.head _)
        exact absurd e (ae p a b)
    subst ep
    cases as with
    | cons a r => exact st.elim
    | nil =>
      walk_at "z"
      have hc1 := s1.seq hc
      refine z_lenL hc1 ?_
      rw [List.length_map]
      walk_at "z"
      obtain ⟨y1, y2⟩ := yes ae
      refine ⟨_, rfl, fun cc => y1 (by omega) H1 s1, fun cc => ?_⟩
      walk_at "z"
      have y2 := y2 (by omega)
      obtain ⟨k, res, run⟩ := run_ends (R := fun l r => ruleF steps l r labels) ru.wf ae (ahead := cs ++ [128]) (here := 128) [] m128 (fun x hx => by
        rcases List.mem_append.mp hx with h | h
        · exact mcs x h
        · rw [List.mem_singleton.mp h]; exact m128)
      have post := y2 k res run
      refine ⟨v, u, steps, labels, C, rfl, ru.tk (TK.of s1), fun d kvs H2 fd s2 hd rd => ?_⟩
      walk_at "z"
      have s12 := s1.trans s2
      refine ⟨d, c, kvs, _, C, cs, k, res, rfl, hd, rd, ru.wf, s2.seq hc1, by omega, run, fun e H3 s3 => ?_, fun done e D as H3 fD s3 hD sd ld => ?_⟩
      · subst e
        exact post H3 (s12.trans s3)
      · subst e
        have s13 := s12.trans s3
        have fr : ∀ x, H3 x = none → H x = none := fun x e => by
          cases e2 : H x with
          | none => rfl
          | some o => rw [s13 _ _ e2] at e; cases e
        walk_at "z"
        exact ⟨D, as, done, rfl, hD, sd, ld, fun t G L' H4 s4 h4 fG fL' n hG hL' => post t G L' H4 (s13.trans s4) h4 (fr G fG) (fr L' fL') n hG hL'⟩
  · have ep : ∃ p r, ps = p :: r := by
      cases ps with
      | nil => exact absurd (fun p a b e => nomatch (mem p).mpr ⟨a, b, e⟩) ae
      | cons p r => exact ⟨p, r, rfl⟩
    obtain ⟨p, r, rfl⟩ := ep
    cases as with
    | nil => exact st.elim
    | cons a r2 =>
      walk_at "z"
      exact no ae H1 s1
end

/-! ### more fuel -/
theorem run_mono {R : RuleT} {res : Option (List Pr)} : ∀ {k : Nat} {s : RowS}, runS R k s = some res → runS R (k + 1) s = some res
  | 0, _, h => by cases h
  | k + 1, ⟨done, here, ahead⟩, h => by
    cases ahead with
    | nil => exact h
    | cons r rest =>
      rw [runS_go rfl] at h ⊢
      split at h
      · rename_i c
        rw [if_pos c]
        exact h
      · rename_i c
        rw [if_neg c]
        exact run_mono h
theorem run_add {R : RuleT} {res : Option (List Pr)} {k : Nat} {s : RowS} (h : runS R k s = some res) : ∀ j, runS R (k + j) s = some res
  | 0 => h
  | j + 1 => run_mono (run_add h j)
theorem run_det {R : RuleT} {a b : Option (List Pr)} {j k : Nat} {s : RowS} (h1 : runS R j s = some a) (h2 : runS R k s = some b) : a = b := by
  have e1 := run_add h1 k
  have e2 := run_add h2 j
  rw [Nat.add_comm, e2] at e1
  exact (Option.some.inj e1).symm
/-! ### kerns alone -/
def onlyK : Option Act → Prop
  | some (.lig _ _ _ _) => False
  | _ => True
theorem app_only {l r : Int} {o : Option Act} (h : onlyK o) : appI l r o = ([l, r], 1) := by
  cases o with
  | none => rfl
  | some a =>
    cases a with
    | kern n => rfl
    | lig c x y n => exact h.elim
def kpF (R : RuleT) : Int → List Int → List Pr
  | h, [] => [(h, 0)]
  | h, r :: rest => (h, kernO (R h r)) :: kpF R r rest
theorem run_only {R : RuleT} (ok : ∀ l r, onlyK (R l r)) : ∀ {ahead : List Int} {here : Int} {done : List Pr} (k : Nat), done.length + ahead.length ≤ 390 → runS R (k + ahead.length + 1) ⟨done, here, ahead⟩ = some (some (done ++ kpF R here ahead))
  | [], here, done, k, _ => rfl
  | r :: rest, here, done, k, h => by
    rw [List.length_cons] at h
    have ea : appP R (here, r) = ([here, r], 1) := app_only (ok here r)
    have e : k + (r :: rest).length + 1 = (k + rest.length + 1) + 1 := by rw [List.length_cons]; omega
    rw [e, runS_go rfl]
    have el : lenS R ⟨done, here, r :: rest⟩ r rest = done.length + 2 + rest.length := by
      unfold lenS
      rw [ea]
      rfl
    rw [el, if_neg (by omega)]
    have es : stepS R ⟨done, here, r :: rest⟩ r rest = ⟨done ++ [(here, kernO (R here r))], r, rest⟩ := by
      unfold stepS
      dsimp only
      rw [ea]
      rfl
    rw [es, run_only ok k (by rw [List.length_append, List.length_singleton]; omega), List.append_assoc]
    rfl
/-- the kerns between neighbors -/
def knF (R : RuleT) : Int → List Int → List Int
  | _, [] => []
  | h, r :: rest => kernO (R h r) :: knF R r rest
theorem gk_mid {R : RuleT} : ∀ {line : List Int} {h : Int} (g ki : List Int) (kl : Int), (∀ x ∈ line, x ≠ 128) →
    ∃ ki' kl', ((kpF R h (line ++ [128])).foldl gkS (g, ki, kl)) = (g ++ (if h = 128 then [] else [h]) ++ line, ki', kl') ∧ ki' ++ [kl'] = (if h = 128 then ki else ki ++ [kl]) ++ ((if h = 128 then kl else 0) + kernO (R h ((line ++ [128]).headD 0))) :: (knF R h (line ++ [128])).tail
  | [], h, g, ki, kl, _ => by
    show ∃ ki' kl', [(h, kernO (R h 128)), ((128 : Int), (0 : Int))].foldl gkS (g, ki, kl) = _ ∧ _
    by_cases c : h = 128
    · subst c
      refine ⟨ki, kl + kernO (R 128 128) + 0, ?_, ?_⟩
      · show gkS (gkS (g, ki, kl) (128, kernO (R 128 128))) (128, 0) = _
        unfold gkS
        simp
      · simp [knF]
    · refine ⟨ki ++ [kl], kernO (R h 128) + 0, ?_, ?_⟩
      · show gkS (gkS (g, ki, kl) (h, kernO (R h 128))) (128, 0) = _
        unfold gkS
        simp [c]
      · simp [knF, c]
  | y :: r, h, g, ki, kl, hx => by
    have ny := hx y (.head _)
    show ∃ ki' kl', ((h, kernO (R h y)) :: kpF R y (r ++ [128])).foldl gkS (g, ki, kl) = _ ∧ _
    rw [List.foldl_cons]
    by_cases c : h = 128
    · subst c
      obtain ⟨ki', kl', e1, e2⟩ := gk_mid (R := R) (h := y) g ki (kl + kernO (R 128 y)) fun x hx' => hx x (.tail _ hx')
      have es : gkS (g, ki, kl) (128, kernO (R 128 y)) = (g, ki, kl + kernO (R 128 y)) := by unfold gkS; simp
      rw [es, e1]
      refine ⟨ki', kl', by simp [ny], ?_⟩
      rw [e2]
      cases r <;> simp [ny, knF]
    · obtain ⟨ki', kl', e1, e2⟩ := gk_mid (R := R) (h := y) (g ++ [h]) (ki ++ [kl]) (kernO (R h y)) fun x hx' => hx x (.tail _ hx')
      have es : gkS (g, ki, kl) (h, kernO (R h y)) = (g ++ [h], ki ++ [kl], kernO (R h y)) := by unfold gkS; simp [c]
      rw [es, e1]
      refine ⟨ki', kl', by simp [ny, c], ?_⟩
      rw [e2]
      cases r <;> simp [ny, knF, c]
theorem gk_line {R : RuleT} {line : List Int} (h : ∀ x ∈ line, x ≠ 128) : (gkF (kpF R 128 (line ++ [128]))).1 = line ∧ (gkF (kpF R 128 (line ++ [128]))).2.1 ++ [(gkF (kpF R 128 (line ++ [128]))).2.2] = knF R 128 (line ++ [128]) := by
  obtain ⟨ki', kl', e1, e2⟩ := gk_mid (R := R) (h := 128) [] [] 0 h
  unfold gkF
  rw [e1]
  refine ⟨by simp, ?_⟩
  rw [e2]
  cases line <;> simp [knF]
/-- every action made a kern -/
def kernA : Act → Act
  | .kern n => .kern n
  | .lig c _ _ _ => .kern c
def kernS (s : Stp) : Stp := ⟨s.right, kernA s.act, s.last⟩
theorem firstA_kern {right : Int} : ∀ ss : List Stp, firstA right (ss.map kernS) = (firstA right ss).map kernA
  | [] => rfl
  | s :: r => by
    show (if s.right = right then some (kernA s.act) else if s.last then none else firstA right (r.map kernS)) = (if s.right = right then some s.act else if s.last then none else firstA right r).map kernA
    rw [firstA_kern r]
    split
    · rfl
    · split <;> rfl
theorem ruleF_only {ss : List Stp} {l r : Int} : ∀ ls : List (Int × Nat), onlyK (ruleF (ss.map kernS) l r ls)
  | [] => trivial
  | x :: xs => by
    unfold ruleF
    split
    · rw [← List.map_drop, firstA_kern]
      cases firstA r (ss.drop x.2) with
      | none => trivial
      | some a => cases a <;> exact trivial
    · exact ruleF_only xs
def optD : Option Act → PyData
  | none => .none
  | some a => actD a
theorem OptA.dp {K : PySem.W.Frag} {H : Hp} {v : V} {o : Option Act} (h : OptA K H v o) : Dp K H v (optD o) := by
  cases o with
  | none =>
    have h : v = .non := h
    subst h
    exact .non
  | some a => exact h
theorem fl_one {ds : List PyData} {n : Nat} {d : PyData} (h : Fl n d) (k : ∀ x ∈ ds, Fl n x) : ∀ x ∈ d :: ds, Fl n x := fun x hx => (List.mem_cons.mp hx).elim (fun e => by rw [e]; exact h) (k x)
theorem fl_act (a : Act) : Fl 1 (actD a) := by
  have no : ∀ x ∈ ([] : List PyData), Fl 0 x := fun _ h => nomatch h
  cases a with
  | kern n => exact fl_tup (fl_one ⟨by decide +kernel, by decide⟩ (fl_one (fl_int n) no))
  | lig c l r n => exact fl_tup (fl_one ⟨by decide +kernel, by decide⟩ (fl_one (fl_int c) (fl_one ⟨rfl, Nat.le_refl _⟩ (fl_one ⟨rfl, Nat.le_refl _⟩ (fl_one (fl_int n) no)))))
theorem shaped_opt (o : Option Act) : SeqAt.shaped (optD o) = true := by
  cases o with
  | none => exact shaped_fl (n := 0) ⟨rfl, Nat.le_refl _⟩ (by decide)
  | some a => exact shaped_fl (fl_act a) (by decide)
def twoL (a b : List Int) : PyData := .tuple [.list (a.map .int), .list (b.map .int)]
theorem shaped_two (a b : List Int) : SeqAt.shaped (twoL a b) = true := by
  refine shaped_fl (n := 2) (fl_tup fun d hd => ?_) (by decide)
  rcases List.mem_cons.mp hd with rfl | hd
  · exact fl_ints a
  · rw [List.mem_singleton.mp hd]
    exact fl_ints b
theorem only_end {R : RuleT} (ok : ∀ l r, onlyK (R l r)) (C : List Int) : AllEnd R C := fun p _ _ z => by
  have := ok p.1 p.2
  cases e : R p.1 p.2 with
  | none => exact (end_free e).not z
  | some a =>
    cases a with
    | kern n => exact (end_kern e).not z
    | lig c x y n => rw [e] at this; exact this
theorem knF_len {R : RuleT} : ∀ {rest : List Int} {h : Int}, (knF R h rest).length = rest.length
  | [], _ => rfl
  | r :: rest, h => by
    show (knF R r rest).length + 1 = rest.length + 1
    rw [knF_len]
theorem knF_at {R : RuleT} : ∀ {rest : List Int} {h : Int} {k : Nat} {a b : Int}, (h :: rest)[k]? = some a → rest[k]? = some b → (knF R h rest)[k]? = some (kernO (R a b))
  | r :: rest, h, 0, a, b, e1, e2 => by cases e1; cases e2; rfl
  | r :: rest, h, k + 1, a, b, e1, e2 => knF_at (rest := rest) (h := r) (k := k) (by simpa using e1) (by simpa using e2)
local macro_rules | `(tactic| walk_at "z1") => `(tactic| first
  | with_reducible refine z_max2 ?_
  | with_reducible refine z_min2 ?_
  | with_reducible refine z_tru ?_
  | with_reducible refine Cw.z_fldE ?_
  | with_reducible refine Cw.z_sfldE ?_
  | with_reducible refine Cw.z_methE ?_
  | with_reducible refine Cw.z_methSE ?_
  | with_reducible refine Cw.z_methNSE ?_
  | with_reducible refine Cw.z_methNE ?_
  | with_reducible refine Cw.z_make ?_)
/-! ### tables -/
/-- gs are the groups of a table of at most n values -/
def IsT (ns : List Int) (n : Nat) (gs : List GP) : Prop := ∃ e ms, Asc ms ∧ (∀ k, k ∈ ms ↔ k ∈ ns ∧ 0 < k) ∧ Tol ms n e ∧ gs = grp e ms
theorem IsT.one {ns : List Int} {n : Nat} {gs gs' : List GP} (h : IsT ns n gs) (h' : IsT ns n gs') : gs = gs' := by
  obtain ⟨e, ms, a, m, t, rfl⟩ := h
  obtain ⟨e', ms', a', m', t', rfl⟩ := h'
  have := asc_ext a a' (fun k => (m k).trans (m' k).symm)
  subst this
  rw [t.one t']
def tvF (gs : List GP) (v : Int) : Int := match gs.find? (fun g => decide (g.1 ≤ v) && decide (v ≤ g.2)) with
  | some g => mid g
  | none => 0
theorem tvF_eq {ns : List Int} {n : Nat} {gs : List GP} (h : IsT ns n gs) {v t : Int} (c : (∃ g ∈ gs, g.1 ≤ v ∧ v ≤ g.2 ∧ t = mid g) ∨ ((∀ g ∈ gs, ¬ (g.1 ≤ v ∧ v ≤ g.2)) ∧ t = 0)) : t = tvF gs v := by
  obtain ⟨e, ms, a, m, tl, rfl⟩ := h
  unfold tvF
  rcases c with ⟨g, hg, h1, h2, rfl⟩ | ⟨no, rfl⟩
  · cases hf : (grp e ms).find? (fun g => decide (g.1 ≤ v) && decide (v ≤ g.2)) with
    | none =>
      have := List.find?_eq_none.mp hf g hg
      simp [h1, h2] at this
    | some g' =>
      have h3 := List.find?_some hf
      rw [Bool.and_eq_true, decide_eq_true_eq, decide_eq_true_eq] at h3
      have := grp_one (x := v) tl.1 a hg (List.mem_of_find?_eq_some hf) ⟨h1, h2⟩ h3
      rw [this]
  · cases hf : (grp e ms).find? (fun g => decide (g.1 ≤ v) && decide (v ≤ g.2)) with
    | none => rfl
    | some g' =>
      have h3 := List.find?_some hf
      rw [Bool.and_eq_true, decide_eq_true_eq, decide_eq_true_eq] at h3
      exact absurd h3 (no _ (List.mem_of_find?_eq_some hf))
theorem tvF_0 {ns : List Int} {n : Nat} {gs : List GP} (h : IsT ns n gs) : tvF gs 0 = 0 := by
  obtain ⟨e, ms, a, m, tl, rfl⟩ := h
  unfold tvF
  cases hf : (grp e ms).find? (fun g => decide (g.1 ≤ 0) && decide (0 ≤ g.2)) with
  | none => rfl
  | some g' =>
    have h3 := List.find?_some hf
    rw [Bool.and_eq_true, decide_eq_true_eq, decide_eq_true_eq] at h3
    have := (grp_ok tl.1 a g' (List.mem_of_find?_eq_some hf)).1
    have := ((m _).mp this).2
    omega
/-! ### the font -/
abbrev Chr := Int × List Int
def chD (c : Chr) : PyData := .tuple [.int c.1, .int 0, .int 0, .tuple [], .tuple (c.2.map .int)]
theorem lk0 {f : Str} {v : V} {l : List (Str × V)} : ((f, v) :: l).lookup f = some v := by
  rw [List.lookup_cons]
  have : (f == f) = true := by simp
  rw [this]
theorem lkc {f g : Str} {v : V} {l : List (Str × V)} (h : (f == g) = false) : ((g, v) :: l).lookup f = l.lookup f := by
  rw [List.lookup_cons, h]
def fs3 (x y z : V) : List (Str × V) := [("characters", x), ("steps", y), ("labels", z)]
section
variable {x y z : V}
theorem lk_chs : (fs3 x y z).lookup ("characters" : Str) = some x := lk0
theorem lk_sts : (fs3 x y z).lookup ("steps" : Str) = some y := by
  unfold fs3
  rw [lkc (by decide +kernel)]
  exact lk0
theorem lk_lbs : (fs3 x y z).lookup ("labels" : Str) = some z := by
  unfold fs3
  rw [lkc (by decide +kernel), lkc (by decide +kernel)]
  exact lk0
theorem lk_no {m : Str} (h : (["characters", "steps", "labels"] : List Str).all (fun f => !(m == f)) = true) : (fs3 x y z).lookup m = none := by
  simp only [List.all_cons, List.all_nil, Bool.and_true, Bool.and_eq_true, Bool.not_eq_true'] at h
  obtain ⟨h1, h2, h3⟩ := h
  unfold fs3
  rw [lkc h1, lkc h2, lkc h3]
  rfl
end
structure FontAt (C : Addr) (K : PySem.W.Frag) (H : Hp) (p : Addr) (chs : List Chr) (ss : List Stp) (ls : List (Int × Nat)) : Prop where
  ins : ∃ dx t ts v u, H p = some (.ins C dx (fs3 (.ref t) v u)) ∧ SqT K H t ts ∧ DpAll K H ts (chs.map chD) ∧ Dp K H v (stsT ss) ∧ Dp K H u (labT ls)
  four : ∀ c ∈ chs, c.2.length = 4
  n : chs.length ≤ 24
theorem FontAt.mono {C : Addr} {K : PySem.W.Frag} {H H' : Hp} {p : Addr} {chs : List Chr} {ss : List Stp} {ls : List (Int × Nat)} (s : Same H H') (h : FontAt C K H p chs ss ls) : FontAt C K H' p chs ss ls := by
  obtain ⟨dx, t, ts, v, u, h1, h2, h3, h4, h5⟩ := h.ins
  exact ⟨⟨dx, t, ts, v, u, s _ _ h1, seqT_tk (TK.of s) h2, dp_monoA s h3, dp_mono s h4, dp_mono s h5⟩, h.four, h.n⟩
theorem dp_ch {K : PySem.W.Frag} {H : Hp} {v : V} {c : Chr} (h : Dp K H v (chD c)) : ∃ a w3 m, v = .ref a ∧ SqT K H a [.int c.1, .int 0, .int 0, w3, .ref m] ∧ SqT K H m (c.2.map V.int) := by
  obtain ⟨a, vs, rfl, ha, la⟩ := dp_tup h
  obtain ⟨v1, r1, rfl, d1, la⟩ := dpa_cons la
  obtain ⟨v2, r2, rfl, d2, la⟩ := dpa_cons la
  obtain ⟨v3, r3, rfl, d3, la⟩ := dpa_cons la
  obtain ⟨v4, r4, rfl, d4, la⟩ := dpa_cons la
  obtain ⟨v5, r5, rfl, d5, la⟩ := dpa_cons la
  have e := dpa_nil la
  subst e
  rw [dp_int d1, dp_int d2, dp_int d3] at ha
  obtain ⟨m, ms, rfl, hm, lm⟩ := dp_tup d5
  have em : ∀ {x : List Int} {vs : List V}, DpAll K H vs (x.map PyData.int) → vs = x.map V.int := fun {x} => by
    induction x with
    | nil => exact fun h => dpa_nil h
    | cons i x ih =>
      intro vs h
      obtain ⟨v, r, rfl, h1, h2⟩ := dpa_cons h
      rw [dp_int h1, ih h2]
      rfl
  rw [em lm] at hm
  exact ⟨a, v4, m, rfl, ha, hm⟩
theorem ch_at {K : PySem.W.Frag} {H : Hp} {ts : List V} {chs : List Chr} {i : Nat} {v : V} (h : DpAll K H ts (chs.map chD)) (e : ts[i]? = some v) : ∃ c, chs[i]? = some c ∧ Dp K H v (chD c) := dpa_atM h e
def sp_Font_init (K : PySem.W.Frag) (C : Addr) : Sp := fun vs H Q _ => ∃ (p dx t a b : Addr) (ts as bs : List V) (chs : List Chr) (ss : List Stp) (ls : List (Int × Nat)), vs = [.ref p, .ref t, .ref a, .ref b] ∧ H p = some (.ins C dx []) ∧ SqT K H t ts ∧ DpAll K H ts (chs.map chD) ∧ SqT K H a as ∧ DpAll K H as (ss.map stpD) ∧ SqT K H b bs ∧ DpAll K H bs (ls.map labD) ∧
  (∀ c ∈ chs, c.2.length = 4) ∧ chs.length ≤ 24 ∧ ∀ H', Kp p H H' → FontAt C K H' p chs ss ls → Q .non H'
theorem ch_tup (chs : List Chr) : tupOnlyA (chs.map chD) = true := by
  induction chs with
  | nil => rfl
  | cons c chs ih =>
    have : ∀ x : List Int, tupOnlyA (x.map PyData.int) = true := fun x => by
      induction x with
      | nil => rfl
      | cons i x ih => exact ih
    have e : tupOnly (chD c) = true := by
      show (true && (true && (true && (true && (tupOnlyA (c.2.map PyData.int) && true))))) = true
      rw [this]
      rfl
    show (tupOnly (chD c) && tupOnlyA (chs.map chD)) = true
    rw [e, ih]
    rfl
section
theorem ok_Font___init__ {P : Program} {w : World} {K : PySem.W.Frag} {mg : Str → Option Value} {base : Heap} {A : Nat → Addr} {D : Nat → FuncData} (T : Txt K mg A D) : FnOk P w K mg base (L2.CX P w) 1 (A 26) (D 26) ["self", "characters", "steps", "labels"] (sp_Font_init K (A 4)) := by
  refine T.F_Font___init__.okX sc_Font___init__ (fun vs H Q E h => ?_) (fun cdv A' outer s H vs Q E hr h => ?_)
  · obtain ⟨p, dx, t, a, b, ts, as, bs, chs, ss, ls, rfl, _⟩ := h
    rfl
  obtain ⟨p, dx, t, a, b, ts, as, bs, chs, ss, ls, rfl, hp, ht, dt, ha, da, hb, db, f4, n24, q⟩ := h
  refine ⟨_, (pss_cons (ps_fld (pv 0) (pe_callTy Z.c_tupOf (by rfl) T.z_tuple (by decide +kernel) (pa_cons (pv 1) pa_nil)) rfl)
  (pss_cons (ps_fld (pv 0) (pe_callTy Z.c_tupOf (by rfl) T.z_tuple (by decide +kernel) (pa_cons (pv 2) pa_nil)) rfl)
  (pss_one (ps_fld (pv 0) (pe_callTy Z.c_tupOf (by rfl) T.z_tuple (by decide +kernel) (pa_cons (pv 3) pa_nil)) rfl)))), ?_⟩
  walk_at "z"
  refine z_tupOfT ht ?_
  walk_at "z"
  refine Cw.z_sfld hp T.q_Font T.nf_Font_characters (by decide) ?_
  have k1 : TK H (upd H p (.ins (A 4) dx (putF "characters" (.ref t) []))) := TK.kp kp_at hp (fun z => z)
  have e1 : upd H p (.ins (A 4) dx (putF "characters" (.ref t) [])) p = some (.ins (A 4) dx [("characters", .ref t)]) := by rw [upd_same]; rfl
  have j1 : Kp p H (upd H p (.ins (A 4) dx (putF "characters" (.ref t) []))) := kp_at
  generalize upd H p (.ins (A 4) dx (putF "characters" (.ref t) [])) = H1 at *
  walk_at "z"
  refine z_tupOfT (seqT_tk k1 ha) ?_
  walk_at "z"
  refine Cw.z_sfld e1 T.q_Font T.nf_Font_steps (Nat.lt_of_le_of_lt (Nat.le_refl 1) (by decide)) ?_
  have k2 : TK H1 (upd H1 p (.ins (A 4) dx (putF "steps" (.ref a) [("characters", .ref t)]))) := TK.kp kp_at e1 (fun z => z)
  have e2 : upd H1 p (.ins (A 4) dx (putF "steps" (.ref a) [("characters", .ref t)])) p = some (.ins (A 4) dx [("characters", .ref t), ("steps", .ref a)]) := by
    rw [upd_same]
    with_unfolding_all rfl
  have j2 : Kp p H1 (upd H1 p (.ins (A 4) dx (putF "steps" (.ref a) [("characters", .ref t)]))) := kp_at
  generalize upd H1 p (.ins (A 4) dx (putF "steps" (.ref a) [("characters", .ref t)])) = H2 at *
  walk_at "z"
  refine z_tupOfT (seqT_tk k2 (seqT_tk k1 hb)) ?_
  walk_at "z"
  refine Cw.z_sfld e2 T.q_Font T.nf_Font_labels (Nat.lt_of_le_of_lt (Nat.le_refl 2) (by decide)) ?_
  have k3 : TK H2 (upd H2 p (.ins (A 4) dx (putF "labels" (.ref b) [("characters", .ref t), ("steps", .ref a)]))) := TK.kp kp_at e2 (fun z => z)
  have e3 : upd H2 p (.ins (A 4) dx (putF "labels" (.ref b) [("characters", .ref t), ("steps", .ref a)])) p = some (.ins (A 4) dx (fs3 (.ref t) (.ref a) (.ref b))) := by
    rw [upd_same]
    with_unfolding_all rfl
  have j3 : Kp p H2 (upd H2 p (.ins (A 4) dx (putF "labels" (.ref b) [("characters", .ref t), ("steps", .ref a)]))) := kp_at
  generalize upd H2 p (.ins (A 4) dx (putF "labels" (.ref b) [("characters", .ref t), ("steps", .ref a)])) = H3 at *
  walk_at "z"
  have k : TK H H3 := (k1.trans k2).trans k3
  refine q H3 ((j1.trans' j2).trans' j3) ⟨⟨dx, t, ts, .ref a, .ref b, e3, seqT_tk k ht, dp_tkA k (ch_tup chs) dt, dp_tk k (sts_tup ss) (.tup ha da), dp_tk k (lab_tup ls) (.tup hb db)⟩, f4, n24⟩
end
def sp_Font_len (K : PySem.W.Frag) (C : Addr) : Sp := fun vs H Q _ => ∃ (p : Addr) (chs : List Chr) (ss : List Stp) (ls : List (Int × Nat)), vs = [.ref p] ∧ FontAt C K H p chs ss ls ∧ Q (.int (chs.length : Nat)) H
section
theorem ok_Font___len__ {P : Program} {w : World} {K : PySem.W.Frag} {mg : Str → Option Value} {base : Heap} {A : Nat → Addr} {D : Nat → FuncData} (T : Txt K mg A D) : FnOk P w K mg base (L2.CX P w) 1 (A 27) (D 27) ["self"] (sp_Font_len K (A 4)) := by
  refine T.F_Font___len__.okX sc_Font___len__ (fun vs H Q E h => ?_) (fun cdv A' outer s H vs Q E hr h => ?_)
  · obtain ⟨p, chs, ss, ls, rfl, _⟩ := h
    rfl
  obtain ⟨p, chs, ss, ls, rfl, F, q⟩ := h
  refine ⟨_, (pss_one (ps_ret (pe_callB Z.c_len (by rfl) T.z_len (by decide +kernel) (pa_cons (pe_fld (pv 0) rfl) pa_nil)))), ?_⟩
  obtain ⟨dx, t, ts, v, u, h1, h2, h3, h4, h5⟩ := F.ins
  have lt := dpa_lenM h3
  walk_at "z"
  refine Cw.z_fld h1 T.q_Font T.nf_Font_characters lk_chs ?_
  refine z_lenT h2 ?_
  rw [lt]
  exact q
end
def sp_Font_contains (K : PySem.W.Frag) (C : Addr) : Sp := fun vs H Q _ => ∃ (p : Addr) (chs : List Chr) (ss : List Stp) (ls : List (Int × Nat)) (code : Int), vs = [.ref p, .int code] ∧ FontAt C K H p chs ss ls ∧ ∀ H', Same H H' → Q (.bl (decide (code ∈ chs.map Prod.fst))) H'
section
theorem ok_Font___contains__ {P : Program} {w : World} {K : PySem.W.Frag} {mg : Str → Option Value} {base : Heap} {A : Nat → Addr} {D : Nat → FuncData} (T : Txt K mg A D) : FnOk P w K mg base (L2.CX P w) 1 (A 28) (D 28) ["self", "code"] (sp_Font_contains K (A 4)) := by
  refine T.F_Font___contains__.okX sc_Font___contains__ (fun vs H Q E h => ?_) (fun cdv A' outer s H vs Q E hr h => ?_)
  · obtain ⟨p, chs, ss, ls, code, rfl, _⟩ := h
    rfl
  obtain ⟨p, chs, ss, ls, code, rfl, F, q⟩ := h
  refine ⟨_, (pss_one (ps_ret (pe_cmpR op_in_seq (pv 1) (pe_lc (own := [("character", 2)]) (g := gName 2) (tt := tYes) rfl sc_Font___contains__.nd (pi_tup (pe_fld (pv 0) rfl)) (blkOk_by (N := ["self", "code", "character"]) (sc := defScope s_Font___contains__) (by decide +kernel)) (fun _ _ _ _ _ => pg_name (i := 2) sc_Font___contains__.nd rfl (Or.inl rfl)) (fun _ _ _ _ _ => pts_nil) (fun _ _ _ _ _ => (pe_ix (show IxR _ (rIxT K) from ix_tup) (pv 2) pe_int (fun _ _ => rfl)))) (by rfl)))), ?_⟩
  obtain ⟨dx, t, ts, v, u, h1, h2, h3, h4, h5⟩ := F.ins
  have lt := dpa_lenM h3
  have n24 := F.n
  walk_at "z"
  refine Cw.z_valsW (ws := (chs.map Prod.fst).map V.int) (walk_tup (K := K) (a := t) (xs := ts)) (by omega) (fun R r => ?_) (fun H' s => seqT_tk (TK.of s) h2) (by rw [List.length_map, List.length_map, lt]) (fun i x v' H' H2 R hw hi s y k => ?_) fun D H1 f1 s1 e1 => ?_
  · unfold iTup
    walk_at "z"
    refine Cw.z_fld h1 T.q_Font T.nf_Font_characters lk_chs ?_
    exact ⟨t, rfl, ⟨ts, h2⟩, r⟩
  · obtain ⟨rfl, hx⟩ := y
    obtain ⟨c, hc, dc⟩ := ch_at (dp_monoA s h3) hx
    obtain ⟨a, w3, m, rfl, ha, hm⟩ := dp_ch dc
    rw [List.getElem?_map, List.getElem?_map, hc] at hw
    cases hw
    refine z_gName ⟨rfl, ?_⟩
    walk_at "z"
    exact k H2 (Same.refl _)
  · refine z_inI e1 ?_
    exact q H1 s1
end
def sp_Font_iter (K : PySem.W.Frag) (C : Addr) : Sp := fun vs H Q _ => ∃ (p dx t : Addr) (ts : List V) (v u : V), vs = [.ref p] ∧ H p = some (.ins C dx (fs3 (.ref t) v u)) ∧ SqT K H t ts ∧ ∀ it, H it = none → (∀ m o, H m = some o → m < it) → Q (.ref it) (upd H it (Fo.ItT t it))
section
theorem ok_Font___iter__ {P : Program} {w : World} {K : PySem.W.Frag} {mg : Str → Option Value} {base : Heap} {A : Nat → Addr} {D : Nat → FuncData} (T : Txt K mg A D) : FnOk P w K mg base (L2.CX P w) 1 (A 29) (D 29) ["self"] (sp_Font_iter K (A 4)) := by
  refine T.F_Font___iter__.okX sc_Font___iter__ (fun vs H Q E h => ?_) (fun cdv A' outer s H vs Q E hr h => ?_)
  · obtain ⟨p, dx, t, ts, v, u, rfl, _⟩ := h
    rfl
  obtain ⟨p, dx, t, ts, v, u, rfl, h1, h2, q⟩ := h
  refine ⟨_, (pss_one (ps_ret (pe_callB Fo.call_iterT (by rfl) T.z_iter (by decide +kernel) (pa_cons (pe_fld (pv 0) rfl) pa_nil)))), ?_⟩
  walk_at "z"
  refine Cw.z_fld h1 T.q_Font T.nf_Font_characters lk_chs ?_
  walk_at "z"
  exact ⟨t, ts, rfl, h2, q⟩
end
/-- the first character with a code -/
def chF (code : Int) (chs : List Chr) : Option Chr := chs.find? fun c => decide (c.1 = code)
def sp_Font_character (K : PySem.W.Frag) (A : Nat → Addr) : Sp := fun vs H Q E => ∃ (p : Addr) (chs : List Chr) (ss : List Stp) (ls : List (Int × Nat)) (code : Int), vs = [.ref p, .int code] ∧ FontAt (A 4) K H p chs ss ls ∧
  (∀ c v, chF code chs = some c → Dp K H v (chD c) → Q v H) ∧ (chF code chs = none → E (.ref (A 1)) none H)
section
theorem ok_Font_character {P : Program} {w : World} {K : PySem.W.Frag} {mg : Str → Option Value} {base : Heap} {A : Nat → Addr} {D : Nat → FuncData} (T : Txt K mg A D) : FnOk P w K mg base (L2.CX P w) 1 (A 30) (D 30) ["self", "code"] (sp_Font_character K A) := by
  refine T.F_Font_character.okX sc_Font_character (fun vs H Q E h => ?_) (fun cdv A' outer s H vs Q E hr h => ?_)
  · obtain ⟨p, chs, ss, ls, code, rfl, _⟩ := h
    rfl
  obtain ⟨p, chs, ss, ls, code, rfl, F, q1, q2⟩ := h
  refine ⟨_, (pss_cons (ps_for (passes_of rfl) rfl (pi_tup (pe_fld (pv 0) rfl)) (pg_name (i := 2) sc_Font_character.nd rfl (.inl rfl))
  (pss_one (ps_if (pt_cmpR op_eq (pe_ix ix_tup (pv 2) pe_int (fun _ _ => rfl)) (pv 1) (nomark _))
  (pss_one (ps_ret (pv 2)))
  pss_nil)))
  (pss_one (ps_raise rfl (takes_of rfl rfl rfl rfl) (Z.pmk T.x_OutOfRange (by rfl))))), ?_⟩
  obtain ⟨dx, t, ts, v, u, h1, h2, h3, h4, h5⟩ := F.ins
  have lt := dpa_lenM h3
  walk_at "z"
  refine Cw.z_fld h1 T.q_Font T.nf_Font_characters lk_chs ?_
  refine z_forTT h2 (fun i σ' H' => H' = H ∧ (∃ u2, σ' = [some (.ref p), some (.int code), u2]) ∧ ∀ j c, j < i → chs[j]? = some c → c.1 ≠ code) ⟨rfl, ⟨_, rfl⟩, fun j c hj => absurd hj (Nat.not_lt_zero _)⟩ (fun i σ' H' _ h => by rw [h.1]; exact h2) ?_ ?_
  · rintro i x σ' H' hx ⟨rfl, ⟨u2, rfl⟩, no⟩
    obtain ⟨c, hc, dc⟩ := ch_at h3 hx
    obtain ⟨a, w3, m, rfl, ha, hm⟩ := dp_ch dc
    walk_at "z"
    refine z_if (fun k => ?_) (fun k => ?_)
    · walk_at "z"
      refine q1 c _ ?_ dc
      unfold chF
      rw [List.find?_eq_some_iff_getElem]
      have hi := (List.getElem?_eq_some_iff.mp hc).1
      refine ⟨decide_eq_true k, i, hi, (List.getElem?_eq_some_iff.mp hc).2, fun j hj => ?_⟩
      have := no j chs[j] hj (List.getElem?_eq_getElem (by omega))
      simp [this]
    · walk_at "z"
      refine ⟨rfl, ⟨_, rfl⟩, fun j c' hj h' => ?_⟩
      rcases Nat.lt_or_ge j i with h | h
      · exact no j c' h h'
      · rw [show j = i by omega, hc] at h'
        cases h'
        exact k
  · rintro σ' H' ⟨rfl, ⟨u2, rfl⟩, no⟩
    rw [lt] at no
    walk_at "z"
    refine q2 ?_
    unfold chF
    rw [List.find?_eq_none]
    intro c hc
    obtain ⟨j, hj⟩ := List.mem_iff_getElem?.mp hc
    have := no j c (List.getElem?_eq_some_iff.mp hj).1 hj
    simp [this]
end
def sp_Font_pixel (K : PySem.W.Frag) (A : Nat → Addr) : Sp := fun vs H Q E => ∃ (p : Addr) (chs : List Chr) (ss : List Stp) (ls : List (Int × Nat)) (code i j : Int), vs = [.ref p, .int code, .int i, .int j] ∧ FontAt (A 4) K H p chs ss ls ∧ chF code chs = none ∧ E (.ref (A 1)) none H
section
theorem ok_Font_pixel {P : Program} {w : World} {K : PySem.W.Frag} {mg : Str → Option Value} {base : Heap} {A : Nat → Addr} {D : Nat → FuncData} (T : Txt K mg A D) : FnOk P w K mg base (L2.CX P w) 2 (A 31) (D 31) ["self", "code", "i", "j"] (sp_Font_pixel K A) := by
  refine T.F_Font_pixel.okX sc_Font_pixel (fun vs H Q E h => ?_) (fun cdv A' outer s H vs Q E hr h => ?_)
  · obtain ⟨p, chs, ss, ls, code, i, j, rfl, _⟩ := h
    rfl
  obtain ⟨p, chs, ss, ls, code, i, j, rfl, F, no, q⟩ := h
  refine ⟨_, (pss_cons (ps_asg (pe_meth (pv 0) T.q_Font T.m_Font_character (ok_Font_character T) (hr.mono (by decide)) T.b_Font_character .nil (passes_call (takes_of rfl rfl rfl rfl) (fun _ _ _ _ h => h)) (pa_cons (pv 1) pa_nil)) (pg_tup (by rfl) (pgs_cons (pg_name (i := 4) sc_Font_pixel.nd rfl (.inl rfl)) (pgs_cons (pg_name (i := 5) sc_Font_pixel.nd rfl (.inl rfl)) (pgs_cons (pg_name (i := 6) sc_Font_pixel.nd rfl (.inl rfl)) (pgs_cons (pg_name (i := 7) sc_Font_pixel.nd rfl (.inl rfl)) (pgs_cons (pg_name (i := 4) sc_Font_pixel.nd rfl (.inl rfl)) pgs_nil)))))))
  (pss_cons Pk.ps_never
  (pss_cons Pk.ps_never
  (pss_cons Pk.ps_never
  (pss_one Pk.ps_never))))), ?_⟩
  obtain ⟨dx, t, ts, v, u, h1, h2, h3, h4, h5⟩ := id F.ins
  walk_at "z"
  refine Cw.z_meth h1 (lk_no (by decide +kernel)) ?_
  walk_at "z"
  exact ⟨p, chs, ss, ls, code, rfl, F, fun c v h => absurd h (by rw [no]; simp), fun _ => q⟩
end
def mvF (chs : List Chr) (m : Nat) : List Int := chs.map fun c => c.2.getD m 0
def sp_Font_metric_values (K : PySem.W.Frag) (C : Addr) : Sp := fun vs H Q _ => ∃ (p : Addr) (chs : List Chr) (ss : List Stp) (ls : List (Int × Nat)) (m : Nat), vs = [.ref p, .int (m : Int)] ∧ FontAt C K H p chs ss ls ∧ m < 4 ∧ ∀ D H', H D = none → Same H H' → H' D = some (.lst ((mvF chs m).map V.int)) → Q (.ref D) H'
section
theorem ok_Font__metric_values {P : Program} {w : World} {K : PySem.W.Frag} {mg : Str → Option Value} {base : Heap} {A : Nat → Addr} {D : Nat → FuncData} (T : Txt K mg A D) : FnOk P w K mg base (L2.CX P w) 1 (A 34) (D 34) ["self", "metric"] (sp_Font_metric_values K (A 4)) := by
  refine T.F_Font__metric_values.okX sc_Font__metric_values (fun vs H Q E h => ?_) (fun cdv A' outer s H vs Q E hr h => ?_)
  · obtain ⟨p, chs, ss, ls, m, rfl, _⟩ := h
    rfl
  obtain ⟨p, chs, ss, ls, m, rfl, F, m4, q⟩ := h
  refine ⟨_, (pss_one (ps_ret (pe_lc (own := [("character", 2)]) (g := gName 2) (tt := tYes) rfl sc_Font__metric_values.nd (pi_tup (pe_fld (pv 0) rfl)) (blkOk_by (N := ["self", "metric", "character"]) (sc := defScope s_Font__metric_values) (by decide +kernel)) (fun _ _ _ _ _ => pg_name (i := 2) sc_Font__metric_values.nd rfl (Or.inl rfl)) (fun _ _ _ _ _ => pts_nil) (fun _ _ _ _ _ => (pe_ix (show IxR _ (rIxT K) from ix_tup) (pe_ix (show IxR _ (rIxT K) from ix_tup) (pv 2) pe_int (fun _ _ => rfl)) (pv 1) (fun _ _ => rfl)))))), ?_⟩
  obtain ⟨dx, t, ts, v, u, h1, h2, h3, h4, h5⟩ := F.ins
  have lt := dpa_lenM h3
  have n24 := F.n
  walk_at "z"
  refine Cw.z_valsW (ws := (mvF chs m).map V.int) (walk_tup (K := K) (a := t) (xs := ts)) (by omega) (fun R r => ?_) (fun H' s => seqT_tk (TK.of s) h2) (by unfold mvF; rw [List.length_map, List.length_map, lt]) (fun i x v' H' H2 R hw hi s y k => ?_) fun D H1 f1 s1 e1 => ?_
  · unfold iTup
    walk_at "z"
    refine Cw.z_fld h1 T.q_Font T.nf_Font_characters lk_chs ?_
    exact ⟨t, rfl, ⟨ts, h2⟩, r⟩
  · obtain ⟨rfl, hx⟩ := y
    obtain ⟨c, hc, dc⟩ := ch_at (dp_monoA s h3) hx
    obtain ⟨a, w3, mm, rfl, ha, hm⟩ := dp_ch dc
    have l4 := F.four c (List.mem_of_getElem? hc)
    unfold mvF at hw
    rw [List.getElem?_map, List.getElem?_map, hc] at hw
    cases hw
    refine z_gName ⟨rfl, ?_⟩
    walk_at "z"
    refine z_ixT hm (v := .int (c.2.getD m 0)) (atI_nat (by rw [List.getElem?_map, List.getD_eq_getElem?_getD, List.getElem?_eq_getElem (by omega)]; rfl)) ?_
    exact k H2 (Same.refl _)
  · exact q D H1 f1 s1 e1
end
def limF (m : Nat) : Nat := [8, 4, 3, 2].getD m 0
theorem lim_at {K : PySem.W.Frag} {H : Hp} {a : Addr} {m : Nat} (h : Dp K H (.ref a) (.tuple [.int 8, .int 4, .int 3, .int 2])) (hm : m < 4) : ∃ xs, SqT K H a xs ∧ atI xs (m : Int) = some (.int (limF m : Nat)) := by
  obtain ⟨a', vs, e, ha, la⟩ := dp_tup h
  cases e
  obtain ⟨v1, r1, rfl, d1, la⟩ := dpa_cons la
  obtain ⟨v2, r2, rfl, d2, la⟩ := dpa_cons la
  obtain ⟨v3, r3, rfl, d3, la⟩ := dpa_cons la
  obtain ⟨v4, r4, rfl, d4, la⟩ := dpa_cons la
  have e := dpa_nil la
  subst e
  rw [dp_int d1, dp_int d2, dp_int d3, dp_int d4] at ha
  refine ⟨_, ha, ?_⟩
  have : m = 0 ∨ m = 1 ∨ m = 2 ∨ m = 3 := by omega
  rcases this with rfl | rfl | rfl | rfl <;> rfl
theorem lim_pos {m : Nat} (h : m < 4) : 1 ≤ limF m := by
  have : m = 0 ∨ m = 1 ∨ m = 2 ∨ m = 3 := by omega
  rcases this with rfl | rfl | rfl | rfl <;> decide
theorem mv_len {chs : List Chr} {m : Nat} : (mvF chs m).length = chs.length := List.length_map _
def sp_Font_table (K : PySem.W.Frag) (C : Addr) : Sp := fun vs H Q _ => ∃ (p : Addr) (chs : List Chr) (ss : List Stp) (ls : List (Int × Nat)) (m : Nat), vs = [.ref p, .int (m : Int)] ∧ FontAt C K H p chs ss ls ∧ m < 4 ∧ ∀ D H' gs, Same H H' → IsT (mvF chs m) (limF m) gs → H' D = some (.lst ((0 :: gs.map mid).map V.int)) → Q (.ref D) H'
section
theorem ok_Font_table {P : Program} {w : World} {K : PySem.W.Frag} {mg : Str → Option Value} {base : Heap} {A : Nat → Addr} {D : Nat → FuncData} (T : Txt K mg A D) : FnOk P w K mg base (L2.CX P w) 5 (A 32) (D 32) ["self", "metric"] (sp_Font_table K (A 4)) := by
  refine T.F_Font_table.okX sc_Font_table (fun vs H Q E h => ?_) (fun cdv A' outer s H vs Q E hr h => ?_)
  · obtain ⟨p, chs, ss, ls, m, rfl, _⟩ := h
    rfl
  obtain ⟨p, chs, ss, ls, m, rfl, F, m4, q⟩ := h
  refine ⟨_, (pss_one (ps_ret (pe_call (ok_table T) (hr.mono (by decide)) (by rfl) T.m_table_metrics T.F_table.kp T.b_table .nil (passes_call (takes_of rfl rfl rfl rfl) (fun _ _ _ _ h => h)) (pa_cons (pe_meth (pv 0) T.q_Font T.m_Font__metric_values (ok_Font__metric_values T) (hr.mono (by decide)) T.b_Font__metric_values .nil (passes_call (takes_of rfl rfl rfl rfl) (fun _ _ _ _ h => h)) (pa_cons (pv 1) pa_nil)) (pa_cons (pe_ix ix_tup (Z.pe_globR T.c_LIMITS) (pv 1) (fun _ _ => rfl)) pa_nil))))), ?_⟩
  obtain ⟨dx, t, ts, v, u, h1, h2, h3, h4, h5⟩ := id F.ins
  have n24 := F.n
  walk_at "z"
  refine Cw.z_meth h1 (lk_no (by decide +kernel)) ?_
  walk_at "z"
  refine ⟨p, chs, ss, ls, m, rfl, F, m4, fun D H1 f1 s1 e1 => ?_⟩
  walk_at "z"
  obtain ⟨xs, hl, al⟩ := lim_at (T.d_LIMITS H1) m4
  refine z_ixT hl al ?_
  walk_at "z"
  refine ⟨D, _, limF m, rfl, e1, by rw [mv_len]; omega, lim_pos m4, fun a H2 e ms f2 s2 h2' am mm lm tl => ?_⟩
  exact q a H2 _ (s1.trans s2) ⟨e, ms, am, mm, tl, rfl⟩ h2'
end
def sp_Font_table_value (K : PySem.W.Frag) (A : Nat → Addr) : Sp := fun vs H Q E => ∃ (p : Addr) (chs : List Chr) (ss : List Stp) (ls : List (Int × Nat)) (code : Int) (m : Nat), vs = [.ref p, .int code, .int (m : Int)] ∧ FontAt (A 4) K H p chs ss ls ∧ m < 4 ∧
  (∀ c gs H', chF code chs = some c → Same H H' → IsT (mvF chs m) (limF m) gs → Q (.int (tvF gs (c.2.getD m 0))) H') ∧ (chF code chs = none → E (.ref (A 1)) none H)
theorem chF_mem {code : Int} {chs : List Chr} {c : Chr} (h : chF code chs = some c) : c ∈ chs ∧ c.1 = code := ⟨List.mem_of_find?_eq_some h, by have := List.find?_some h; exact of_decide_eq_true this⟩
section
theorem ok_Font_table_value {P : Program} {w : World} {K : PySem.W.Frag} {mg : Str → Option Value} {base : Heap} {A : Nat → Addr} {D : Nat → FuncData} (T : Txt K mg A D) : FnOk P w K mg base (L2.CX P w) 5 (A 33) (D 33) ["self", "code", "metric"] (sp_Font_table_value K A) := by
  refine T.F_Font_table_value.okX sc_Font_table_value (fun vs H Q E h => ?_) (fun cdv A' outer s H vs Q E hr h => ?_)
  · obtain ⟨p, chs, ss, ls, code, m, rfl, _⟩ := h
    rfl
  obtain ⟨p, chs, ss, ls, code, m, rfl, F, m4, q1, q2⟩ := h
  refine ⟨_, (pss_cons (ps_set (i := 3) sc_Font_table_value.nd rfl (.inl rfl) (pe_ix ix_tup (pe_ix ix_tup (pe_meth (pv 0) T.q_Font T.m_Font_character (ok_Font_character T) (hr.mono (by decide)) T.b_Font_character .nil (passes_call (takes_of rfl rfl rfl rfl) (fun _ _ _ _ h => h)) (pa_cons (pv 1) pa_nil)) pe_int (fun _ _ => rfl)) (pv 2) (fun _ _ => rfl)))
  (pss_one (ps_ret (pe_call (ok_table_value T) (hr.mono (by decide)) (by rfl) T.m_table_value_metrics T.F_table_value.kp T.b_table_value .nil (passes_call (takes_of rfl rfl rfl rfl) (fun _ _ _ _ h => h)) (pa_cons (pe_meth (pv 0) T.q_Font T.m_Font__metric_values (ok_Font__metric_values T) (hr.mono (by decide)) T.b_Font__metric_values .nil (passes_call (takes_of rfl rfl rfl rfl) (fun _ _ _ _ h => h)) (pa_cons (pv 2) pa_nil)) (pa_cons (pe_ix ix_tup (Z.pe_globR T.c_LIMITS) (pv 2) (fun _ _ => rfl)) (pa_cons (pv 3) pa_nil))))))), ?_⟩
  obtain ⟨dx, t, ts, v, u, h1, h2, h3, h4, h5⟩ := id F.ins
  have n24 := F.n
  walk_at "z"
  refine Cw.z_meth h1 (lk_no (by decide +kernel)) ?_
  walk_at "z"
  refine ⟨p, chs, ss, ls, code, rfl, F, fun c v hc dc => ?_, q2⟩
  obtain ⟨a, w3, mm, rfl, ha, hm⟩ := dp_ch dc
  have l4 := F.four c (chF_mem hc).1
  walk_at "z"
  refine z_ixT hm (v := .int (c.2.getD m 0)) (atI_nat (by rw [List.getElem?_map, List.getD_eq_getElem?_getD, List.getElem?_eq_getElem (by omega)]; rfl)) ?_
  walk_at "z"
  refine Cw.z_meth h1 (lk_no (by decide +kernel)) ?_
  walk_at "z"
  refine ⟨p, chs, ss, ls, m, rfl, F, m4, fun D H1 f1 s1 e1 => ?_⟩
  walk_at "z"
  obtain ⟨xs, hl, al⟩ := lim_at (T.d_LIMITS H1) m4
  refine z_ixT hl al ?_
  walk_at "z"
  refine ⟨D, _, limF m, _, rfl, e1, by rw [mv_len]; omega, lim_pos m4, fun t H2 e ms s2 am mm' tl cs => ?_⟩
  have it : IsT (mvF chs m) (limF m) (grp e ms) := ⟨e, ms, am, mm', tl, rfl⟩
  rw [tvF_eq it cs]
  exact q1 c _ H2 hc (s1.trans s2) it
end
/-! ### lines of a font with kerns alone -/
structure KOk (ss : List Stp) (ls : List (Int × Nat)) : Prop where
  ok : ∀ l r, onlyK (ruleF ss l r ls)
  lab : LabOk ss ls
  n1 : ss.length ≤ 4
  n2 : ls.length ≤ 4
abbrev RR (ss : List Stp) (ls : List (Int × Nat)) : RuleT := fun l r => ruleF ss l r ls
def sp_Font_line (K : PySem.W.Frag) (A : Nat → Addr) : Sp := fun vs H Q E => ∃ (p a : Addr) (chs : List Chr) (ss : List Stp) (ls : List (Int × Nat)) (cs dd : List Int), vs = [.ref p, .ref a] ∧ FontAt (A 4) K H p chs ss ls ∧ KOk ss ls ∧ SqL K H a (cs.map V.int) ∧ dd.length ≤ 10 ∧ (∀ x ∈ cs, x ∈ dd) ∧
  (400 < cs.length + 2 → ∀ H', Same H H' → E (.ref (A 2)) none H') ∧ (cs.length ≤ 380 → (∀ x ∈ cs, x ≠ 128) ∧ ∀ t G L H', Same H H' → H' t = some (.tup [.ref G, .ref L]) → H' G = some (.lst (cs.map V.int)) → H' L = some (.lst ((knF (RR ss ls) 128 (cs ++ [128])).map V.int)) → Q (.ref t) H') ∧ (cs.length ≤ 380 ∨ 400 < cs.length + 2)
section
theorem ok_Font_line {P : Program} {w : World} {K : PySem.W.Frag} {mg : Str → Option Value} {base : Heap} {A : Nat → Addr} {D : Nat → FuncData} (T : Txt K mg A D) : FnOk P w K mg base (L2.CX P w) 6 (A 35) (D 35) ["self", "codes"] (sp_Font_line K A) := by
  refine T.F_Font_line.okX sc_Font_line (fun vs H Q E h => ?_) (fun cdv A' outer s H vs Q E hr h => ?_)
  · obtain ⟨p, a, chs, ss, ls, cs, dd, rfl, _⟩ := h
    rfl
  obtain ⟨p, a, chs, ss, ls, cs, dd, rfl, F, ko, ha, d10, dm, qL, qS, two⟩ := h
  refine ⟨_, (pss_one (ps_ret (pe_call (ok_set_line T) (hr.mono (by decide)) (by rfl) T.m_set_line T.F_set_line.kp T.b_set_line .nil (passes_call (takes_of rfl rfl rfl rfl) (fun _ _ _ _ h => h)) (pa_cons (pe_fld (pv 0) rfl) (pa_cons (pe_fld (pv 0) rfl) (pa_cons (pv 1) pa_nil)))))), ?_⟩
  obtain ⟨dx, t, ts, v, u, h1, h2, h3, h4, h5⟩ := id F.ins
  walk_at "z"
  refine Cw.z_fld h1 T.q_Font T.nf_Font_steps lk_sts ?_
  walk_at "z"
  refine Cw.z_fld h1 T.q_Font T.nf_Font_labels lk_lbs ?_
  walk_at "z"
  have n1 := ko.n1
  have n2 := ko.n2
  have wf : WfR (RR ss ls) (128 :: (ss.map (fun s => s.right) ++ (ls.map Prod.fst ++ dd))) := by
    have e : ∀ l r, appP (RR ss ls) (l, r) = ([l, r], 1) := fun l r => app_only (ko.ok l r)
    refine ⟨fun l r => ?_, fun l r => ?_, fun l r hl hr x hx => ?_⟩
    · rw [e]
      exact ⟨by show (0 : Int) ≤ 1; decide, by show 1 < 2; decide⟩
    · rw [e]
      show 2 ≤ 3
      decide
    · rw [e] at hx
      rcases List.mem_cons.mp hx with rfl | hx
      · exact hl
      · rw [List.mem_singleton.mp hx]
        exact hr
  have ru : Rules K H v u ss ls (128 :: (ss.map (fun s => s.right) ++ (ls.map Prod.fst ++ dd))) := {
    dv := h4
    du := h5
    ok := ko.lab
    wf := wf
    few := by
      rw [List.length_cons, List.length_append, List.length_append, List.length_map, List.length_map]
      omega
    fs := by omega
    fl := by omega
    cs := fun s hs => .tail _ (List.mem_append.mpr (.inl (List.mem_map_of_mem hs)))
    cl := fun l hl => .tail _ (List.mem_append.mpr (.inr (List.mem_append.mpr (.inl (List.mem_map_of_mem hl))))) }
  refine ⟨v, u, a, ss, ls, _, cs, rfl, ru, ha, .head _, fun x hx => .tail _ (List.mem_append.mpr (.inr (List.mem_append.mpr (.inr (dm x hx))))), fun no => absurd (only_end ko.ok _) no, fun _ => ⟨qL, fun hs k res run => ?_⟩⟩
  have c380 : cs.length ≤ 380 := by omega
  obtain ⟨nl, q⟩ := qS c380
  have run2 := run_only ko.ok (ahead := cs ++ [128]) (here := 128) (done := []) 0 (by rw [List.length_append]; show 0 + (cs.length + 1) ≤ 390; omega)
  obtain rfl := run_det run run2
  rw [List.nil_append]
  obtain ⟨g1, g2⟩ := gk_line (R := RR ss ls) nl
  intro t2 G L H1 s1 e1 _ _ _ hG hL
  rw [g1] at hG
  rw [g2] at hL
  exact q t2 G L H1 s1 e1 hG hL
end
/-- {code: the table value of its width} -/
def mw (c : Chr) : Int := c.2.getD 0 0
def WdOk (chs : List Chr) (i : Nat) (kvs : List (L2.Key × V)) (f : Int → Int) : Prop := kvs.length ≤ i ∧ (∀ k : Int, valV kvs (.inl k) = (chF k (chs.take i)).map fun c => V.int (f (mw c))) ∧ ∀ gs, IsT (mvF chs 0) 8 gs → ∀ c ∈ chs.take i, f (mw c) = tvF gs (mw c)
theorem chF_snoc {chs : List Chr} {i : Nat} {c : Chr} (hc : chs[i]? = some c) (nd : (chs.map Prod.fst).Nodup) (k : Int) : chF k (chs.take (i + 1)) = if k = c.1 then some c else chF k (chs.take i) := by
  unfold chF
  rw [List.take_add_one, hc, List.find?_append]
  by_cases e : k = c.1
  · rw [if_pos e]
    have no : (chs.take i).find? (fun x => decide (x.1 = k)) = none := by
      rw [List.find?_eq_none]
      intro x hx
      obtain ⟨j, hj⟩ := List.mem_iff_getElem?.mp hx
      have hji := (List.getElem?_eq_some_iff.mp hj).1
      rw [List.length_take] at hji
      rw [List.getElem?_take_of_lt (by omega)] at hj
      intro z
      have z : x.1 = k := of_decide_eq_true z
      have h1 : (chs.map Prod.fst)[j]? = some x.1 := by rw [List.getElem?_map, hj]; rfl
      have h2 : (chs.map Prod.fst)[i]? = some c.1 := by rw [List.getElem?_map, hc]; rfl
      rw [z, e] at h1
      obtain ⟨j1, e1⟩ := List.getElem?_eq_some_iff.mp h1
      obtain ⟨i1, e2⟩ := List.getElem?_eq_some_iff.mp h2
      have := (List.nodup_iff_pairwise_ne.mp nd)
      have := (List.pairwise_iff_getElem.mp this) j i j1 i1 (by omega)
      rw [e1, e2] at this
      exact this rfl
    rw [no]
    show ([c].find? fun x => decide (x.1 = k)) = some c
    rw [List.find?_cons_of_pos (by rw [e]; exact decide_eq_true rfl)]
  · rw [if_neg e]
    have : ((some c).toList.find? fun x => decide (x.1 = k)) = none := by
      show ([c].find? fun x => decide (x.1 = k)) = none
      rw [List.find?_cons_of_neg (by intro z; exact e (of_decide_eq_true z).symm)]
      rfl
    rw [this]
    cases (chs.take i).find? fun x => decide (x.1 = k) <;> rfl
def sp_Font_widths (K : PySem.W.Frag) (A : Nat → Addr) : Sp := fun vs H Q _ => ∃ (p : Addr) (chs : List Chr) (ss : List Stp) (ls : List (Int × Nat)), vs = [.ref p] ∧ FontAt (A 4) K H p chs ss ls ∧ (chs.map Prod.fst).Nodup ∧
  ∀ D H' kvs f, Same H H' → H' D = some (.dK kvs) → WdOk chs chs.length kvs f → Q (.ref D) H'
section
theorem ok_Font__widths {P : Program} {w : World} {K : PySem.W.Frag} {mg : Str → Option Value} {base : Heap} {A : Nat → Addr} {D : Nat → FuncData} (T : Txt K mg A D) : FnOk P w K mg base (L2.CX P w) 6 (A 38) (D 38) ["self"] (sp_Font_widths K A) := by
  refine T.F_Font__widths.okX sc_Font__widths (fun vs H Q E h => ?_) (fun cdv A' outer s H vs Q E hr h => ?_)
  · obtain ⟨p, chs, ss, ls, rfl, _⟩ := h
    rfl
  obtain ⟨p, chs, ss, ls, rfl, F, nd, q⟩ := h
  refine ⟨_, (pss_one (ps_ret (pe_dc (own := [("character", 1)]) (g := gName 1) (tt := tYes) rfl sc_Font__widths.nd (pi_tup (pe_fld (pv 0) rfl)) (blkOk_by (N := ["self", "character"]) (sc := defScope s_Font__widths) (by decide +kernel)) (fun _ _ _ _ _ => pg_name (i := 1) sc_Font__widths.nd rfl (Or.inl rfl)) (fun _ _ _ _ _ => pts_nil) (fun _ _ _ _ _ => (pe_ix (show IxR _ (rIxT K) from ix_tup) (pv 1) pe_int (fun _ _ => rfl))) (fun _ _ _ _ _ => (pe_meth (pv 0) T.q_Font T.m_Font_table_value (ok_Font_table_value T) (hr.mono (by decide)) T.b_Font_table_value .nil passL (pa_cons (pe_ix (show IxR _ (rIxT K) from ix_tup) (pv 1) pe_int (fun _ _ => rfl)) (pa_cons (Z.pe_globE T.c_WIDTH) pa_nil))))))), ?_⟩
  obtain ⟨dx, t, ts, v, u, h1, h2, h3, h4, h5⟩ := id F.ins
  have lt := dpa_lenM h3
  have n24 := F.n
  walk_at "z"
  unfold tDc iTup
  walk_at "z"
  refine Cw.z_fld h1 T.q_Font T.nf_Font_characters lk_chs ?_
  refine ⟨t, rfl, ⟨ts, h2⟩, fun D fD => ?_⟩
  refine dc_tup (fun i H' => Same H H' ∧ ∃ kvs f, H' D = some (.dK kvs) ∧ WdOk chs i kvs f) ⟨same_upd fD, [], fun _ => 0, upd_same, Nat.le_refl _, fun k => rfl, fun gs _ c hc => (by simp at hc)⟩ (fun i H' _ h => seqT_tk (TK.of h.1) h2) ?_ ?_
  · rintro i x H' hx ⟨s', kvs, f, hD, w1, w2, w3⟩
    obtain ⟨c, hc, dc⟩ := ch_at (dp_monoA s' h3) hx
    obtain ⟨a, w3', mm, rfl, ha, hm⟩ := dp_ch dc
    have hi := (List.getElem?_eq_some_iff.mp hc).1
    have cf : chF c.1 chs = some c := by
      have := chF_snoc hc nd c.1
      rw [if_pos rfl] at this
      unfold chF at this ⊢
      have e : chs = chs.take (i + 1) ++ chs.drop (i + 1) := (List.take_append_drop _ _).symm
      rw [e, List.find?_append, this]
      rfl
    refine z_gName ⟨rfl, ?_⟩
    refine z_yes ?_
    refine z_ifT ?_
    walk_at "z"
    refine Cw.z_meth (s' _ _ h1) (lk_no (by decide +kernel)) ?_
    walk_at "z"
    refine ⟨p, chs, ss, ls, c.1, 0, rfl, F.mono s', by decide, fun c2 gs H4 hc2 s4 it => ?_, fun no => absurd cf (by rw [no]; simp)⟩
    have e2 : c2 = c := Option.some.inj (hc2.symm.trans cf)
    subst e2
    have s04 := s'.trans s4
    have pl : (putK kvs (Sum.inl c2.1 : L2.Key) (V.int (tvF gs (mw c2)))).length ≤ kvs.length + 1 := by
      unfold putK
      split
      · rw [List.length_map]
        omega
      · rw [List.length_append]
        exact Nat.le_refl _
    refine ⟨kvs, .inl c2.1, rfl, s4 _ _ hD, Nat.lt_of_le_of_lt (show kvs.length ≤ 24 by omega) (by decide), fun b o e => by rw [upd_ne (ne_of_none e fD)]; exact s04 _ _ e, _, tvF gs, upd_same, Nat.le_trans pl (by omega), fun k => ?_, fun gs' it' c3 _ => by rw [it'.one it]⟩
    have tkc : ∀ x ∈ chs.take i, f (mw x) = tvF gs (mw x) := fun x hx => w3 gs it x hx
    rw [valV_put, chF_snoc hc nd k]
    by_cases e : k = c2.1
    · rw [if_pos (by rw [e]), if_pos e]
      rfl
    · rw [if_neg (fun z => e (Sum.inl.inj z)), if_neg e, w2 k]
      cases hf : chF k (chs.take i) with
      | none => rfl
      | some x =>
        show some (V.int (f (mw x))) = some (V.int (tvF gs (mw x)))
        rw [tkc x (chF_mem hf).1]
  · rintro H' ⟨s', kvs, f, hD, wd⟩
    rw [lt] at wd
    walk_at "z"
    exact q D H' kvs f s' hD wd
end
/-- the width of a code -/
def wdF (gs : List GP) (chs : List Chr) (k : Int) : Int := ((chF k chs).map fun c => tvF gs (mw c)).getD 0
theorem WdOk.get {chs : List Chr} {kvs : List (L2.Key × V)} {f : Int → Int} (h : WdOk chs chs.length kvs f) (k : Int) : ∃ x : Int, (valV kvs (.inl k)).getD (.int 0) = .int x ∧ ∀ gs, IsT (mvF chs 0) 8 gs → x = wdF gs chs k := by
  obtain ⟨_, h2, h3⟩ := h
  rw [List.take_length] at h3
  have h2 := h2 k
  rw [List.take_length] at h2
  rw [h2]
  unfold wdF
  cases hf : chF k chs with
  | none => exact ⟨0, rfl, fun gs _ => rfl⟩
  | some c => exact ⟨f (mw c), rfl, fun gs it => h3 gs it c (chF_mem hf).1⟩
theorem WdOk.fn {chs : List Chr} {kvs : List (L2.Key × V)} {f : Int → Int} (h : WdOk chs chs.length kvs f) : ∃ gx : Int → Int, (∀ k, (valV kvs (.inl k)).getD (.int 0) = .int (gx k)) ∧ ∀ gs, IsT (mvF chs 0) 8 gs → ∀ k, gx k = wdF gs chs k :=
  ⟨fun k => (h.get k).choose, fun k => (h.get k).choose_spec.1, fun gs it k => (h.get k).choose_spec.2 gs it⟩
def sp_Font_width (K : PySem.W.Frag) (A : Nat → Addr) : Sp := fun vs H Q E => ∃ (p a : Addr) (chs : List Chr) (ss : List Stp) (ls : List (Int × Nat)) (cs dd : List Int), vs = [.ref p, .ref a] ∧ FontAt (A 4) K H p chs ss ls ∧ (chs.map Prod.fst).Nodup ∧ KOk ss ls ∧ SqL K H a (cs.map V.int) ∧ dd.length ≤ 10 ∧ (∀ x ∈ cs, x ∈ dd) ∧
  (400 < cs.length + 2 → ∀ H', Same H H' → E (.ref (A 2)) none H') ∧ (cs.length ≤ 380 → (∀ x ∈ cs, x ≠ 128) ∧ ∀ W H', Same H H' → (∀ gs, IsT (mvF chs 0) 8 gs → W = (cs.map (wdF gs chs)).sum + (knF (RR ss ls) 128 (cs ++ [128])).sum) → Q (.int W) H') ∧ (cs.length ≤ 380 ∨ 400 < cs.length + 2)
section
theorem ok_Font_width {P : Program} {w : World} {K : PySem.W.Frag} {mg : Str → Option Value} {base : Heap} {A : Nat → Addr} {D : Nat → FuncData} (T : Txt K mg A D) : FnOk P w K mg base (L2.CX P w) 7 (A 36) (D 36) ["self", "codes"] (sp_Font_width K A) := by
  refine T.F_Font_width.okX sc_Font_width (fun vs H Q E h => ?_) (fun cdv A' outer s H vs Q E hr h => ?_)
  · obtain ⟨p, a, chs, ss, ls, cs, dd, rfl, _⟩ := h
    rfl
  obtain ⟨p, a, chs, ss, ls, cs, dd, rfl, F, nd, ko, ha, d10, dm, qL, qS, two⟩ := h
  refine ⟨_, (pss_cons (ps_asg (pe_meth (pv 0) T.q_Font T.m_Font_line (ok_Font_line T) (hr.mono (by decide)) T.b_Font_line .nil (passes_call (takes_of rfl rfl rfl rfl) (fun _ _ _ _ h => h)) (pa_cons (pv 1) pa_nil)) (pg_tup (by rfl) (pgs_cons (pg_name (i := 2) sc_Font_width.nd rfl (.inl rfl)) (pgs_cons (pg_name (i := 3) sc_Font_width.nd rfl (.inl rfl)) pgs_nil))))
  (pss_cons (ps_set (i := 4) sc_Font_width.nd rfl (.inr rfl) (pe_meth0 (pv 0) T.q_Font T.m_Font__widths (ok_Font__widths T) (hr.mono (by decide)) T.b_Font__widths .nil (passes_call (takes_of rfl rfl rfl rfl) (fun _ _ _ _ h => h))))
  (pss_one (ps_ret (pe_op op_add (pe_callB (cr_sum rfl) (by rfl) T.z_sum (by decide +kernel) (pa_cons (pe_lc (own := [("glyph", 5)]) (g := gName 5) (tt := tYes) rfl sc_Font_width.nd (pi_list (pv 2)) (blkOk_by (N := ["self", "codes", "glyphs", "kerns", "widths", "glyph"]) (sc := defScope s_Font_width) (by decide +kernel)) (fun _ _ _ _ _ => pg_name (i := 5) sc_Font_width.nd rfl (Or.inl rfl)) (fun _ _ _ _ _ => pts_nil) (fun _ _ _ _ _ => (pe_dget2 (Nat.lt_of_le_of_lt (Nat.add_le_add_left (by decide) _) hr.units) (pv 4) (pv 5) pe_int ⟨rfl, rfl, rfl, rfl⟩))) pa_nil)) (pe_callB (cr_sum rfl) (by rfl) T.z_sum (by decide +kernel) (pa_cons (pv 3) pa_nil))))))), ?_⟩
  obtain ⟨dx, t, ts, v, u, h1, h2, h3, h4, h5⟩ := id F.ins
  walk_at "z"
  refine Cw.z_meth h1 (lk_no (by decide +kernel)) ?_
  walk_at "z"
  refine ⟨p, a, chs, ss, ls, cs, dd, rfl, F, ko, ha, d10, dm, qL, fun c380 => ?_, two⟩
  obtain ⟨nl, q⟩ := qS c380
  refine ⟨nl, fun tt G L H1 s1 e1 hG hL => ?_⟩
  walk_at "z"
  refine Cw.z_meth (s1 _ _ h1) (lk_no (by decide +kernel)) ?_
  walk_at "z"
  refine ⟨p, chs, ss, ls, rfl, F.mono s1, nd, fun D H2 kvs f s2 hD wd => ?_⟩
  walk_at "z"
  have hG2 := s2 _ _ hG
  have hL2 := s2 _ _ hL
  obtain ⟨gx, g1, g2⟩ := wd.fn
  refine Cw.z_valsW (ws := (cs.map gx).map V.int) (walk_list (K := K) (a := G) (xs := cs.map V.int)) (by rw [List.length_map]; omega) (fun R r => ⟨_, rfl, G, rfl, ⟨_, .inl (.inl hG2)⟩, r⟩) (fun H' s => .inl (.inl (s _ _ hG2))) (by rw [List.length_map, List.length_map, List.length_map]) (fun i x v' H' H3 R hw hi s y k => ?_) fun D3 H3 f3 s3 e3 => ?_
  · obtain ⟨rfl, hx⟩ := y
    rw [List.getElem?_map] at hx
    obtain ⟨c, hc, e⟩ := Option.map_eq_some_iff.mp hx
    subst e
    rw [List.getElem?_map, List.getElem?_map, hc] at hw
    cases hw
    refine z_gName ⟨rfl, ?_⟩
    have hD' := s _ _ hD
    refine ⟨_, rfl, D, rfl, .inl ⟨kvs, .inl hD'⟩, _, rfl, ?_⟩
    show ∃ o, DGet H3 D (.int c) o ∧ R (o.getD (.int 0)) H3
    refine ⟨_, DGet.k (k := .inl c) hD', ?_⟩
    rw [g1]
    exact k H3 (Same.refl _)
  walk_at "z"
  refine Cw.z_sum (.inl (.inl e3)) ?_
  walk_at "z"
  refine Cw.z_sum (.inl (.inl (s3 _ _ hL2))) ?_
  walk_at "z"
  refine q _ H3 ((s1.trans s2).trans s3) fun gs it => ?_
  congr 2
  exact List.map_congr_left fun x _ => g2 gs it x
end
def ForZ (K : PySem.W.Frag) (g : TG) (tb : TS) (n : L2.St → Hp → Prop) (r : VK) (b c : L2.St → Hp → Prop) (σ : L2.St) : List V → Hp → Prop := fun vs H1 => tFor (iZip K fun _ H R => R vs H) g tb ⟨n, r, b, c⟩ σ H1
theorem z_forZE {K : PySem.W.Frag} {ta : TA} {g : TG} {tb : TS} {n : L2.St → Hp → Prop} {r : VK} {b c : L2.St → Hp → Prop} {σ : L2.St} {H : Hp} (h : ta σ H (ForZ K g tb n r b c σ)) : tFor (iZip K ta) g tb ⟨n, r, b, c⟩ σ H := h
/-- the place after i glyphs -/
def plN (g : Int → Int) (k0 : Int) (cs ks : List Int) : Nat → Int
  | 0 => k0
  | i + 1 => plN g k0 cs ks i + (g (cs.getD i 0) + ks.getD i 0)
theorem plN_congr {g g' : Int → Int} (h : ∀ x, g x = g' x) (k0 : Int) (cs ks : List Int) : ∀ i, plN g k0 cs ks i = plN g' k0 cs ks i
  | 0 => rfl
  | i + 1 => by
    show plN g k0 cs ks i + (g _ + _) = plN g' k0 cs ks i + (g' _ + _)
    rw [plN_congr h, h]
def posF (g : Int → Int) (cs kn : List Int) : List Int := (List.range cs.length).map (plN g (kn.getD 0 0) cs (kn.drop 1))
def sp_Font_positions (K : PySem.W.Frag) (A : Nat → Addr) : Sp := fun vs H Q E => ∃ (p a : Addr) (chs : List Chr) (ss : List Stp) (ls : List (Int × Nat)) (cs dd : List Int), vs = [.ref p, .ref a] ∧ FontAt (A 4) K H p chs ss ls ∧ (chs.map Prod.fst).Nodup ∧ KOk ss ls ∧ SqL K H a (cs.map V.int) ∧ dd.length ≤ 10 ∧ (∀ x ∈ cs, x ∈ dd) ∧
  (400 < cs.length + 2 → ∀ H', Same H H' → E (.ref (A 2)) none H') ∧ (cs.length ≤ 380 → (∀ x ∈ cs, x ≠ 128) ∧ ∀ W ws H', Same H H' → H' W = some (.lst (ws.map V.int)) → (∀ gs, IsT (mvF chs 0) 8 gs → ws = posF (wdF gs chs) cs (knF (RR ss ls) 128 (cs ++ [128]))) → Q (.ref W) H') ∧ (cs.length ≤ 380 ∨ 400 < cs.length + 2)
section
theorem ok_Font_positions {P : Program} {w : World} {K : PySem.W.Frag} {mg : Str → Option Value} {base : Heap} {A : Nat → Addr} {D : Nat → FuncData} (T : Txt K mg A D) : FnOk P w K mg base (L2.CX P w) 7 (A 37) (D 37) ["self", "codes"] (sp_Font_positions K A) := by
  refine T.F_Font_positions.okX sc_Font_positions (fun vs H Q E h => ?_) (fun cdv A' outer s H vs Q E hr h => ?_)
  · obtain ⟨p, a, chs, ss, ls, cs, dd, rfl, _⟩ := h
    rfl
  obtain ⟨p, a, chs, ss, ls, cs, dd, rfl, F, nd, ko, ha, d10, dm, qL, qS, two⟩ := h
  refine ⟨_, (pss_cons (ps_asg (pe_meth (pv 0) T.q_Font T.m_Font_line (ok_Font_line T) (hr.mono (by decide)) T.b_Font_line .nil (passes_call (takes_of rfl rfl rfl rfl) (fun _ _ _ _ h => h)) (pa_cons (pv 1) pa_nil)) (pg_tup (by rfl) (pgs_cons (pg_name (i := 2) sc_Font_positions.nd rfl (.inl rfl)) (pgs_cons (pg_name (i := 3) sc_Font_positions.nd rfl (.inl rfl)) pgs_nil))))
  (pss_cons (ps_set (i := 4) sc_Font_positions.nd rfl (.inl rfl) (pe_meth0 (pv 0) T.q_Font T.m_Font__widths (ok_Font__widths T) (hr.mono (by decide)) T.b_Font__widths .nil (passes_call (takes_of rfl rfl rfl rfl) (fun _ _ _ _ h => h))))
  (pss_cons (ps_set (i := 5) sc_Font_positions.nd rfl (.inl rfl) (pe_ix ix_list (pv 3) pe_int (fun _ _ => rfl)))
  (pss_cons (ps_set (i := 6) sc_Font_positions.nd rfl (.inl rfl) (pe_lst pa_nil))
  (pss_cons (ps_for (passes_of rfl) rfl (pi_zip (by rfl) T.z_zip (pa_cons (pv 2) (pa_cons (pe_slice sl_list (pv 3) (po_some pe_int) po_none) pa_nil))) (pg_tup (by rfl) (pgs_cons (pg_name (i := 7) sc_Font_positions.nd rfl (.inl rfl)) (pgs_cons (pg_name (i := 8) sc_Font_positions.nd rfl (.inl rfl)) pgs_nil)))
  (pss_cons (ps_expr (pe_bm PySem.F.plainAttrs_list PySem.F.slot_list_append PySem.F.type_list_append mt_append (pv 6) (pa_cons (pv 5) pa_nil)))
  (pss_one (ps_aug (i := 5) sc_Font_positions.nd rfl (.inl rfl) (pe_op op_add (pe_dget2 (Nat.lt_of_le_of_lt (Nat.add_le_add_left (by decide) _) hr.units) (pv 4) (pv 7) pe_int ⟨rfl, rfl, rfl, rfl⟩) (pv 8)) ip_add))))
  (pss_one (ps_ret (pv 6)))))))), ?_⟩
  obtain ⟨dx, t, ts, v, u, h1, h2, h3, h4, h5⟩ := id F.ins
  walk_at "z"
  refine Cw.z_meth h1 (lk_no (by decide +kernel)) ?_
  walk_at "z"
  refine ⟨p, a, chs, ss, ls, cs, dd, rfl, F, ko, ha, d10, dm, qL, fun c380 => ?_, two⟩
  obtain ⟨nl, q⟩ := qS c380
  refine ⟨nl, fun tt G L H1 s1 e1 hG hL => ?_⟩
  have kl : (knF (RR ss ls) 128 (cs ++ [128])).length = cs.length + 1 := by rw [knF_len, List.length_append]; rfl
  generalize knF (RR ss ls) 128 (cs ++ [128]) = kn at *
  walk_at "z"
  refine Cw.z_meth (s1 _ _ h1) (lk_no (by decide +kernel)) ?_
  walk_at "z"
  refine ⟨p, chs, ss, ls, rfl, F.mono s1, nd, fun D H2 kvs f s2 hD wd => ?_⟩
  walk_at "z"
  have hG2 := s2 _ _ hG
  have hL2 := s2 _ _ hL
  obtain ⟨gx, g1, g2⟩ := wd.fn
  have k0 : kn[0]? = some (kn.getD 0 0) := by rw [List.getD_eq_getElem?_getD, List.getElem?_eq_getElem (by omega)]; rfl
  refine z_ixL (.inl (.inl hL2)) (v := .int (kn.getD 0 0)) (show atI _ ((0 : Nat) : Int) = _ from atI_nat (by rw [List.getElem?_map, k0]; rfl)) ?_
  walk_at "z"
  intro N H3 f3 s3 h3'
  walk_at "z"
  refine z_forZE ?_
  walk_at "z"
  refine ⟨_, rfl, ?_⟩
  walk_at "z"
  refine z_slL (.inl (.inl (s3 _ _ hL2))) (cut_from (k := 1) (by rw [List.length_map]; omega)) fun S H4 f4 s4 h4 => ?_
  rw [← List.map_drop] at h4
  walk_at "z"
  unfold ForZ
  have fN : H N = none := fresh_of (s1.trans s2) f3
  have ld : (kn.drop 1).length = cs.length := by rw [List.length_drop]; omega
  generalize hks : kn.drop 1 = ks at *
  have nNG : N ≠ G := (ne_of_none hG2 f3).symm
  have nND : N ≠ D := (ne_of_none hD f3).symm
  have h34 := s4 _ _ h3'
  have nNS : S ≠ N := (ne_of_none h3' f4).symm
  refine Cw.z_forW (walk_zip (K := K) (a := G) (b := S) (xs := cs.map V.int) (ys := ks.map V.int) (n := cs.length) (by rw [List.length_map, List.length_map, ld, Nat.min_self])) (fun R r => Cw.z_iZip (fun S h => h) (.inl (.inl (s4 _ _ (s3 _ _ hG2)))) (.inl (.inl h4)) r)
    (fun i σ' H' => Same H H' ∧ H' G = some (.lst (cs.map V.int)) ∧ H' S = some (.lst (ks.map V.int)) ∧ H' D = some (.dK kvs) ∧ (∃ u7 u8, σ' = [some (.ref p), some (.ref a), some (.ref G), some (.ref L), some (.ref D), some (.int (plN gx (kn.getD 0 0) cs ks i)), some (.ref N), u7, u8]) ∧ H' N = some (.lst (((List.range i).map (plN gx (kn.getD 0 0) cs ks)).map V.int)))
    ⟨((s1.trans s2).trans s3).trans s4, s4 _ _ (s3 _ _ hG2), h4, s4 _ _ (s3 _ _ hD), ⟨_, _, rfl⟩, h34⟩ (fun i σ' H' _ h => ⟨.inl (.inl h.2.1), .inl (.inl h.2.2.1)⟩) ?_ ?_
  · rintro i x σ' H5 H6 hi ⟨s5, hG5, hS5, hD5, ⟨u7, u8, rfl⟩, hN5⟩ ⟨tt2, w1, w2, rfl, ft, rfl, hu, hv⟩
    have hu : (cs.map V.int)[i]? = some w1 := hu
    have hv : (ks.map V.int)[i]? = some w2 := hv
    rw [List.getElem?_map] at hu hv
    obtain ⟨c, hc, e⟩ := Option.map_eq_some_iff.mp hu
    subst e
    obtain ⟨kk, hkk, e⟩ := Option.map_eq_some_iff.mp hv
    subst e
    have s56 : Same H5 (upd H5 tt2 (.tup [.int c, .int kk])) := same_upd ft
    have ht : upd H5 tt2 (HO.tup [.int c, .int kk]) tt2 = some (.tup [.int c, .int kk]) := upd_same
    generalize upd H5 tt2 (HO.tup [.int c, .int kk]) = H6 at *
    refine z_gT (.inl (.inl ht)) rfl ?_
    walk_at "z"
    have hN6 := s56 _ _ hN5
    refine z_bmL (fun R q => by walk_at "z"; exact q) hN6 ?_
    walk_at "z"
    refine z_append hN6 (by rw [List.length_map, List.length_map, List.length_range]; omega) ?_
    walk_at "z"
    have hD7 : upd H6 N (.lst (((List.range i).map (plN gx (kn.getD 0 0) cs ks)).map V.int ++ [.int (plN gx (kn.getD 0 0) cs ks i)])) D = some (.dK kvs) := by rw [upd_ne nND.symm]; exact s56 _ _ hD5
    refine z_aug rfl ?_
    walk_at "z"
    refine ⟨_, rfl, D, rfl, .inl ⟨kvs, .inl hD7⟩, ?_⟩
    walk_at "z"
    refine ⟨_, DGet.k (k := .inl c) hD7, ?_⟩
    rw [g1]
    walk_at "z"
    refine z_ipI ?_
    refine ⟨keep_new fN (s5.trans s56) kp_at, by rw [upd_ne nNG.symm]; exact s56 _ _ hG5, by rw [upd_ne nNS]; exact s56 _ _ hS5, hD7, ⟨some (.int c), some (.int kk), ?_⟩, ?_⟩
    · have e1 : cs.getD i 0 = c := by rw [List.getD_eq_getElem?_getD, hc]; rfl
      have e2 : ks.getD i 0 = kk := by rw [List.getD_eq_getElem?_getD, hkk]; rfl
      show _ = [_, _, _, _, _, some (V.int (plN gx (kn.getD 0 0) cs ks i + (gx (cs.getD i 0) + ks.getD i 0))), _, _, _]
      rw [e1, e2]
      rfl
    · rw [upd_same, List.range_succ, List.map_append, List.map_append]
      rfl
  · rintro σ' H5 ⟨s5, hG5, hS5, hD5, ⟨u7, u8, rfl⟩, hN5⟩
    walk_at "z"
    refine q N _ H5 s5 hN5 fun gs it => ?_
    unfold posF
    rw [hks]
    exact List.map_congr_left fun j _ => plN_congr (g2 gs it) _ _ _ j
end
/-- the differences that the law looks at -/
def Difs (r : List Int) (i : Nat) (ds : List Int) : Prop := (0 : Int) ∈ ds ∧ (∀ d ∈ ds, 0 ≤ d) ∧ ∀ k x y, k < i → r[k]? = some y → x ∈ r.drop k → x - y ∈ ds
def sp__law_table (K : PySem.W.Frag) : Sp := fun vs H Q _ => ∃ (p : Addr) (ns : List Int) (n : Nat), vs = [.ref p, .int (n : Int)] ∧ H p = some (.lst (ns.map V.int)) ∧ ns.length ≤ 24 ∧ 1 ≤ n ∧ ∀ a H' ws gs, H a = none → Same H H' → IsT ns n gs → H' a = some (.lst ws) → Gs K H' ws gs → Q (.ref a) H'
section
theorem ok__law_table {P : Program} {w : World} {K : PySem.W.Frag} {mg : Str → Option Value} {base : Heap} {A : Nat → Addr} {D : Nat → FuncData} (T : Txt K mg A D) : FnOk P w K mg base (L2.CX P w) 2 (A 45) (D 45) ["values", "limit"] (sp__law_table K) := by
  refine T.F__law_table.okX sc__law_table (fun vs H Q E h => ?_) (fun cdv A' outer s H vs Q E hr h => ?_)
  · obtain ⟨p, ns, n, rfl, _⟩ := h
    rfl
  obtain ⟨p, ns, n, rfl, hp, ln, hn, q⟩ := h
  refine ⟨_, (pss_cons (ps_set (i := 2) sc__law_table.nd rfl (.inr rfl) (pe_call (ok__law_ascending T) (hr.mono (by decide)) (by rfl) T.m__law_ascending T.F__law_ascending.kp T.b__law_ascending .nil (passes_call (takes_of rfl rfl rfl rfl) (fun _ _ _ _ h => h)) (pa_cons (pv 0) pa_nil)))
  (pss_cons (ps_set (i := 3) sc__law_table.nd rfl (.inl rfl) (pe_lst (pa_cons pe_int pa_nil)))
  (pss_cons (ps_for (passes_of rfl) rfl (pi_range1 (by rfl) T.z_range (pa_cons (pe_callB Z.c_len (by rfl) T.z_len (by decide +kernel) (pa_cons (pv 2) pa_nil)) pa_nil)) (pg_name (i := 4) sc__law_table.nd rfl (.inr rfl))
  (pss_one (ps_set (i := 3) sc__law_table.nd rfl (.inl rfl) (pe_op op_cat (pv 3) (pe_lc (own := [("value", 5)]) (g := gName 5) (tt := tYes) rfl sc__law_table.nd (pi_list (pe_slice sl_list (pv 2) (po_some (pv 4)) po_none)) (blkOk_by (N := ["values", "limit", "rest", "differences", "k", "value", "e"]) (sc := defScope s__law_table) (by decide +kernel)) (fun _ _ _ _ _ => pg_name (i := 5) sc__law_table.nd rfl (Or.inl rfl)) (fun _ _ _ _ _ => pts_nil) (fun _ _ _ _ _ => (pe_op op_sub (pv 5) (pe_ix (show IxR _ (rIxL K) from ix_list) (pv 2) (pv 4) (fun _ _ => rfl)))))))))
  (pss_cons (ps_for (passes_of rfl) rfl (pi_list (pe_callB cr_sortedI (by rfl) T.z_sorted (by decide +kernel) (pa_cons (pv 3) pa_nil))) (pg_name (i := 6) sc__law_table.nd rfl (.inl rfl))
  (pss_one (ps_if (pt_cmpR op_le (pe_callB Z.c_len (by rfl) T.z_len (by decide +kernel) (pa_cons (pe_call (ok__law_greedy T) (hr.mono (by decide)) (by rfl) T.m__law_greedy T.F__law_greedy.kp T.b__law_greedy .nil (passes_call (takes_of rfl rfl rfl rfl) (fun _ _ _ _ h => h)) (pa_cons (pv 2) (pa_cons (pv 6) pa_nil))) pa_nil)) (pv 1) (nomark _))
  (pss_one (ps_ret (pe_call (ok__law_greedy T) (hr.mono (by decide)) (by rfl) T.m__law_greedy T.F__law_greedy.kp T.b__law_greedy .nil (passes_call (takes_of rfl rfl rfl rfl) (fun _ _ _ _ h => h)) (pa_cons (pv 2) (pa_cons (pv 6) pa_nil)))))
  pss_nil)))
  (pss_one (ps_ret (pe_lst pa_nil))))))), ?_⟩
  walk_at "z"
  refine ⟨p, ns, rfl, hp, by omega, fun a H0 r f0 s0 ha asc hr lr' => ?_⟩
  have lr : r.length ≤ 24 := by omega
  have q : ∀ a H' ws gs, H0 a = none → Same H0 H' → IsT ns n gs → H' a = some (.lst ws) → Gs K H' ws gs → Q (.ref a) H' := fun a H' ws gs f s => q a H' ws gs (fresh_of s0 f) (s0.trans s)
  clear s0 hp
  walk_at "z"
  intro d1 H1 f1 s1 h1
  walk_at "z"
  refine z_forR1 r.length (by omega) (fun R q => by
    walk_at "z"
    refine z_lenL (.inl (.inl (s1 _ _ ha))) ?_
    walk_at "z"
    rw [List.length_map]
    exact q) (fun i σ' H' => Same H0 H' ∧ ∃ (d : Addr) (ds : List Int) (u3 : Option V), σ' = [some (.ref p), some (.int (n : Int)), some (.ref a), some (.ref d), u3, none, none] ∧ H' d = some (.lst (ds.map V.int)) ∧ Difs r i ds ∧ ds.length ≤ 1 + 24 * i)
    ⟨s1, d1, [0], _, rfl, h1, ⟨.head _, fun d hd => (by rw [List.mem_singleton.mp hd]; omega), fun k x y h => (by omega)⟩, Nat.le_refl 1⟩ ?_ ?_
  · rintro i σ' H2 hi ⟨s2, d, ds, u3, rfl, hd, ⟨D0, D1, D2⟩, ld⟩
    obtain ⟨y, hy⟩ : ∃ z, r[i]? = some z := ⟨_, List.getElem?_eq_getElem hi⟩
    walk_at "z"
    refine z_lcE ?_
    walk_at "z"
    refine ⟨_, rfl, ?_⟩
    walk_at "z"
    refine z_slL (.inl (.inl (s2 _ _ ha))) (ys := (r.drop i).map V.int) (by rw [cut_fromS (by rw [List.length_map]; omega), List.map_drop]) fun b H3 f3 s3 h3 => ?_
    have ha3 := s3 _ _ (s2 _ _ ha)
    refine z_lcS (((r.drop i).map fun x => x - y).map V.int) (by simp only [List.length_map]) (by rw [List.length_map, List.length_drop]; omega) h3 (fun _ => rfl) (fun j x w' H' hx hw s' R q => ?_) fun D H4 f4 s4 h4 => ?_
    · rw [List.map_map, List.getElem?_map] at hw
      rw [List.getElem?_map] at hx
      cases z : (r.drop i)[j]? with
      | none => rw [z] at hw; cases hw
      | some t =>
        rw [z] at hw hx
        cases hw
        cases hx
        walk_at "z"
        refine z_ixL (.inl (.inl (s' _ _ ha3))) (v := .int y) (atI_nat (by rw [List.getElem?_map, hy]; rfl)) ?_
        walk_at "z"
        exact q
    have s24 := s3.trans s4
    refine z_cat (s24 _ _ hd) h4 (by simp only [List.length_map, List.length_drop]; omega) fun c H5 f5 s5 h5 => ?_
    refine ⟨(s2.trans s24).trans s5, c, ds ++ (r.drop i).map (fun x => x - y), _, rfl, by rw [h5, List.map_append], ⟨List.mem_append.mpr (.inl D0), fun z hz => ?_, fun k x z hk hz hx => ?_⟩, by simp only [List.length_append, List.length_map, List.length_drop]; omega⟩
    · rcases List.mem_append.mp hz with h | h
      · exact D1 z h
      · obtain ⟨x, hx, rfl⟩ := List.mem_map.mp h
        have : y ≤ x := by
          have e : r.drop i = y :: r.drop (i + 1) := by
            obtain ⟨ii, e⟩ := List.getElem?_eq_some_iff.mp hy
            rw [List.drop_eq_getElem_cons ii, e]
          rw [e] at hx
          have pw := asc.sublist (List.drop_sublist i r)
          rw [e] at pw
          rcases List.mem_cons.mp hx with rfl | m
          · exact Int.le_refl _
          · exact asc_h pw x m
        omega
    · rcases Nat.lt_or_ge k i with h | h
      · exact List.mem_append.mpr (.inl (D2 k x z h hz hx))
      · have : k = i := by omega
        subst this
        rw [hy] at hz
        cases hz
        exact List.mem_append.mpr (.inr (List.mem_map.mpr ⟨x, hx, rfl⟩))
  rintro σ' H2 ⟨s2, d, ds, u3, rfl, hd, ⟨D0, D1, D2⟩, ld⟩
  -- every difference of two values
  have all : ∀ x ∈ r, ∀ y ∈ r, y ≤ x → x - y ∈ ds := fun x hx y hy l => by
    obtain ⟨k, hk⟩ := List.mem_iff_getElem?.mp hy
    have hkl := (List.getElem?_eq_some_iff.mp hk).1
    refine D2 k x y hkl hk ?_
    obtain ⟨j, hj⟩ := List.mem_iff_getElem?.mp hx
    have hjk : k ≤ j := by
      rcases Nat.lt_or_ge j k with h | h
      · obtain ⟨jj, e1⟩ := List.getElem?_eq_some_iff.mp hj
        obtain ⟨kk, e2⟩ := List.getElem?_eq_some_iff.mp hk
        have := (List.pairwise_iff_getElem.mp asc) j k jj kk h
        omega
      · exact h
    refine List.mem_iff_getElem?.mpr ⟨j - k, ?_⟩
    rw [List.getElem?_drop, show k + (j - k) = j by omega]
    exact hj
  walk_at "z"
  refine z_sortedI hd fun ms b H3 pm pw f3 s3 h3 => ?_
  have ha3 := s3 _ _ (s2 _ _ ha)
  unfold ForL
  refine z_forL (fun R q => q) (.inl (.inl h3)) (fun i σ' H' => Same H3 H' ∧ (∃ u5, σ' = [some (.ref p), some (.int (n : Int)), some (.ref a), some (.ref d), u3, none, u5]) ∧ ∀ j x, j < i → ms[j]? = some x → n < cntG x r) ⟨fun _ _ e => e, ⟨_, rfl⟩, fun j x h => by omega⟩ (fun i σ' H' _ h => .inl (.inl (h.1 _ _ h3))) ?_ ?_
  · rintro i x σ' H4 hx ⟨s4, ⟨u5, rfl⟩, no⟩
    rw [List.getElem?_map] at hx
    cases hj : ms[i]? with
    | none => rw [hj] at hx; cases hx
    | some e =>
    rw [hj] at hx
    cases hx
    have e0 := D1 e (pm.mem_iff.mp (List.mem_of_getElem? hj))
    walk_at "z"
    refine ⟨a, r, e, rfl, s4 _ _ ha3, by omega, fun g H5 ws f5 s5 h5 gg => ?_⟩
    have lw : ws.length = cntG e r := gg.len
    walk_at "z"
    refine z_if (fun c => ?_) (fun c => ?_)
    · walk_at "z"
      have tl : Tol r n e := ?_
      · refine ⟨a, r, e, rfl, (s4.trans s5) _ _ ha3, by omega, fun g2 H6 ws2 f6 s6 h6 gg2 => ?_⟩
        exact q g2 H6 ws2 (grp e r) (fresh_of (((s2.trans s3).trans s4).trans s5) f6) ((((s2.trans s3).trans s4).trans s5).trans s6) ⟨e, r, asc, hr, tl, rfl⟩ h6 gg2
      refine ⟨e0, by omega, fun e' h0 h' => ?_⟩
      obtain ⟨d', l1, l2, l3⟩ := tol_diff asc h0 h'
      have md : d' ∈ ds := by
        rcases l3 with rfl | ⟨x, hx, y, hy, l, rfl⟩
        · exact D0
        · exact all x hx y hy l
      obtain ⟨j, hj2⟩ := List.mem_iff_getElem?.mp (pm.mem_iff.mpr md)
      rcases Nat.lt_or_ge j i with h | h
      · have := no j d' h hj2
        omega
      · obtain ⟨ii, e1⟩ := List.getElem?_eq_some_iff.mp hj
        obtain ⟨jj, e2⟩ := List.getElem?_eq_some_iff.mp hj2
        rcases Nat.lt_or_ge i j with h' | h'
        · have := (List.pairwise_iff_getElem.mp pw) i j ii jj h'
          omega
        · have : i = j := by omega
          subst this
          omega
    · walk_at "z"
      refine ⟨s4.trans s5, ⟨_, rfl⟩, fun j x hj' hx => ?_⟩
      rcases Nat.lt_or_ge j i with h | h
      · exact no j x h hx
      · have : j = i := by omega
        subst this
        rw [hj] at hx
        cases hx
        omega
  · rintro σ' H4 ⟨s4, ⟨u5, rfl⟩, no⟩
    -- some difference is enough
    exfalso
    rw [List.length_map] at no
    have md : ∃ e ∈ ds, cntG e r ≤ n := by
      cases r with
      | nil => exact ⟨0, D0, Nat.zero_le _⟩
      | cons y r =>
        obtain ⟨b, hb⟩ : ∃ z, (y :: r)[(y :: r).length - 1]? = some z := ⟨_, List.getElem?_eq_getElem (by simp)⟩
        have := cnt_all asc rfl hb
        exact ⟨b - y, all b (List.mem_of_getElem? hb) y (.head _) (asc_le asc hb y (.head _)), by omega⟩
    obtain ⟨e, me, he⟩ := md
    obtain ⟨j, hj⟩ := List.mem_iff_getElem?.mp (pm.mem_iff.mpr me)
    have := no j e (List.getElem?_eq_some_iff.mp hj).1 hj
    omega
end
def sp__law_middle (K : PySem.W.Frag) : Sp := fun vs H Q _ => ∃ (a : Addr) (ws : List V) (gs : List GP) (v : Int), vs = [.ref a, .int v] ∧ H a = some (.lst ws) ∧ Gs K H ws gs ∧ Q (.int (tvF gs v)) H
section
theorem ok__law_middle {P : Program} {w : World} {K : PySem.W.Frag} {mg : Str → Option Value} {base : Heap} {A : Nat → Addr} {D : Nat → FuncData} (T : Txt K mg A D) : FnOk P w K mg base (L2.CX P w) 1 (A 46) (D 46) ["found", "value"] (sp__law_middle K) := by
  refine T.F__law_middle.okX sc__law_middle (fun vs H Q E h => ?_) (fun cdv A' outer s H vs Q E hr h => ?_)
  · obtain ⟨a, ws, gs, v, rfl, _⟩ := h
    rfl
  obtain ⟨a, ws, gs, v, rfl, ha, g, q⟩ := h
  refine ⟨_, (pss_cons (ps_for (passes_of rfl) rfl (pi_list (pv 0)) (pg_tup (by rfl) (pgs_cons (pg_name (i := 2) sc__law_middle.nd rfl (.inl rfl)) (pgs_cons (pg_name (i := 3) sc__law_middle.nd rfl (.inl rfl)) pgs_nil)))
  (pss_one (ps_if (PW.pt (pw_and (pt_cmpR op_le (pv 2) (pv 1) (nomark _)) (pw_and1 (pt_cmpR op_le (pv 1) (pv 3) (nomark _)))))
  (pss_one (ps_ret (pe_op op_fdivW (pe_op op_add (pv 2) (pv 3)) pe_int)))
  pss_nil)))
  (pss_one (ps_ret pe_int))), ?_⟩
  have lw := g.len
  walk_at "z"
  refine z_forL (fun R q => q) (.inl (.inl ha)) (fun i σ' H' => H' = H ∧ (∃ u2 u3, σ' = [some (.ref a), some (.int v), u2, u3]) ∧ ∀ j z, j < i → gs[j]? = some z → ¬ (z.1 ≤ v ∧ v ≤ z.2)) ⟨rfl, ⟨_, _, rfl⟩, fun j z hj => absurd hj (Nat.not_lt_zero _)⟩ (fun i σ' H' _ h => by rw [h.1]; exact .inl (.inl ha)) ?_ ?_
  · rintro i x σ' H' hx ⟨rfl, ⟨u2, u3, rfl⟩, no⟩
    obtain ⟨z, hz, dz⟩ := g.getv hx
    obtain ⟨tz, rfl, hzt⟩ := dp_g dz
    have next : ¬ (z.1 ≤ v ∧ v ≤ z.2) → ∀ j y, j < i + 1 → gs[j]? = some y → ¬ (y.1 ≤ v ∧ v ≤ y.2) := fun c j y hj hy => by
      rcases Nat.lt_or_ge j i with h | h
      · exact no j y h hy
      · rw [show j = i by omega, hz] at hy
        cases hy
        exact c
    refine z_gT hzt rfl ?_
    walk_at "z"
    refine z_if (fun c1 => ?_) (fun c1 => ?_)
    · walk_at "z"
      refine z_if (fun c2 => ?_) (fun c2 => ?_)
      · walk_at "z"
        refine z_I wd2 ?_
        have e : tvF gs v = mid z := by
          unfold tvF
          have : gs.find? (fun g => decide (g.1 ≤ v) && decide (v ≤ g.2)) = some z := by
            rw [List.find?_eq_some_iff_getElem]
            have hi := (List.getElem?_eq_some_iff.mp hz).1
            refine ⟨by rw [decide_eq_true c1, decide_eq_true c2]; rfl, i, hi, (List.getElem?_eq_some_iff.mp hz).2, fun j hj => ?_⟩
            have := no j gs[j] hj (List.getElem?_eq_getElem (by omega))
            by_cases y1 : gs[j].1 ≤ v
            · have : ¬ v ≤ gs[j].2 := fun y2 => this ⟨y1, y2⟩
              simp [this]
            · simp [y1]
          rw [this]
        rw [e] at q
        exact q
      · walk_at "z"
        exact ⟨rfl, ⟨_, _, rfl⟩, next fun h => c2 h.2⟩
    · walk_at "z"
      exact ⟨rfl, ⟨_, _, rfl⟩, next fun h => c1 h.1⟩
  · rintro σ' H' ⟨rfl, ⟨u2, u3, rfl⟩, no⟩
    rw [lw] at no
    walk_at "z"
    have e : tvF gs v = 0 := by
      unfold tvF
      have : gs.find? (fun g => decide (g.1 ≤ v) && decide (v ≤ g.2)) = none := by
        rw [List.find?_eq_none]
        intro z hz h
        obtain ⟨j, hj⟩ := List.mem_iff_getElem?.mp hz
        rw [Bool.and_eq_true, decide_eq_true_eq, decide_eq_true_eq] at h
        exact no j z (List.getElem?_eq_some_iff.mp hj).1 hj h
      rw [this]
    rw [e] at q
    exact q
end
/-- steps that are kerns, each the last of its own -/
def AllK (ss : List Stp) : Prop := ∀ s ∈ ss, ∃ r n, s = ⟨r, .kern n, true⟩
theorem first_k {ss : List Stp} (h : AllK ss) {i : Nat} {r' n : Int} (e : ss[i]? = some ⟨r', .kern n, true⟩) (r : Int) : firstA r (ss.drop i) = if r' = r then some (.kern n) else none := by
  rw [firstA_at e]
  rfl
theorem kr_found {ss : List Stp} (h : AllK ss) {l r n : Int} : ∀ {ls : List (Int × Nat)} {i idx : Nat}, (ls.map Prod.fst).Nodup → ls[i]? = some (l, idx) → ss[idx]? = some ⟨r, .kern n, true⟩ → kernO (ruleF ss l r ls) = n
  | [], i, idx, _, e, _ => by simp at e
  | x :: ls, 0, idx, nd, e, e2 => by
    cases e
    show kernO (if (l, idx).1 = l then firstA r (ss.drop (l, idx).2) else ruleF ss l r ls) = n
    rw [if_pos rfl, first_k h e2, if_pos rfl]
    rfl
  | x :: ls, i + 1, idx, nd, e, e2 => by
    rw [List.map_cons, List.nodup_cons] at nd
    have hm : l ∈ ls.map Prod.fst := List.mem_map.mpr ⟨(l, idx), List.mem_of_getElem? (show ls[i]? = some (l, idx) from e), rfl⟩
    show kernO (if x.1 = l then firstA r (ss.drop x.2) else ruleF ss l r ls) = n
    rw [if_neg (fun z => nd.1 (by rw [z]; exact hm))]
    exact kr_found h (i := i) nd.2 e e2
theorem kr_none {ss : List Stp} (h : AllK ss) {l r : Int} : ∀ {ls : List (Int × Nat)}, (∀ x ∈ ls, x.1 = l → ∃ r' n, ss[x.2]? = some ⟨r', .kern n, true⟩ ∧ r' ≠ r) → kernO (ruleF ss l r ls) = 0
  | [], _ => rfl
  | x :: ls, hn => by
    show kernO (if x.1 = l then firstA r (ss.drop x.2) else ruleF ss l r ls) = 0
    by_cases e : x.1 = l
    · rw [if_pos e]
      obtain ⟨r', n, e2, ne⟩ := hn x (.head _) e
      rw [first_k h e2, if_neg ne]
      rfl
    · rw [if_neg e]
      exact kr_none h fun y hy => hn y (.tail _ hy)
structure KL (K : PySem.W.Frag) (H : Hp) (sa la : Addr) (ss : List Stp) (ls : List (Int × Nat)) : Prop where
  sv : ∃ vs1, H sa = some (.lst vs1) ∧ DpAll K H vs1 (ss.map stpD)
  lv : ∃ vs2, H la = some (.lst vs2) ∧ DpAll K H vs2 (ls.map labD)
  all : AllK ss
  nd : (ls.map Prod.fst).Nodup
  lab : ∀ l ∈ ls, l.2 < ss.length
theorem KL.mono {K : PySem.W.Frag} {H H' : Hp} {sa la : Addr} {ss : List Stp} {ls : List (Int × Nat)} (s : Same H H') (h : KL K H sa la ss ls) : KL K H' sa la ss ls := by
  obtain ⟨v1, h1, d1⟩ := h.sv
  obtain ⟨v2, h2, d2⟩ := h.lv
  exact ⟨⟨v1, s _ _ h1, dp_monoA s d1⟩, ⟨v2, s _ _ h2, dp_monoA s d2⟩, h.all, h.nd, h.lab⟩
def sp__law_kern (K : PySem.W.Frag) : Sp := fun vs H Q _ => ∃ (sa la : Addr) (ss : List Stp) (ls : List (Int × Nat)) (l r : Int), vs = [.ref sa, .ref la, .int l, .int r] ∧ KL K H sa la ss ls ∧ Q (.int (kernO (ruleF ss l r ls))) H
section
theorem ok__law_kern {P : Program} {w : World} {K : PySem.W.Frag} {mg : Str → Option Value} {base : Heap} {A : Nat → Addr} {D : Nat → FuncData} (T : Txt K mg A D) : FnOk P w K mg base (L2.CX P w) 1 (A 49) (D 49) ["steps", "labels", "left", "right"] (sp__law_kern K) := by
  refine T.F__law_kern.okX sc__law_kern (fun vs H Q E h => ?_) (fun cdv A' outer s H vs Q E hr h => ?_)
  · obtain ⟨sa, la, ss, ls, l, r, rfl, _⟩ := h
    rfl
  obtain ⟨sa, la, ss, ls, l, r, rfl, kl, q⟩ := h
  refine ⟨_, (pss_cons (ps_for (passes_of rfl) rfl (pi_list (pv 1)) (pg_tup (by rfl) (pgs_cons (pg_name (i := 4) sc__law_kern.nd rfl (.inl rfl)) (pgs_cons (pg_name (i := 5) sc__law_kern.nd rfl (.inl rfl)) pgs_nil)))
  (pss_one (ps_if (PW.pt (pw_and (pt_cmpR op_eq (pv 4) (pv 2) (nomark _)) (pw_and1 (pt_cmpR op_eq (pe_ix ix_tup (pe_ix ix_list (pv 0) (pv 5) (fun _ _ => rfl)) pe_int (fun _ _ => rfl)) (pv 3) (nomark _)))))
  (pss_one (ps_ret (pe_ix ix_tup (pe_ix ix_tup (pe_ix ix_list (pv 0) (pv 5) (fun _ _ => rfl)) pe_int (fun _ _ => rfl)) pe_int (fun _ _ => rfl))))
  pss_nil)))
  (pss_one (ps_ret pe_int))), ?_⟩
  obtain ⟨v1, h1, d1⟩ := kl.sv
  obtain ⟨v2, h2, d2⟩ := kl.lv
  have lv := dpa_lenM d2
  walk_at "z"
  refine z_forL (fun R q => q) (.inl (.inl h2)) (fun i σ' H' => H' = H ∧ (∃ u4 u5, σ' = [some (.ref sa), some (.ref la), some (.int l), some (.int r), u4, u5]) ∧ ∀ j x, j < i → ls[j]? = some x → x.1 = l → ∃ r' n, ss[x.2]? = some ⟨r', .kern n, true⟩ ∧ r' ≠ r) ⟨rfl, ⟨_, _, rfl⟩, fun j z hj => absurd hj (Nat.not_lt_zero _)⟩ (fun i σ' H' _ h => by rw [h.1]; exact .inl (.inl h2)) ?_ ?_
  · rintro i x σ' H' hx ⟨rfl, ⟨u4, u5, rfl⟩, no⟩
    obtain ⟨lb, hlb, dl⟩ := dpa_atM d2 hx
    obtain ⟨b, rfl, hb⟩ := dp_lab dl
    have lt := kl.lab lb (List.mem_of_getElem? hlb)
    obtain ⟨r', n, es⟩ := kl.all ss[lb.2] (List.getElem_mem lt)
    have es2 : ss[lb.2]? = some ⟨r', .kern n, true⟩ := by rw [List.getElem?_eq_getElem lt, es]
    obtain ⟨w, hw, dw⟩ := dpa_get d1 (show (ss.map stpD)[lb.2]? = some (stpD ⟨r', .kern n, true⟩) by rw [List.getElem?_map, es2]; rfl)
    obtain ⟨sb, wa, rfl, hsb, da⟩ := dp_stp dw
    obtain ⟨ab, rfl, hab⟩ := dp_kern da
    have next : (lb.1 = l → r' ≠ r) → ∀ j x, j < i + 1 → ls[j]? = some x → x.1 = l → ∃ r' n, ss[x.2]? = some ⟨r', .kern n, true⟩ ∧ r' ≠ r := fun c j y hj hy hl => by
      rcases Nat.lt_or_ge j i with h | h
      · exact no j y h hy hl
      · rw [show j = i by omega, hlb] at hy
        cases hy
        exact ⟨r', n, es2, c hl⟩
    refine z_gT hb rfl ?_
    walk_at "z"
    refine z_if (fun c1 => ?_) (fun c1 => ?_)
    · walk_at "z"
      refine z_ixL (.inl (.inl h1)) (atI_nat hw) ?_
      walk_at "z"
      refine z_if (fun c2 => ?_) (fun c2 => ?_)
      · walk_at "z"
        refine z_ixL (.inl (.inl h1)) (atI_nat hw) ?_
        walk_at "z"
        have e : ls[i]? = some (l, lb.2) := by rw [hlb, ← c1]
        rw [← c2, kr_found kl.all kl.nd e es2] at q
        exact q
      · walk_at "z"
        exact ⟨rfl, ⟨_, _, rfl⟩, next fun _ => c2⟩
    · walk_at "z"
      exact ⟨rfl, ⟨_, _, rfl⟩, next fun h => absurd h c1⟩
  · rintro σ' H' ⟨rfl, ⟨u4, u5, rfl⟩, no⟩
    rw [lv] at no
    walk_at "z"
    rw [kr_none kl.all fun x hx hl => by
      obtain ⟨j, hj⟩ := List.mem_iff_getElem?.mp hx
      exact no j x (List.getElem?_eq_some_iff.mp hj).1 hj hl] at q
    exact q
end
def sp__law_refuses (K : PySem.W.Frag) (A : Nat → Addr) : Sp := fun vs H Q _ => ∃ (p : Addr) (chs : List Chr) (ss : List Stp) (ls : List (Int × Nat)) (code : Int), vs = [.ref p, .int code] ∧ FontAt (A 4) K H p chs ss ls ∧ chF code chs = none ∧ Q (.bl true) H
section
theorem ok__law_refuses {P : Program} {w : World} {K : PySem.W.Frag} {mg : Str → Option Value} {base : Heap} {A : Nat → Addr} {D : Nat → FuncData} (T : Txt K mg A D) : FnOk P w K mg base (L2.CX P w) 6 (A 47) (D 47) ["font", "code"] (sp__law_refuses K A) := by
  refine T.F__law_refuses.okX sc__law_refuses (fun vs H Q E h => ?_) (fun cdv A' outer s H vs Q E hr h => ?_)
  · obtain ⟨p, chs, ss, ls, code, rfl, _⟩ := h
    rfl
  obtain ⟨p, chs, ss, ls, code, rfl, F, no, q⟩ := h
  refine ⟨_, (pss_cons (ps_set (i := 2) sc__law_refuses.nd rfl (.inl rfl) pe_int)
  (pss_cons (ps_try_as (i := 3) (Wout := fun _ _ _ _ => False) rfl rfl sc__law_refuses.nd rfl rfl ⟨rfl, by decide, .inl T.x_OutOfRange.g⟩ takes0 (fun W pn xe tk PO => (pss_one (ps_expr (Cw.pe_methS (by exact (pv 0)) T.q_Font T.m_Font_character (ok_Font_character T) (hr.mono (by decide)) T.b_Font_character .nil (fun σ => passAt tk σ) (pa_cons (pv 1) pa_nil)))))
  (fun a oe cls d pn hz hf => (pss_one (ps_set (i := 2) sc__law_refuses.nd rfl (.inl rfl) (pe_op op_add (pv 2) (pe_callTy Z.c_int (by rfl) T.z_int (by decide +kernel) (pa_cons (pe_callB (Z.call_isE hz hf) (by rfl) T.z_isinstance (by decide +kernel) (pa_cons (pv 3) (pa_cons (Z.pe_globR T.x_FontError.g) pa_nil))) pa_nil)))))))
  (pss_cons (ps_try_only (Wout := fun _ _ _ _ => False) rfl rfl ⟨rfl, by decide, .inl T.x_OutOfRange.g⟩ takes0 (fun W pn xe tk PO => (pss_one (ps_expr (Cw.pe_methS (by exact (pv 0)) T.q_Font T.m_Font_table_value (ok_Font_table_value T) (hr.mono (by decide)) T.b_Font_table_value .nil (fun σ => passAt tk σ) (pa_cons (pv 1) (pa_cons pe_int pa_nil))))))
  (fun a oe cls d pn hz hf => (pss_one (ps_set (i := 2) sc__law_refuses.nd rfl (.inl rfl) (pe_op op_add (pv 2) pe_int)))))
  (pss_cons (ps_try_only (Wout := fun _ _ _ _ => False) rfl rfl ⟨rfl, by decide, .inl T.x_OutOfRange.g⟩ takes0 (fun W pn xe tk PO => (pss_one (ps_expr (Cw.pe_methS (by exact (pv 0)) T.q_Font T.m_Font_pixel (ok_Font_pixel T) (hr.mono (by decide)) T.b_Font_pixel .nil (fun σ => passAt tk σ) (pa_cons (pv 1) (pa_cons pe_int (pa_cons pe_int pa_nil)))))))
  (fun a oe cls d pn hz hf => (pss_one (ps_set (i := 2) sc__law_refuses.nd rfl (.inl rfl) (pe_op op_add (pv 2) pe_int)))))
  (pss_one (ps_ret (pe_cmpR op_eq (pv 2) pe_int (nomark _)))))))), ?_⟩
  obtain ⟨dx, t, ts, v, u, h1, h2, h3, h4, h5⟩ := id F.ins
  have bad : ∀ {P : Prop} {c : Chr}, chF code chs = some c → P := fun {P c} h => absurd h (by rw [no]; simp)
  walk_at "z"
  refine Cw.z_meth h1 (lk_no (by decide +kernel)) ?_
  walk_at "z"
  refine ⟨p, chs, ss, ls, code, rfl, F, fun c v hc _ => bad hc, fun _ => ?_⟩
  refine z_exc (exm T.x_OutOfRange T.e_OutOfRange_OutOfRange) fun a ha => ?_
  walk_at "z"
  refine z_isEr T.x_OutOfRange.c (kit_own T.x_FontError T.e_OutOfRange_FontError T.e_FontError_FontError) ?_
  walk_at "z"
  refine Cw.z_meth h1 (lk_no (by decide +kernel)) ?_
  walk_at "z"
  refine ⟨p, chs, ss, ls, code, 0, rfl, F, by decide, fun c gs H' hc _ _ => bad hc, fun _ => ?_⟩
  refine z_excO (exm T.x_OutOfRange T.e_OutOfRange_OutOfRange) fun a2 ha2 => ?_
  walk_at "z"
  refine Cw.z_meth h1 (lk_no (by decide +kernel)) ?_
  walk_at "z"
  refine ⟨p, chs, ss, ls, code, 0, 0, rfl, F, no, ?_⟩
  refine z_excO (exm T.x_OutOfRange T.e_OutOfRange_OutOfRange) fun a3 ha3 => ?_
  walk_at "z"
  exact q
end
def sp__law_too_long (K : PySem.W.Frag) (A : Nat → Addr) : Sp := fun vs H Q _ => ∃ (p a : Addr) (chs : List Chr) (ss : List Stp) (ls : List (Int × Nat)) (cs dd : List Int), vs = [.ref p, .ref a] ∧ FontAt (A 4) K H p chs ss ls ∧ (chs.map Prod.fst).Nodup ∧ KOk ss ls ∧ SqL K H a (cs.map V.int) ∧ dd.length ≤ 10 ∧ (∀ x ∈ cs, x ∈ dd) ∧ 400 < cs.length + 2 ∧ ∀ H', Same H H' → Q (.bl true) H'
section
theorem ok__law_too_long {P : Program} {w : World} {K : PySem.W.Frag} {mg : Str → Option Value} {base : Heap} {A : Nat → Addr} {D : Nat → FuncData} (T : Txt K mg A D) : FnOk P w K mg base (L2.CX P w) 8 (A 48) (D 48) ["font", "codes"] (sp__law_too_long K A) := by
  refine T.F__law_too_long.okX sc__law_too_long (fun vs H Q E h => ?_) (fun cdv A' outer s H vs Q E hr h => ?_)
  · obtain ⟨p, a, chs, ss, ls, cs, dd, rfl, _⟩ := h
    rfl
  obtain ⟨p, a, chs, ss, ls, cs, dd, rfl, F, nd, ko, ha, d10, dm, big, q⟩ := h
  refine ⟨_, (pss_cons (ps_set (i := 2) sc__law_too_long.nd rfl (.inl rfl) pe_int)
  (pss_cons (ps_try_as (i := 3) (Wout := fun _ _ _ _ => False) rfl rfl sc__law_too_long.nd rfl rfl ⟨rfl, by decide, .inl T.x_TooLong.g⟩ takes0 (fun W pn xe tk PO => (pss_one (ps_expr (Cw.pe_methS (by exact (pv 0)) T.q_Font T.m_Font_line (ok_Font_line T) (hr.mono (by decide)) T.b_Font_line .nil (fun σ => passAt tk σ) (pa_cons (pv 1) pa_nil)))))
  (fun a oe cls d pn hz hf => (pss_one (ps_set (i := 2) sc__law_too_long.nd rfl (.inl rfl) (pe_op op_add (pv 2) (pe_callTy Z.c_int (by rfl) T.z_int (by decide +kernel) (pa_cons (pe_callB (Z.call_isE hz hf) (by rfl) T.z_isinstance (by decide +kernel) (pa_cons (pv 3) (pa_cons (Z.pe_globR T.x_FontError.g) pa_nil))) pa_nil)))))))
  (pss_cons (ps_try_only (Wout := fun _ _ _ _ => False) rfl rfl ⟨rfl, by decide, .inl T.x_TooLong.g⟩ takes0 (fun W pn xe tk PO => (pss_one (ps_expr (Cw.pe_methS (by exact (pv 0)) T.q_Font T.m_Font_width (ok_Font_width T) (hr.mono (by decide)) T.b_Font_width .nil (fun σ => passAt tk σ) (pa_cons (pv 1) pa_nil)))))
  (fun a oe cls d pn hz hf => (pss_one (ps_set (i := 2) sc__law_too_long.nd rfl (.inl rfl) (pe_op op_add (pv 2) pe_int)))))
  (pss_cons (ps_try_only (Wout := fun _ _ _ _ => False) rfl rfl ⟨rfl, by decide, .inl T.x_TooLong.g⟩ takes0 (fun W pn xe tk PO => (pss_one (ps_expr (Cw.pe_methS (by exact (pv 0)) T.q_Font T.m_Font_positions (ok_Font_positions T) (hr.mono (by decide)) T.b_Font_positions .nil (fun σ => passAt tk σ) (pa_cons (pv 1) pa_nil)))))
  (fun a oe cls d pn hz hf => (pss_one (ps_set (i := 2) sc__law_too_long.nd rfl (.inl rfl) (pe_op op_add (pv 2) pe_int)))))
  (pss_one (ps_ret (pe_cmpR op_eq (pv 2) pe_int (nomark _)))))))), ?_⟩
  obtain ⟨dx, t, ts, v, u, h1, h2, h3, h4, h5⟩ := id F.ins
  have small : ∀ {P : Prop}, cs.length ≤ 380 → P := fun {P} h => absurd h (by omega)
  walk_at "z"
  refine Cw.z_meth h1 (lk_no (by decide +kernel)) ?_
  walk_at "z"
  refine ⟨p, a, chs, ss, ls, cs, dd, rfl, F, ko, ha, d10, dm, fun _ H1 s1 => ?_, fun h => small h, .inr big⟩
  refine z_exc (exm T.x_TooLong T.e_TooLong_TooLong) fun e1 he1 => ?_
  walk_at "z"
  refine z_isEr T.x_TooLong.c (kit_own T.x_FontError T.e_TooLong_FontError T.e_FontError_FontError) ?_
  walk_at "z"
  refine Cw.z_meth (s1 _ _ h1) (lk_no (by decide +kernel)) ?_
  walk_at "z"
  refine ⟨p, a, chs, ss, ls, cs, dd, rfl, F.mono s1, nd, ko, s1.seq ha, d10, dm, fun _ H2 s2 => ?_, fun h => small h, .inr big⟩
  refine z_excO (exm T.x_TooLong T.e_TooLong_TooLong) fun e2 he2 => ?_
  walk_at "z"
  have s12 := s1.trans s2
  refine Cw.z_meth (s12 _ _ h1) (lk_no (by decide +kernel)) ?_
  walk_at "z"
  refine ⟨p, a, chs, ss, ls, cs, dd, rfl, F.mono s12, nd, ko, s12.seq ha, d10, dm, fun _ H3 s3 => ?_, fun h => small h, .inr big⟩
  refine z_excO (exm T.x_TooLong T.e_TooLong_TooLong) fun e3 he3 => ?_
  walk_at "z"
  exact q H3 (s12.trans s3)
end
/-! ### the law -/
theorem z_comp {H0 H : Hp} {p : Addr} {m k : Nat} {vs : List Nat} {te : TE} {σ : L2.St} {Q : VK} {v : Int} (P : Nat → Int → Prop) (S : Sd H0 H p) (hv : v = (m : Int)) (hm : m ≤ 500) (hw : ∀ x, wipe ((wipe σ vs).set k (some x)) vs = wipe σ vs)
    (hte : ∀ (i : Nat) (H' : Hp) (R : VK), i < m → Sd H0 H' p → Kp p H H' → (∀ x H2, P i x → Sd H0 H2 p → Kp p H' H2 → R (.int x) H2) → te ((wipe σ vs).set k (some (.int (i : Int)))) H' R)
    (q : ∀ (D : Addr) (H' : Hp) (ns : List Int), H D = none → D ≠ p → Sd H0 H' p → Kp p H H' → H' D = some (.lst (ns.map V.int)) → ns.length = m → (∀ i x, ns[i]? = some x → P i x) → Q (.ref D) H') : LcRE (gName k) tYes te vs σ Q [.int v] H := by
  subst hv
  refine z_lcRr m (by omega) hw (fun i D acc H' => Sd H0 H' p ∧ Kp p H H' ∧ D ≠ p ∧ H D = none ∧ ∃ ns : List Int, acc = ns.map V.int ∧ ∀ i x, ns[i]? = some x → P i x)
    (fun D H' f s e => ⟨S.mono s, kp_of s, S.ne0 f, f, [], rfl, fun i x hx => by cases hx⟩) (fun i D acc H' hi hl hD ⟨S', k', ne, f, ns, ea, hb⟩ => ?_)
    (fun D acc H' f hl hD ⟨S', k', ne, _, ns, ea, hb⟩ => q D H' ns f ne S' k' (by rw [hD, ea]) (by rw [← hl, ea, List.length_map]) hb)
  refine hte i H' _ hi S' k' fun x H2 px S2 k2 => ?_
  have hD2 : H2 D = some (.lst acc) := k2 _ _ ne hD
  have ln : ns.length = i := by rw [← hl, ea, List.length_map]
  refine z_lcB hD2 hl (by omega) fun H3 hD3 k3 e3 => ⟨?_, ?_, ne, f, ns ++ [x], by rw [ea, List.map_append]; rfl, fun j y hy => ?_⟩
  · obtain ⟨a, b, c, st⟩ := S2.stm
    refine ⟨fun b o h => ?_, S2.fresh, a, b, c, by rw [e3 p ne.symm]; exact st⟩
    have hne : b ≠ D := fun z => by
      have h1 := S.same _ _ h
      rw [z, f] at h1
      cases h1
    rw [e3 b hne]
    exact S2.same _ _ h
  · intro b o hb h
    have hne : b ≠ D := fun z => by
      rw [z, f] at h
      cases h
    rw [e3 b hne]
    exact k2 _ _ hb (k' b o hb h)
  · rcases Nat.lt_or_ge j ns.length with l | l
    · rw [List.getElem?_append_left l] at hy
      exact hb j y hy
    · rw [List.getElem?_append_right l] at hy
      rcases Nat.eq_or_lt_of_le l with e | e
      · subst e
        rw [Nat.sub_self] at hy
        cases hy
        rw [ln]
        exact px
      · rw [List.getElem?_eq_none (by rw [List.length_singleton]; omega)] at hy
        cases hy
theorem z_lstN {n : Nat} {σ : L2.St} {H : Hp} {Q : VK} (q : ∀ a H', H a = none → n ≤ a → Same H H' → H' a = some (.lst []) → Q (.ref a) H') : Fo.tLstN n tNil σ H Q := ⟨Nat.zero_le _, fun p hp hn => q p _ hp hn (same_upd hp) upd_same⟩
/-- the tables that the law found: in order, each in a list of its own -/
structure Fd (K : PySem.W.Frag) (H : Hp) (FN : Addr) (chs : List Chr) (i : Nat) : Prop where
  ex : ∃ gvs, H FN = some (.lst gvs) ∧ gvs.length = i ∧ ∀ (j : Nat) (v : V), gvs[j]? = some v → ∃ b ws gs, v = .ref b ∧ b ≠ FN ∧ H b = some (.lst ws) ∧ Gs K H ws gs ∧ IsT (mvF chs j) (limF j) gs
theorem Fd.mono {K : PySem.W.Frag} {H H' : Hp} {FN : Addr} {chs : List Chr} {i : Nat} (s : Same H H') (h : Fd K H FN chs i) : Fd K H' FN chs i := by
  obtain ⟨gvs, h1, h2, h3⟩ := h.ex
  exact ⟨gvs, s _ _ h1, h2, fun j v e => by
    obtain ⟨b, ws, gs, e1, ne, hb, g, it⟩ := h3 j v e
    exact ⟨b, ws, gs, e1, ne, s _ _ hb, g.mono s, it⟩⟩
theorem Fd.app {K : PySem.W.Frag} {H : Hp} {FN b : Addr} {chs : List Chr} {i : Nat} {gvs ws : List V} {gs : List GP} (h : Fd K H FN chs i) (e : H FN = some (.lst gvs)) (ne : b ≠ FN) (hb : H b = some (.lst ws)) (g : Gs K H ws gs) (it : IsT (mvF chs i) (limF i) gs) : Fd K (upd H FN (.lst (gvs ++ [.ref b]))) FN chs (i + 1) := by
  obtain ⟨gv2, h1, h2, h3⟩ := h.ex
  rw [e] at h1
  cases h1
  refine ⟨_, upd_same, by rw [List.length_append, h2]; rfl, fun j v hj => ?_⟩
  rcases Nat.lt_or_ge j gvs.length with l | l
  · rw [List.getElem?_append_left l] at hj
    obtain ⟨b', ws', gs', e1, ne', hb', g', it'⟩ := h3 j v hj
    exact ⟨b', ws', gs', e1, ne', by rw [upd_ne ne']; exact hb', g'.kp kp_at e, it'⟩
  · rw [List.getElem?_append_right l] at hj
    rcases Nat.eq_or_lt_of_le l with z | z
    · subst z
      rw [Nat.sub_self] at hj
      cases hj
      exact ⟨b, ws, gs, rfl, ne, by rw [upd_ne ne]; exact hb, g.kp kp_at e, by rw [h2]; exact it⟩
    · rw [List.getElem?_eq_none (by rw [List.length_singleton]; omega)] at hj
      cases hj
theorem lim_L {i : Nat} (hi : i < 4) : atI [V.int 8, V.int 4, V.int 3, V.int 2] (i : Int) = some (.int (limF i : Nat)) := by
  have : i = 0 ∨ i = 1 ∨ i = 2 ∨ i = 3 := by omega
  rcases this with rfl | rfl | rfl | rfl <;> rfl
theorem IsT.len {ns : List Int} {n : Nat} {gs : List GP} (h : IsT ns n gs) : gs.length ≤ n := by
  obtain ⟨e, ms, a, m, t, rfl⟩ := h
  have := t.2.1
  unfold cntG at this
  exact this
theorem lim_8 {i : Nat} (hi : i < 4) : limF i ≤ 8 := by
  have : i = 0 ∨ i = 1 ∨ i = 2 ∨ i = 3 := by omega
  rcases this with rfl | rfl | rfl | rfl <;> decide
theorem chF_self {chs : List Chr} {i : Nat} {c : Chr} (hc : chs[i]? = some c) (nd : (chs.map Prod.fst).Nodup) : chF c.1 chs = some c := by
  have := chF_snoc hc nd c.1
  rw [if_pos rfl] at this
  unfold chF at this ⊢
  have e : chs = chs.take (i + 1) ++ chs.drop (i + 1) := (List.take_append_drop _ _).symm
  rw [e, List.find?_append, this]
  rfl
theorem firstA_all {r : Int} : ∀ ss, AllK ss → onlyK (firstA r ss)
  | [], _ => trivial
  | s :: ss, h => by
    obtain ⟨r', n, rfl⟩ := h s (.head _)
    unfold firstA
    split
    · trivial
    · split
      · trivial
      · exact firstA_all ss fun x hx => h x (.tail _ hx)
theorem ruleF_all {ss : List Stp} (h : AllK ss) {l r : Int} : ∀ ls : List (Int × Nat), onlyK (ruleF ss l r ls)
  | [] => trivial
  | x :: xs => by
    unfold ruleF
    split
    · exact firstA_all _ fun s hs => h s (List.mem_of_mem_drop hs)
    · exact ruleF_all h xs
theorem getD_q {xs : List Int} {i : Nat} (h : i < xs.length) : xs[i]? = some (xs.getD i 0) := by
  rw [List.getD_eq_getElem?_getD, List.getElem?_eq_getElem h]
  rfl
theorem plN_sums {g : Int → Int} {k0 : Int} {cs ks : List Int} (e : ks.length = cs.length) : ∀ i, i ≤ cs.length → plN g k0 cs ks i = k0 + ((cs.take i).map g).sum + (ks.take i).sum
  | 0, _ => by simp [plN]
  | i + 1, h => by
    show plN g k0 cs ks i + (g (cs.getD i 0) + ks.getD i 0) = _
    rw [plN_sums e i (by omega), List.take_add_one, List.take_add_one, getD_q (xs := cs) (by omega), getD_q (xs := ks) (by omega)]
    simp only [Option.toList, List.map_append, List.sum_append, List.map_cons, List.map_nil, List.sum_cons, List.sum_nil]
    omega
theorem plN_sum {g : Int → Int} {k0 : Int} {cs ks : List Int} (e : ks.length = cs.length) : plN g k0 cs ks cs.length = k0 + (cs.map g).sum + ks.sum := by
  rw [plN_sums e _ (Nat.le_refl _), List.take_length, ← e, List.take_length]
theorem own_one {k : Int} : ∀ {chs : List Chr}, (chs.map Prod.fst).Nodup → ((chs.filter fun c => decide (c.1 = k)).map mw).sum = ((chF k chs).map mw).getD 0
  | [], _ => rfl
  | c :: chs, nd => by
    rw [List.map_cons, List.nodup_cons] at nd
    unfold chF
    by_cases e : c.1 = k
    · have none : chs.filter (fun c => decide (c.1 = k)) = [] := by
        rw [List.filter_eq_nil_iff]
        intro x hx z
        refine nd.1 (List.mem_map.mpr ⟨x, hx, ?_⟩)
        rw [e]
        exact of_decide_eq_true z
      rw [List.filter_cons_of_pos (p := fun c : Chr => decide (c.1 = k)) (a := c) (decide_eq_true e), List.find?_cons_of_pos (p := fun c : Chr => decide (c.1 = k)) (a := c) (decide_eq_true e), none]
      show mw c + 0 = mw c
      omega
    · have ne : ¬ ((fun c : Chr => decide (c.1 = k)) c = true) := fun z => e (of_decide_eq_true z)
      rw [List.filter_cons_of_neg (p := fun c : Chr => decide (c.1 = k)) (a := c) ne, List.find?_cons_of_neg (p := fun c : Chr => decide (c.1 = k)) (a := c) ne]
      exact own_one nd.2
theorem own_wd {gs : List GP} {chs : List Chr} {k : Int} (it : IsT (mvF chs 0) 8 gs) (nd : (chs.map Prod.fst).Nodup) : tvF gs ((chs.filter fun c => decide (c.1 = k)).map mw).sum = wdF gs chs k := by
  rw [own_one nd]
  unfold wdF
  cases chF k chs with
  | none => exact tvF_0 it
  | some c => rfl
theorem FontAt.kp {C : Addr} {K : PySem.W.Frag} {H H' : Hp} {p q : Addr} {chs : List Chr} {ss : List Stp} {ls : List (Int × Nat)} (k : Kp q H H') (tk : TK H H') (ne : p ≠ q) (h : FontAt C K H p chs ss ls) : FontAt C K H' p chs ss ls := by
  obtain ⟨dx, t, ts, v, u, h1, h2, h3, h4, h5⟩ := h.ins
  exact ⟨⟨dx, t, ts, v, u, k _ _ ne h1, seqT_tk tk h2, dp_tkA tk (ch_tup chs) h3, dp_tk tk (sts_tup ss) h4, dp_tk tk (lab_tup ls) h5⟩, h.four, h.n⟩
theorem fl_c1 {d : PyData} {n : Nat} (h : Fl n d) : Fl (n + 1) d := ⟨h.1, Nat.le_succ_of_le h.2⟩
theorem fl_no {n : Nat} : ∀ x ∈ ([] : List PyData), Fl n x := fun _ h => nomatch h
theorem fl_ch (c : Chr) : Fl 2 (chD c) := fl_tup (fl_one (fl_c1 (fl_int _)) (fl_one (fl_c1 (fl_int _)) (fl_one (fl_c1 (fl_int _)) (fl_one (fl_tup fl_no) (fl_one (fl_tup fun d hd => by
  obtain ⟨i, _, rfl⟩ := List.mem_map.mp hd
  exact fl_int i) fl_no)))))
theorem shaped_ch (c : Chr) : SeqAt.shaped (chD c) = true := shaped_fl (fl_ch c) (by decide)
theorem shaped_chs (chs : List Chr) : SeqAt.shaped (.list (chs.map chD)) = true := shaped_fl (n := 3) (fl_list fun d hd => by
  obtain ⟨c, _, rfl⟩ := List.mem_map.mp hd
  exact fl_ch c) (by decide)
theorem ch_tup1 (c : Chr) : tupOnly (chD c) = true := by
  have : (tupOnly (chD c) && true) = true := ch_tup [c]
  rw [Bool.and_true] at this
  exact this
def lsF (first : Int) (i : Nat) : List (Int × Nat) := (List.range i).map fun (k : Nat) => (first + 2 * (k : Int), k)
theorem lsF_succ (first : Int) (i : Nat) : lsF first (i + 1) = lsF first i ++ [(first + 2 * (i : Int), i)] := by
  unfold lsF
  rw [List.range_succ, List.map_append]
  rfl
theorem lsF_len (first : Int) (i : Nat) : (lsF first i).length = i := by
  unfold lsF
  rw [List.length_map, List.length_range]
theorem lsF_mem {first : Int} {i : Nat} {x : Int × Nat} (h : x ∈ lsF first i) : x.2 < i ∧ x.1 = first + 2 * (x.2 : Int) := by
  obtain ⟨k, hk, rfl⟩ := List.mem_map.mp h
  exact ⟨List.mem_range.mp hk, rfl⟩
theorem lsF_nd (first : Int) (i : Nat) : ((lsF first i).map Prod.fst).Nodup := by
  refine List.pairwise_iff_getElem.mpr fun a b ha hb hab e => ?_
  rw [List.getElem_map, List.getElem_map] at e
  unfold lsF at e
  rw [List.getElem_map, List.getElem_map, List.getElem_range, List.getElem_range] at e
  omega
theorem stp_tup1 (s : Stp) : tupOnly (stpD s) = true := by
  have : (tupOnly (stpD s) && true) = true := sts_tup [s]
  rw [Bool.and_true] at this
  exact this
theorem sts_tupS (ss : List Stp) : tupOnlyA (ss.map stpD) = true := sts_tup ss
theorem labs_tup (ls : List (Int × Nat)) : tupOnlyA (ls.map labD) = true := lab_tup ls
/-- the law's lists -/
structure Ls (K : PySem.W.Frag) (H : Hp) (CH SL LL : Addr) (chs : List Chr) (ss : List Stp) (ls : List (Int × Nat)) : Prop where
  c : ∃ acc, H CH = some (.lst acc) ∧ DpAll K H acc (chs.map chD)
  s : ∃ vs, H SL = some (.lst vs) ∧ DpAll K H vs (ss.map stpD)
  l : ∃ vs, H LL = some (.lst vs) ∧ DpAll K H vs (ls.map labD)
theorem Ls.kp {K : PySem.W.Frag} {H H' : Hp} {p CH SL LL : Addr} {chs : List Chr} {ss : List Stp} {ls : List (Int × Nat)} (h : Ls K H CH SL LL chs ss ls) (k : Kp p H H') (tk : TK H H') (n1 : CH ≠ p) (n2 : SL ≠ p) (n3 : LL ≠ p) : Ls K H' CH SL LL chs ss ls := by
  obtain ⟨a, ha, da⟩ := h.c
  obtain ⟨b, hb, db⟩ := h.s
  obtain ⟨c, hc, dc⟩ := h.l
  exact ⟨⟨a, k _ _ n1 ha, dp_tkA tk (ch_tup chs) da⟩, ⟨b, k _ _ n2 hb, dp_tkA tk (sts_tupS ss) db⟩, ⟨c, k _ _ n3 hc, dp_tkA tk (labs_tup ls) dc⟩⟩
theorem Ls.mono {K : PySem.W.Frag} {H H' : Hp} {CH SL LL : Addr} {chs : List Chr} {ss : List Stp} {ls : List (Int × Nat)} (h : Ls K H CH SL LL chs ss ls) (s : Same H H') : Ls K H' CH SL LL chs ss ls := by
  obtain ⟨a, ha, da⟩ := h.c
  obtain ⟨b, hb, db⟩ := h.s
  obtain ⟨c, hc, dc⟩ := h.l
  exact ⟨⟨a, s _ _ ha, dp_monoA s da⟩, ⟨b, s _ _ hb, dp_monoA s db⟩, ⟨c, s _ _ hc, dp_monoA s dc⟩⟩
abbrev nn : Option V := none
def sp_law (K : PySem.W.Frag) : Sp := fun vs H Q _ => ∃ (a : Addr) (ns : List Int), vs = [.ref a] ∧ SqL K H a (ns.map V.int) ∧ ns.length ≤ 63 ∧ ∀ H', Q (.bl true) H'
section
theorem ok_law {P : Program} {w : World} {K : PySem.W.Frag} {mg : Str → Option Value} {base : Heap} {A : Nat → Addr} {D : Nat → FuncData} (T : Txt K mg A D) : FnOk P w K mg base CX0 9 (A 50) (D 50) ["script"] (sp_law K) := by
  refine T.F_law.ok sc_law (fun vs H Q E h => ?_) (fun cdv A' outer s H vs Q E hr h => ?_)
  · obtain ⟨l, ns, rfl, _⟩ := h
    rfl
  obtain ⟨l, ns, rfl, hS, _, q⟩ := h
  refine ⟨_, (pss_cons (ps_set (i := 1) sc_law.nd rfl (.inr rfl) (pe_call (ok__law_stream T) (hr.mono (by decide)) (by rfl) T.m__law_stream T.F__law_stream.kp T.b__law_stream .nil passL (pa_cons (pe_call (ok__law_cell T) (hr.mono (by decide)) (by rfl) T.m__law_cell T.F__law_cell.kp T.b__law_cell .nil passL (pa_cons (pv 0) (pa_cons pe_int pa_nil))) pa_nil)))
  (pss_cons (ps_set (i := 2) sc_law.nd rfl (.inr rfl) (pe_call (ok__law_next T) (hr.mono (by decide)) (by rfl) T.m__law_next T.F__law_next.kp T.b__law_next .nil passL (pa_cons (pv 1) (pa_cons pe_int pa_nil))))
  (Evl.pss_cut (ps_if (pt_cmpR op_eq (pe_call (ok__law_next T) (hr.mono (by decide)) (by rfl) T.m__law_next T.F__law_next.kp T.b__law_next .nil passL (pa_cons (pv 1) (pa_cons pe_int pa_nil))) pe_int (nomark _))
  (pss_one (ps_set (i := 2) sc_law.nd rfl (.inr rfl) (pe_call (ok__law_next T) (hr.mono (by decide)) (by rfl) T.m__law_next T.F__law_next.kp T.b__law_next .nil passL (pa_cons (pv 1) (pa_cons pe_int pa_nil)))))
  pss_nil)
  (pss_cons (ps_set (i := 3) sc_law.nd rfl (.inr rfl) (pe_call (ok__law_next T) (hr.mono (by decide)) (by rfl) T.m__law_next T.F__law_next.kp T.b__law_next .nil passL (pa_cons (pv 1) (pa_cons pe_int pa_nil))))
  (pss_cons (ps_set (i := 4) sc_law.nd rfl (.inr rfl) (pe_lc (own := [("metric", 5)]) (g := gName 5) (tt := tYes) rfl sc_law.nd (pi_range1 (by rfl) T.z_range (pa_cons pe_int pa_nil)) (blkOk_by (N := ["script", "stream", "count", "first", "tops", "metric", "characters", "k", "own", "metrics", "steps", "labels", "font", "told", "found", "values", "character", "least", "greatest", "line", "codes", "at", "positions", "width"]) (sc := defScope s_law) (by decide +kernel)) (fun _ _ _ _ _ => pg_name (i := 5) sc_law.nd rfl (Or.inl rfl)) (fun _ _ _ _ _ => pts_nil) (fun _ _ _ _ _ => (pe_ix (show IxR _ (rIxL K) from ix_list) (pe_lst (pa_cons pe_int (pa_cons pe_int pa_nil))) (pe_call (ok__law_next T) (hr.mono (by decide)) (by rfl) T.m__law_next T.F__law_next.kp T.b__law_next .nil passL (pa_cons (pv 1) (pa_cons pe_int pa_nil))) (fun _ _ => rfl)))))
  (pss_cons (ps_set (i := 6) sc_law.nd rfl (.inl rfl) (Fo.pe_lstN pa_nil))
  (pss_cons (ps_for PassesOwn.never rfl (pi_range1 (by rfl) T.z_range (pa_cons (pv 2) pa_nil)) (pg_name (i := 7) sc_law.nd rfl (.inr rfl))
  (pss_cons (ps_set (i := 8) sc_law.nd rfl (.inr rfl) (pe_call (ok__law_stream T) (hr.mono (by decide)) (by rfl) T.m__law_stream T.F__law_stream.kp T.b__law_stream .nil passL (pa_cons (pe_call (ok__law_cell T) (hr.mono (by decide)) (by rfl) T.m__law_cell T.F__law_cell.kp T.b__law_cell .nil passL (pa_cons (pv 0) (pa_cons (pe_op op_add (pv 7) pe_int) pa_nil))) pa_nil)))
  (pss_cons (ps_set (i := 9) sc_law.nd rfl (.inl rfl) (pe_callTy Z.c_tupOf (by rfl) T.z_tuple (by decide +kernel) (pa_cons (pe_lc (own := [("metric", 5)]) (g := gName 5) (tt := tYes) rfl sc_law.nd (pi_range1 (by rfl) T.z_range (pa_cons pe_int pa_nil)) (blkOk_by (N := ["script", "stream", "count", "first", "tops", "metric", "characters", "k", "own", "metrics", "steps", "labels", "font", "told", "found", "values", "character", "least", "greatest", "line", "codes", "at", "positions", "width"]) (sc := defScope s_law) (by decide +kernel)) (fun _ _ _ _ _ => pg_name (i := 5) sc_law.nd rfl (Or.inl rfl)) (fun _ _ _ _ _ => pts_nil) (fun _ _ _ _ _ => (pe_call (ok__law_next T) (hr.mono (by decide)) (by rfl) T.m__law_next T.F__law_next.kp T.b__law_next .nil passL (pa_cons (pv 8) (pa_cons (pe_op op_add (pe_ix (show IxR _ (rIxL K) from ix_list) (pv 4) (pv 5) (fun _ _ => rfl)) pe_int) pa_nil))))) pa_nil)))
  (pss_one (ps_expr (pe_bm PySem.F.plainAttrs_list PySem.F.slot_list_append PySem.F.type_list_append mt_append (pv 6) (pa_cons (pe_tup (pa_cons (pe_op op_add (pv 3) (pv 7)) (pa_cons pe_int (pa_cons pe_int (pa_cons (pe_tup pa_nil) (pa_cons (pv 9) pa_nil)))))) pa_nil)))))))
  (pss_cons (ps_set (i := 10) sc_law.nd rfl (.inl rfl) (Fo.pe_lstN pa_nil))
  (pss_cons (ps_set (i := 11) sc_law.nd rfl (.inl rfl) (Fo.pe_lstN pa_nil))
  (pss_cons (ps_for PassesOwn.never rfl (pi_range1 (by rfl) T.z_range (pa_cons (pe_call (ok__law_next T) (hr.mono (by decide)) (by rfl) T.m__law_next T.F__law_next.kp T.b__law_next .nil passL (pa_cons (pv 1) (pa_cons pe_int pa_nil))) pa_nil)) (pg_name (i := 7) sc_law.nd rfl (.inr rfl))
  (pss_cons (ps_expr (pe_bm PySem.F.plainAttrs_list PySem.F.slot_list_append PySem.F.type_list_append mt_append (pv 10) (pa_cons (pe_tup (pa_cons (pe_op op_add (pv 3) (pe_call (ok__law_next T) (hr.mono (by decide)) (by rfl) T.m__law_next T.F__law_next.kp T.b__law_next .nil passL (pa_cons (pv 1) (pa_cons pe_int pa_nil)))) (pa_cons (pe_tup (pa_cons pe_str (pa_cons (pe_op op_sub (pe_call (ok__law_next T) (hr.mono (by decide)) (by rfl) T.m__law_next T.F__law_next.kp T.b__law_next .nil passL (pa_cons (pv 1) (pa_cons pe_int pa_nil))) pe_int) pa_nil))) (pa_cons pe_bl pa_nil)))) pa_nil)))
  (pss_one (ps_expr (pe_bm PySem.F.plainAttrs_list PySem.F.slot_list_append PySem.F.type_list_append mt_append (pv 11) (pa_cons (pe_tup (pa_cons (pe_op op_add (pv 3) (pe_op op_mul pe_int (pv 7))) (pa_cons (pv 7) pa_nil))) pa_nil))))))
  (pss_cons (ps_set (i := 12) sc_law.nd rfl (.inl rfl) (pe_make T.M_Font (ok_Font___init__ T) (hr.mono (by decide)) (by rfl) T.g_Font T.b_Font___init__ .nil passL (pa_cons (pe_callTy Z.c_tupOf (by rfl) T.z_tuple (by decide +kernel) (pa_cons (pv 6) pa_nil)) (pa_cons (pe_callTy Z.c_tupOf (by rfl) T.z_tuple (by decide +kernel) (pa_cons (pv 10) pa_nil)) (pa_cons (pe_callTy Z.c_tupOf (by rfl) T.z_tuple (by decide +kernel) (pa_cons (pv 11) pa_nil)) pa_nil)))))
  (pss_cons (ps_if (PW.pt (pw_or (pt_cmpR op_ne (pe_callB (Fo.call_lenO T.m_Font___len__ (ok_Font___len__ T) (hr.mono (by decide)) T.b_Font___len__ passL) (by rfl) T.z_len (by decide +kernel) (pa_cons (pv 12) pa_nil)) (pv 2) (nomark _)) (pw_or (pt_cmpR (op_neD hr.units) (pe_lc (own := [("told", 13)]) (g := gName 13) (tt := tYes) rfl sc_law.nd (Fo.pi_own (pv 12) T.m_Font___iter__ (ok_Font___iter__ T) (hr.mono (by decide)) T.b_Font___iter__ (fun σ pins H s e s2 I q => passL pins σ H s e s2 I q)) (blkOk_by (N := ["script", "stream", "count", "first", "tops", "metric", "characters", "k", "own", "metrics", "steps", "labels", "font", "told", "found", "values", "character", "least", "greatest", "line", "codes", "at", "positions", "width"]) (sc := defScope s_law) (by decide +kernel)) (fun _ _ _ _ _ => pg_name (i := 13) sc_law.nd rfl (Or.inl rfl)) (fun _ _ _ _ _ => pts_nil) (fun _ _ _ _ _ => (pv 13))) (pv 6) (nomark _)) (pw_or1 (pt_cmpR (Fo.op_inO T.m_Font___contains__ (ok_Font___contains__ T) (hr.mono (by decide)) T.b_Font___contains__ (fun σ pins H s e s2 I q => passL pins σ H s e s2 I q)) (pe_op op_add (pv 3) (pv 2)) (pv 12) (by rfl))))))
  (pss_one (ps_ret pe_bl))
  pss_nil)
  (pss_cons (ps_set (i := 14) sc_law.nd rfl (.inl rfl) (Fo.pe_lstN pa_nil))
  (pss_cons (ps_for PassesOwn.never rfl (pi_range1 (by rfl) T.z_range (pa_cons pe_int pa_nil)) (pg_name (i := 5) sc_law.nd rfl (.inr rfl))
  (pss_cons (ps_setLc (i := 15) (own := [("character", 16)]) (g := gName 16) (tt := tYes) rfl sc_law.nd rfl rfl (sw_true rfl rfl rfl (by decide +kernel)) (pi_list (pv 6)) (blkOk_by (N := ["script", "stream", "count", "first", "tops", "metric", "characters", "k", "own", "metrics", "steps", "labels", "font", "told", "found", "values", "character", "least", "greatest", "line", "codes", "at", "positions", "width"]) (sc := defScope s_law) (by decide +kernel)) (fun _ _ _ _ _ => pg_name (i := 16) sc_law.nd rfl (Or.inl rfl)) (fun _ _ _ _ _ => pts_nil) (fun _ _ _ _ _ => (pe_ix (show IxR _ (rIxT K) from ix_tup) (pe_ix (show IxR _ (rIxT K) from ix_tup) (pv 16) pe_int (fun _ _ => rfl)) (pv 5) (fun _ _ => rfl))))
  (pss_cons (ps_expr (pe_bm PySem.F.plainAttrs_list PySem.F.slot_list_append PySem.F.type_list_append mt_append (pv 14) (pa_cons (pe_call (ok__law_table T) (hr.mono (by decide)) (by rfl) T.m__law_table T.F__law_table.kp T.b__law_table .nil passL (pa_cons (pv 15) (pa_cons (pe_ix ix_list (pe_lst (pa_cons pe_int (pa_cons pe_int (pa_cons pe_int (pa_cons pe_int pa_nil))))) (pv 5) (fun _ _ => rfl)) pa_nil))) pa_nil)))
  (pss_cons (ps_if (pt_cmpR (op_neD hr.units) (pe_meth (pv 12) T.q_Font T.m_Font_table (ok_Font_table T) (hr.mono (by decide)) T.b_Font_table .nil passL (pa_cons (pv 5) pa_nil)) (pe_op op_cat (pe_lst (pa_cons pe_int pa_nil)) (pe_lc (own := [("least", 17), ("greatest", 18)]) (g := gTup K 2 (gCons (gName 17) (gCons (gName 18) gNil))) (tt := tYes) rfl sc_law.nd (pi_list (pe_ix ix_list (pv 14) (pv 5) (fun _ _ => rfl))) (blkOk_by (N := ["script", "stream", "count", "first", "tops", "metric", "characters", "k", "own", "metrics", "steps", "labels", "font", "told", "found", "values", "character", "least", "greatest", "line", "codes", "at", "positions", "width"]) (sc := defScope s_law) (by decide +kernel)) (fun _ _ _ _ _ => pg_tup (by rfl) (pgs_cons (pg_name (i := 17) sc_law.nd rfl (Or.inl rfl)) (pgs_cons (pg_name (i := 18) sc_law.nd rfl (Or.inl rfl)) pgs_nil))) (fun _ _ _ _ _ => pts_nil) (fun _ _ _ _ _ => (pe_op op_fdivW (pe_op op_add (pv 17) (pv 18)) pe_int)))) (nomark _))
  (pss_one (ps_ret pe_bl))
  pss_nil)
  (pss_one (ps_for PassesOwn.never rfl (pi_list (pv 6)) (pg_name (i := 16) sc_law.nd rfl (.inl rfl))
  (pss_cons (ps_set (i := 13) sc_law.nd rfl (.inl rfl) (pe_meth (pv 12) T.q_Font T.m_Font_table_value (ok_Font_table_value T) (hr.mono (by decide)) T.b_Font_table_value .nil passL (pa_cons (pe_ix ix_tup (pv 16) pe_int (fun _ _ => rfl)) (pa_cons (pv 5) pa_nil))))
  (pss_cons (ps_if (PW.pt (pw_or (pt_not (pt_val (pe_call (ok__law_is_integer T) (hr.mono (by decide)) (by rfl) T.m__law_is_integer T.F__law_is_integer.kp T.b__law_is_integer .nil passL (pa_cons (pv 13) pa_nil)))) (pw_or1 (pt_cmpR op_ne (pv 13) (pe_call (ok__law_middle T) (hr.mono (by decide)) (by rfl) T.m__law_middle T.F__law_middle.kp T.b__law_middle .nil passL (pa_cons (pe_ix ix_list (pv 14) (pv 5) (fun _ _ => rfl)) (pa_cons (pe_ix ix_tup (pe_ix ix_tup (pv 16) pe_int (fun _ _ => rfl)) (pv 5) (fun _ _ => rfl)) pa_nil))) (nomark _)))))
  (pss_one (ps_ret pe_bl))
  pss_nil)
  (pss_one (ps_if (PW.pt (pw_or (pt_cmpR (op_neD hr.units) (pe_meth (pv 12) T.q_Font T.m_Font_character (ok_Font_character T) (hr.mono (by decide)) T.b_Font_character .nil passL (pa_cons (pe_ix ix_tup (pv 16) pe_int (fun _ _ => rfl)) pa_nil)) (pv 16) (nomark _)) (pw_or1 (pt_cmpR (Fo.op_notInO T.m_Font___contains__ (ok_Font___contains__ T) (hr.mono (by decide)) T.b_Font___contains__ (fun σ pins H s e s2 I q => passL pins σ H s e s2 I q)) (pe_ix ix_tup (pv 16) pe_int (fun _ _ => rfl)) (pv 12) (by rfl)))))
  (pss_one (ps_ret pe_bl))
  pss_nil))))))))))
  (pss_cons (ps_set (i := 19) sc_law.nd rfl (.inr rfl) (pe_call (ok__law_stream T) (hr.mono (by decide)) (by rfl) T.m__law_stream T.F__law_stream.kp T.b__law_stream .nil passL (pa_cons (pe_call (ok__law_cell T) (hr.mono (by decide)) (by rfl) T.m__law_cell T.F__law_cell.kp T.b__law_cell .nil passL (pa_cons (pv 0) (pa_cons pe_int pa_nil))) pa_nil)))
  (pss_cons (ps_set (i := 20) sc_law.nd rfl (.inr rfl) (pe_lc (own := [("k", 7)]) (g := gName 7) (tt := tYes) rfl sc_law.nd (pi_range1 (by rfl) T.z_range (pa_cons (pe_call (ok__law_next T) (hr.mono (by decide)) (by rfl) T.m__law_next T.F__law_next.kp T.b__law_next .nil passL (pa_cons (pv 19) (pa_cons pe_int pa_nil))) pa_nil)) (blkOk_by (N := ["script", "stream", "count", "first", "tops", "metric", "characters", "k", "own", "metrics", "steps", "labels", "font", "told", "found", "values", "character", "least", "greatest", "line", "codes", "at", "positions", "width"]) (sc := defScope s_law) (by decide +kernel)) (fun _ _ _ _ _ => pg_name (i := 7) sc_law.nd rfl (Or.inl rfl)) (fun _ _ _ _ _ => pts_nil) (fun _ _ _ _ _ => (pe_op op_mod (pe_callTy Z.c_int (by rfl) T.z_int (by decide +kernel) (pa_cons (pe_op op_add (pv 3) (pe_call (ok__law_next T) (hr.mono (by decide)) (by rfl) T.m__law_next T.F__law_next.kp T.b__law_next .nil passL (pa_cons (pv 19) (pa_cons (pe_op op_add (pv 2) pe_int) pa_nil)))) pa_nil)) pe_int))))
  (pss_cons (ps_set (i := 21) sc_law.nd rfl (.inl rfl) (pe_call (ok__law_kern T) (hr.mono (by decide)) (by rfl) T.m__law_kern T.F__law_kern.kp T.b__law_kern .nil passL (pa_cons (pv 10) (pa_cons (pv 11) (pa_cons pe_int (pa_cons pe_int pa_nil))))))
  (pss_cons (ps_set (i := 22) sc_law.nd rfl (.inl rfl) (Fo.pe_lstN pa_nil))
  (pss_cons (ps_for PassesOwn.never rfl (pi_range1 (by rfl) T.z_range (pa_cons (pe_callB Z.c_len (by rfl) T.z_len (by decide +kernel) (pa_cons (pv 20) pa_nil)) pa_nil)) (pg_name (i := 7) sc_law.nd rfl (.inr rfl))
  (pss_cons (ps_expr (pe_bm PySem.F.plainAttrs_list PySem.F.slot_list_append PySem.F.type_list_append mt_append (pv 22) (pa_cons (pv 21) pa_nil)))
  (pss_cons (ps_set (i := 8) sc_law.nd rfl (.inr rfl) (pe_lc (own := [("character", 16)]) (g := gName 16) rfl sc_law.nd (pi_list (pv 6)) (blkOk_by (N := ["script", "stream", "count", "first", "tops", "metric", "characters", "k", "own", "metrics", "steps", "labels", "font", "told", "found", "values", "character", "least", "greatest", "line", "codes", "at", "positions", "width"]) (sc := defScope s_law) (by decide +kernel)) (fun _ _ _ _ _ => pg_name (i := 16) sc_law.nd rfl (Or.inl rfl)) (fun _ _ _ _ _ => (pts_one (pt_cmpR op_eq (pe_ix (show IxR _ (rIxT K) from ix_tup) (pv 16) pe_int (fun _ _ => rfl)) (pe_ix (show IxR _ (rIxL K) from ix_list) (pv 20) (pv 7) (fun _ _ => rfl)) (nomark _)))) (fun _ _ _ _ _ => (pe_ix (show IxR _ (rIxT K) from ix_tup) (pe_ix (show IxR _ (rIxT K) from ix_tup) (pv 16) pe_int (fun _ _ => rfl)) pe_int (fun _ _ => rfl)))))
  (pss_one (ps_set (i := 21) sc_law.nd rfl (.inl rfl) (pe_op op_add (pe_op op_add (pv 21) (pe_call (ok__law_middle T) (hr.mono (by decide)) (by rfl) T.m__law_middle T.F__law_middle.kp T.b__law_middle .nil passL (pa_cons (pe_ix ix_list (pv 14) pe_int (fun _ _ => rfl)) (pa_cons (pe_callB (cr_sum rfl) (by rfl) T.z_sum (by decide +kernel) (pa_cons (pv 8) pa_nil)) pa_nil)))) (pe_call (ok__law_kern T) (hr.mono (by decide)) (by rfl) T.m__law_kern T.F__law_kern.kp T.b__law_kern .nil passL (pa_cons (pv 10) (pa_cons (pv 11) (pa_cons (pe_ix ix_list (pv 20) (pv 7) (fun _ _ => rfl)) (pa_cons (pe_ix ix_list (pe_op op_cat (pv 20) (pe_lst (pa_cons pe_int pa_nil))) (pe_op op_add (pv 7) pe_int) (fun _ _ => rfl)) pa_nil)))))))))))
  (pss_cons (ps_set (i := 23) sc_law.nd rfl (.inl rfl) (pe_meth (pv 12) T.q_Font T.m_Font_width (ok_Font_width T) (hr.mono (by decide)) T.b_Font_width .nil passL (pa_cons (pe_callTy Z.c_listOf (by rfl) T.z_list (by decide +kernel) (pa_cons (pv 20) pa_nil)) pa_nil)))
  (pss_cons (ps_if (PW.pt (pw_or (pt_not (pt_val (pe_call (ok__law_is_integer T) (hr.mono (by decide)) (by rfl) T.m__law_is_integer T.F__law_is_integer.kp T.b__law_is_integer .nil passL (pa_cons (pv 23) pa_nil)))) (pw_or (pt_cmpR op_ne (pv 23) (pv 21) (nomark _)) (pw_or1 (pt_cmpR (op_neD hr.units) (pe_meth (pv 12) T.q_Font T.m_Font_positions (ok_Font_positions T) (hr.mono (by decide)) T.b_Font_positions .nil passL (pa_cons (pe_callTy Z.c_listOf (by rfl) T.z_list (by decide +kernel) (pa_cons (pv 20) pa_nil)) pa_nil)) (pv 22) (nomark _))))))
  (pss_one (ps_ret pe_bl))
  pss_nil)
  (pss_cons (ps_if (pt_not (pt_val (pe_call (ok__law_too_long T) (hr.mono (by decide)) (by rfl) T.m__law_too_long T.F__law_too_long.kp T.b__law_too_long .nil passL (pa_cons (pv 12) (pa_cons (pe_op op_rep (pe_lst (pa_cons (pv 3) pa_nil)) (pe_op op_add pe_int (pe_call (ok__law_next T) (hr.mono (by decide)) (by rfl) T.m__law_next T.F__law_next.kp T.b__law_next .nil passL (pa_cons (pv 1) (pa_cons pe_int pa_nil))))) pa_nil)))))
  (pss_one (ps_ret pe_bl))
  pss_nil)
  (pss_one (ps_ret (pe_call (ok__law_refuses T) (hr.mono (by decide)) (by rfl) T.m__law_refuses T.F__law_refuses.kp T.b__law_refuses .nil passL (pa_cons (pv 12) (pa_cons (pe_op op_add (pv 3) (pv 2)) pa_nil))))))))))))))))))))))))))), ?_⟩
  walk_at "z"
  refine ⟨l, ns, 0, rfl, hS, fun v => ?_⟩
  walk_at "z"
  refine ⟨v, rfl, fun p H1 i1 j1 m hp s1 h1 => ?_⟩
  have S1 := Sd.mk0 hp s1 h1
  walk_at "z"
  refine nx S1 (by decide) (lt1000 (by decide)) fun n0 H2 n00 n01 S2 e2 => ?_
  clear h1 s1 S1 e2
  walk_at "z"
  refine z_cut (fun σ' H' => (∃ n : Nat, n ≤ 24 ∧ σ' = [some (.ref l), some (.ref p), some (.int (n : Int)), nn, nn, nn, nn, nn, nn, nn, nn, nn, nn, nn, nn, nn, nn, nn, nn, nn, nn, nn, nn, nn]) ∧ Sd H H' p) ?_ ?_
  · walk_at "z"
    refine nx S2 (by decide) (lt1000 (by decide)) fun x H3 x0 x1 S3 e3 => ?_
    walk_at "z"
    refine z_if (fun k => ?_) (fun k => ?_)
    · walk_at "z"
      refine nx S3 (by decide) (lt1000 (by decide)) fun y H4 y0 y1 S4 e4 => ?_
      walk_at "z"
      obtain ⟨y, rfl⟩ : ∃ z : Nat, y = (z : Int) := ⟨y.toNat, by omega⟩
      exact ⟨⟨y, by omega, rfl⟩, S4⟩
    · walk_at "z"
      obtain ⟨n0, rfl⟩ : ∃ z : Nat, n0 = (z : Int) := ⟨n0.toNat, by omega⟩
      exact ⟨⟨n0, by omega, rfl⟩, S3⟩
  rintro σ' H3 ⟨⟨n, n24, rfl⟩, S3⟩
  clear S2 n00 n01
  walk_at "z"
  refine nx S3 (by decide) (lt1000 (by decide)) fun first H4 fi0 fi1 S4 e4 => ?_
  clear S3 e4 H3
  walk_at "z"
  refine z_lcRE ?_
  walk_at "z"
  refine z_comp (m := 4) (fun _ x => x = 20 ∨ x = 6400) S4 rfl (by decide) (fun _ => rfl) (fun i H' R _ S' k' r => ?_) fun TP H5 tops fT neT S5 k5 h5 lt4 pt => ?_
  · walk_at "z"
    intro b H6 f6 s6 h6
    walk_at "z"
    refine nx (S'.mono s6) (by decide) (lt1000 (by decide)) fun x H7 x0 x1 S7 e7 => ?_
    have h7 : H7 b = some (.lst [.int 20, .int 6400]) := (e7 b (S'.ne0 f6)).trans h6
    have : x = 0 ∨ x = 1 := by omega
    rcases this with rfl | rfl
    · refine z_ixL (.inl (.inl h7)) (v := .int 20) rfl ?_
      exact r 20 H7 (.inl rfl) S7 ((kp_of s6).trans' (kp_eq e7))
    · refine z_ixL (.inl (.inl h7)) (v := .int 6400) rfl ?_
      exact r 6400 H7 (.inr rfl) S7 ((kp_of s6).trans' (kp_eq e7))
  clear S4 k5
  walk_at "z"
  refine z_lstN fun CH H6 f6 nCH s6 h6 => ?_
  walk_at "z"
  have fCH := S5.none0 f6
  have neC : CH ≠ p := S5.ne0 f6
  have S6 := S5.mono s6
  have hT6 := s6 _ _ h5
  have neCT : CH ≠ TP := (ne_of_none h5 f6).symm
  refine z_forR1 n (by omega) (fun R q => by walk_at "z"; exact q) (fun i σ' H' => (∃ u5 u7 u8 u9, σ' = [some (.ref l), some (.ref p), some (.int (n : Int)), some (.int first), some (.ref TP), u5, some (.ref CH), u7, u8, u9, nn, nn, nn, nn, nn, nn, nn, nn, nn, nn, nn, nn, nn, nn]) ∧ Kp CH H6 H' ∧
      ∃ (acc : List V) (chs : List Chr), H' CH = some (.lst acc) ∧ DpAll K H' acc (chs.map chD) ∧ chs.length = i ∧ ∀ (j : Nat) (c : Chr), chs[j]? = some c → c.1 = first + (j : Int) ∧ c.2.length = 4)
    ⟨⟨_, _, _, _, rfl⟩, fun _ _ _ e => e, [], [], h6, .nil, rfl, fun j c h => by cases h⟩ ?_ ?_
  · rintro i σ' H7 hi ⟨⟨u5, u7, u8, u9, rfl⟩, k7, acc, chs, hC, dC, lc, pc⟩
    have sH7 : Same H H7 := keep_new fCH S6.same k7
    have hT7 := k7 _ _ neCT.symm hT6
    walk_at "z"
    refine ⟨l, ns, i + 2, rfl, sH7.seq hS, fun v2 => ?_⟩
    walk_at "z"
    refine ⟨v2, rfl, fun o H8 i8 j8 m8 f8 s8 h8 => ?_⟩
    have S8 := Sd.mk0 f8 s8 h8
    have neTo : TP ≠ o := ne_of_none hT7 f8
    walk_at "z"
    refine z_lcRE ?_
    walk_at "z"
    refine z_comp (m := 4) (fun _ _ => True) S8 rfl (by decide) (fun _ => rfl) (fun j H' R hj S' k' r => ?_) fun D H9 ms fD neD S9 k9 h9 lms _ => ?_
    · have hT' := k' _ _ neTo (s8 _ _ hT7)
      have jt : tops[j]? = some tops[j] := List.getElem?_eq_getElem (by omega)
      have bt := pt j _ jt
      walk_at "z"
      refine z_ixL (.inl (.inl hT')) (v := .int tops[j]) (atI_nat (by rw [List.getElem?_map, jt]; rfl)) ?_
      walk_at "z"
      refine nx S' (by omega) (lt1000 (by omega)) fun x H10 x0 x1 S10 e10 => ?_
      exact r x H10 trivial S10 (kp_eq e10)
    walk_at "z"
    refine z_tupOf (.inl (.inl h9)) fun t H10 f10 s10 h10 => ?_
    walk_at "z"
    have S10 := S9.mono s10
    have hC10 : H10 CH = some (.lst acc) := S10.same _ _ hC
    refine z_bmL (fun R q => by walk_at "z"; exact q) hC10 ?_
    walk_at "z"
    intro e H11 f11 s11 h11
    walk_at "z"
    intro u H12 f12 s12 h12
    walk_at "z"
    have S12 := S10.mono (s11.trans s12)
    have hC12 : H12 CH = some (.lst acc) := S12.same _ _ hC
    have la := dpa_lenM dC
    refine z_append hC12 (by omega) ?_
    walk_at "z"
    have tk : TK H12 (upd H12 CH (.lst (acc ++ [.ref u]))) := TK.kp kp_at hC12 (fun z => z)
    have dm : ∀ {H : Hp} {x : List Int}, DpAll K H (x.map V.int) (x.map PyData.int) := fun {H} {x} => by
      induction x with
      | nil => exact .nil
      | cons i x ih => exact .cons (.int i) ih
    have du : Dp K H12 (.ref u) (chD (first + (i : Int), ms)) := dp_mk h12 (.cons (.int _) (.cons (.int _) (.cons (.int _) (.cons (dp_mk (s12 _ _ h11) .nil) (.cons (dp_mk (s12 _ _ (s11 _ _ h10)) dm) .nil)))))
    refine ⟨⟨_, _, _, _, rfl⟩, (k7.trans' (kp_of S12.same)).trans' kp_at, _, chs ++ [(first + (i : Int), ms)], upd_same, ?_, by rw [List.length_append, lc]; rfl, fun j c hj => ?_⟩
    · rw [List.map_append]
      exact dpa_app (dp_tkA tk (ch_tup _) (dp_monoA S12.same dC)) (.cons (dp_tk tk (ch_tup1 _) du) .nil)
    · rcases Nat.lt_or_ge j chs.length with h | h
      · rw [List.getElem?_append_left h] at hj
        exact pc j c hj
      · rw [List.getElem?_append_right h] at hj
        rcases Nat.eq_or_lt_of_le h with e | e
        · subst e
          rw [Nat.sub_self] at hj
          cases hj
          exact ⟨by rw [lc], lms⟩
        · rw [List.getElem?_eq_none (by rw [List.length_singleton]; omega)] at hj
          cases hj
  rintro σ' H7 ⟨⟨u5, u7, u8, u9, rfl⟩, k7, acc, chs, hC, dC, lc, pc⟩
  have S7 : Sd H H7 p := by
    obtain ⟨a, b, m, st⟩ := S6.stm
    exact ⟨keep_new fCH S6.same k7, S6.fresh, a, b, m, k7 _ _ neC.symm st⟩
  clear k7 S6 hT6 h6 s6 S5 h5 pt lt4 fT
  walk_at "z"
  refine z_lstN fun SL H8 f8 _ s8 h8 => ?_
  walk_at "z"
  refine z_lstN fun LL H9 f9 _ s9 h9 => ?_
  walk_at "z"
  have fSL := S7.none0 f8
  have neS : SL ≠ p := S7.ne0 f8
  have S8 := S7.mono s8
  have fLL := S8.none0 f9
  have neL : LL ≠ p := S8.ne0 f9
  have S9 := S8.mono s9
  have neCS : CH ≠ SL := ne_of_none hC f8
  have neCL : CH ≠ LL := ne_of_none (s8 _ _ hC) f9
  have neSL : SL ≠ LL := ne_of_none h8 f9
  have L9 : Ls K H9 CH SL LL chs [] (lsF first 0) := ⟨⟨acc, s9 _ _ (s8 _ _ hC), dp_monoA (s8.trans s9) dC⟩, ⟨[], s9 _ _ h8, .nil⟩, ⟨[], h9, .nil⟩⟩
  clear dC hC h8 h9 s8 s9 S7 S8
  refine z_forRE ?_
  walk_at "z"
  refine nx S9 (by decide) (lt1000 (by decide)) fun m0 H10 m00 m01 S10 e10 => ?_
  have L10 := L9.kp (kp_eq e10) (S9.notup (kp_eq e10)) neC neS neL
  clear L9 S9 e10 H9 f9 H8 f8
  walk_at "z"
  obtain ⟨m, rfl⟩ : ∃ m : Nat, m0 = (m : Int) := ⟨m0.toNat, by omega⟩
  refine z_forRr m (by omega) (fun i σ' H' => (∃ u7, σ' = [some (.ref l), some (.ref p), some (.int (n : Int)), some (.int first), some (.ref TP), u5, some (.ref CH), u7, u8, u9, some (.ref SL), some (.ref LL), nn, nn, nn, nn, nn, nn, nn, nn, nn, nn, nn, nn]) ∧ Sd H H' p ∧
      ∃ ss : List Stp, Ls K H' CH SL LL chs ss (lsF first i) ∧ ss.length = i ∧ AllK ss)
    ⟨⟨_, rfl⟩, S10, [], L10, rfl, fun s h => nomatch h⟩ ?_ ?_
  · rintro i σ' H11 hi ⟨⟨u7, rfl⟩, S11, ss, L11, lss, ak⟩
    obtain ⟨va, ha, da⟩ := L11.s
    have lva := dpa_lenM da
    walk_at "z"
    refine z_bmL (fun R q => by walk_at "z"; exact q) ha ?_
    walk_at "z"
    refine nx S11 (by decide) (lt1000 (by decide)) fun x H12 x0 x1 S12 e12 => ?_
    have L12 := L11.kp (kp_eq e12) (S11.notup (kp_eq e12)) neC neS neL
    walk_at "z"
    refine nx S12 (by decide) (lt1000 (by decide)) fun y H13 y0 y1 S13 e13 => ?_
    have L13 := L12.kp (kp_eq e13) (S12.notup (kp_eq e13)) neC neS neL
    walk_at "z"
    intro b H14 f14 s14 h14
    walk_at "z"
    intro c H15 f15 s15 h15
    walk_at "z"
    have L15 := L13.mono (s14.trans s15)
    have S15 := S13.mono (s14.trans s15)
    clear L11 L12 L13 e12 e13 S11 S12 S13 ha da
    obtain ⟨va2, ha, da⟩ := L15.s
    have lva2 := dpa_lenM da
    refine z_append ha (by omega) ?_
    walk_at "z"
    have k16 : Kp SL H15 (upd H15 SL (.lst (va2 ++ [.ref c]))) := kp_at
    have tk16 : TK H15 (upd H15 SL (.lst (va2 ++ [.ref c]))) := TK.kp kp_at ha (fun z => z)
    have e16 : (upd H15 SL (.lst (va2 ++ [.ref c]))) SL = some (.lst (va2 ++ [.ref c])) := upd_same
    have S16 : Sd H (upd H15 SL (.lst (va2 ++ [.ref c]))) p := S15.put fSL neS
    have dc : Dp K H15 (.ref c) (stpD ⟨first + x, .kern (y - 100), true⟩) := dp_mk h15 (.cons (.int _) (.cons (dp_mk (s15 _ _ h14) (.cons (.str _) (.cons (.int _) .nil))) (.cons (.bl _) .nil)))
    generalize upd H15 SL (.lst (va2 ++ [.ref c])) = H16 at *
    have L16 : Ls K H16 CH SL LL chs (ss ++ [⟨first + x, .kern (y - 100), true⟩]) (lsF first i) := by
      obtain ⟨a, hA, dA⟩ := L15.c
      obtain ⟨b2, hb, db⟩ := L15.l
      refine ⟨⟨a, k16 _ _ neCS hA, dp_tkA tk16 (ch_tup chs) dA⟩, ⟨_, e16, ?_⟩, ⟨b2, k16 _ _ neSL.symm hb, dp_tkA tk16 (labs_tup _) db⟩⟩
      rw [List.map_append]
      exact dpa_app (dp_tkA tk16 (sts_tupS ss) da) (.cons (dp_tk tk16 (stp_tup1 _) dc) .nil)
    clear L15 S15 dc da ha k16 tk16 e16
    obtain ⟨vl, hl, dl⟩ := L16.l
    have lvl := dpa_lenM dl
    rw [lsF_len] at lvl
    refine z_bmL (fun R q => by walk_at "z"; exact q) hl ?_
    walk_at "z"
    intro d H17 f17 s17 h17
    walk_at "z"
    have L17 := L16.mono s17
    have S17 := S16.mono s17
    refine z_append (s17 _ _ hl) (by omega) ?_
    walk_at "z"
    have dd : Dp K H17 (.ref d) (labD (first + 2 * (i : Int), i)) := dp_mk h17 (.cons (.int _) (.cons (.int _) .nil))
    have tk18 : TK H17 (upd H17 LL (.lst (vl ++ [.ref d]))) := TK.kp kp_at (s17 _ _ hl) (fun z => z)
    refine ⟨⟨_, rfl⟩, S17.put fLL neL, ss ++ [⟨first + x, .kern (y - 100), true⟩], ⟨?_, ?_, ⟨_, upd_same, ?_⟩⟩, by rw [List.length_append, lss]; rfl, fun s hs => ?_⟩
    · obtain ⟨a, hA, dA⟩ := L17.c
      exact ⟨a, kp_at _ _ neCL hA, dp_tkA tk18 (ch_tup chs) dA⟩
    · obtain ⟨a, hA, dA⟩ := L17.s
      exact ⟨a, kp_at _ _ neSL hA, dp_tkA tk18 (sts_tupS _) dA⟩
    · rw [lsF_succ, List.map_append]
      exact dpa_app (dp_tkA tk18 (labs_tup _) (dp_monoA s17 dl)) (.cons (dp_tk tk18 rfl dd) .nil)
    · rcases List.mem_append.mp hs with h | h
      · exact ak s h
      · rw [List.mem_singleton.mp h]
        exact ⟨_, _, rfl⟩
  rintro σ' H11 ⟨⟨u7, rfl⟩, S11, ss, L11, lss, ak⟩
  clear L10 S10 H10
  refine z_seq ?_
  refine z_asg ?_
  refine Cw.z_make ?_
  walk_at "z"
  obtain ⟨ca, hca, dca⟩ := L11.c
  obtain ⟨sa, hsa, dsa⟩ := L11.s
  obtain ⟨la, hla, dla⟩ := L11.l
  refine z_tupOf (.inl (.inl hca)) fun t1 H12 f12 s12 h12 => ?_
  walk_at "z"
  refine z_tupOf (.inl (.inl (s12 _ _ hsa))) fun t2 H13 f13 s13 h13 => ?_
  walk_at "z"
  refine z_tupOf (.inl (.inl (s13 _ _ (s12 _ _ hla)))) fun t3 H14 f14 s14 h14 => ?_
  walk_at "z"
  intro fp dx ffp fdx nex
  have s1214 := s12.trans (s13.trans s14)
  have fx2 : (upd H14 dx (.own fp)) fp = none := by rw [upd_ne nex.symm]; exact ffp
  have s15 : Same H14 (upd (upd H14 dx (.own fp)) fp (.ins (A 4) dx [])) := (same_upd fdx).trans (same_upd fx2)
  refine ⟨fp, dx, t1, t2, t3, ca, sa, la, chs, ss, lsF first m, rfl, upd_same, .inl (.inl (s15 _ _ (s14 _ _ (s13 _ _ h12)))), dp_monoA (s1214.trans s15) dca, .inl (.inl (s15 _ _ (s14 _ _ h13))), dp_monoA (s1214.trans s15) dsa, .inl (.inl (s15 _ _ h14)), dp_monoA (s1214.trans s15) dla, fun c hc => ?_, by omega, fun H15 k15 F => ⟨rfl, ?_⟩⟩
  · obtain ⟨j, hj⟩ := List.mem_iff_getElem?.mp hc
    exact (pc j c hj).2
  have sA : Same H14 H15 := keep_new ffp s15 k15
  have S15 := (S11.mono s1214).mono sA
  have L15 := (L11.mono s1214).mono sA
  clear k15 s15 fx2 sA s1214 h12 h13 h14 s12 s13 s14 L11 S11 hca dca hsa dsa hla dla ffp fdx nex
  walk_at "z"
  obtain ⟨dx2, t, ts, vv, uu, g1, g2, g3, g4, g5⟩ := id F.ins
  refine ⟨fp, dx2, _, rfl, g1, fp, chs, ss, lsF first m, rfl, F, _, rfl, by omega, by omega, ?_⟩
  rw [lc]
  replace F : FontAt (A 4) K H15 fp chs ss (lsF first m) := F
  replace g2 : SqT K H15 t ts := g2
  replace g3 : DpAll K H15 ts (chs.map chD) := g3
  have lts := dpa_lenM g3
  walk_at "z"
  rw [if_neg (by simp)]
  walk_at "z"
  refine Cw.z_valsW (ws := ts) (walk_tup (K := K) (a := t) (xs := ts)) (by omega) (fun R r => ?_) (fun H' s => seqT_tk (TK.of s) g2) rfl (fun i x v' H' H2 R hw hi s y k => ?_) fun D H16 f16 s16 e16 => ?_
  · unfold Fo.iOwn
    walk_at "z"
    refine ⟨fp, dx2, _, rfl, g1, fp, dx2, t, ts, vv, uu, rfl, g1, g2, fun it fit lit => ?_⟩
    refine ⟨it, t, rfl, upd_same, Nat.le_trans nCH (Nat.le_of_lt (lit CH _ L15.c.choose_spec.1)), ?_⟩
    rw [ItX.dropH_upd fit]
    exact r
  · obtain ⟨rfl, hx⟩ := y
    rw [hx] at hw
    cases hw
    refine z_gName ⟨rfl, ?_⟩
    walk_at "z"
    exact k H2 (Same.refl _)
  walk_at "z"
  have L16 := L15.mono s16
  obtain ⟨ca, hca, dca⟩ := L16.c
  refine z_neSame (.lst (.inl (.inl e16)) (dp_monoA s16 g3)) (.lst (.inl (.inl hca)) dca) (shaped_chs chs) ?_
  walk_at "z"
  have nin : first + (n : Int) ∉ chs.map Prod.fst := fun h => by
    obtain ⟨c, hc, e⟩ := List.mem_map.mp h
    obtain ⟨j, hj⟩ := List.mem_iff_getElem?.mp hc
    have := (pc j c hj).1
    have := (List.getElem?_eq_some_iff.mp hj).1
    omega
  have nd : (chs.map Prod.fst).Nodup := by
    refine List.pairwise_iff_getElem.mpr fun i j hi hj hij e => ?_
    rw [List.getElem_map, List.getElem_map] at e
    rw [List.length_map] at hi hj
    have e1 := (pc i _ (List.getElem?_eq_getElem hi)).1
    have e2 := (pc j _ (List.getElem?_eq_getElem hj)).1
    omega
  refine ⟨fp, dx2, _, rfl, s16 _ _ g1, fp, chs, ss, lsF first m, first + (n : Int), rfl, F.mono s16, fun H17 s17 => ⟨_, rfl, ?_⟩⟩
  rw [decide_eq_false nin]
  walk_at "z"
  clear e16 hca dca ca f16
  have sF := s16.trans s17
  refine z_lstN fun FN H18 f18 _ s18 h18 => ?_
  walk_at "z"
  have S17 := S15.mono sF
  have L17 := L15.mono sF
  have F17 := F.mono sF
  have g117 := sF _ _ g1
  have fFN := S17.none0 f18
  have neF : FN ≠ p := S17.ne0 f18
  have S18 := S17.mono s18
  have D18 : Fd K H18 FN chs 0 := ⟨[], h18, rfl, fun j v e => by cases e⟩
  have oth : ∀ {H' : Hp}, Kp FN H18 H' → Same H17 H' := fun k => keep_new f18 s18 k
  clear L16 S15 L15 F g1 g2 g3 g4 g5 sF s16 s17 H15 H16
  refine z_forR1 4 (by decide) (fun R q => by walk_at "z"; exact q) (fun i σ' H' => (∃ u5 u13 u15 u16, σ' = [some (.ref l), some (.ref p), some (.int (n : Int)), some (.int first), some (.ref TP), u5, some (.ref CH), u7, u8, u9, some (.ref SL), some (.ref LL), some (.ref fp), u13, some (.ref FN), u15, u16, nn, nn, nn, nn, nn, nn, nn]) ∧ Kp FN H18 H' ∧ Fd K H' FN chs i)
    ⟨⟨_, _, _, _, rfl⟩, fun _ _ _ e => e, D18⟩ ?_ ?_
  · rintro i σ' H19 hi ⟨⟨w5, u13, u15, u16, rfl⟩, k19, D19⟩
    have s1719 := oth k19
    have L19 := L17.mono s1719
    have F19 := F17.mono s1719
    obtain ⟨ca, hca, dca⟩ := L19.c
    have lca := dpa_lenM dca
    walk_at "z"
    refine Cw.z_valsW (ws := (mvF chs i).map V.int) (walk_list (K := K) (a := CH) (xs := ca)) (by omega) (fun R r => ⟨_, rfl, CH, rfl, ⟨_, .inl (.inl hca)⟩, r⟩) (fun H' s => .inl (.inl (s _ _ hca))) (by rw [List.length_map, mv_len, lca]) (fun j x v' H' H2 R hw hj s y k => ?_) fun D H20 f20 s20 e20 => ?_
    · obtain ⟨rfl, hx⟩ := y
      obtain ⟨c, hc, dc⟩ := ch_at (dp_monoA s dca) hx
      obtain ⟨a, w3, mm, rfl, ha, hm⟩ := dp_ch dc
      have l4 := F19.four c (List.mem_of_getElem? hc)
      unfold mvF at hw
      rw [List.getElem?_map, List.getElem?_map, hc] at hw
      cases hw
      refine z_gName ⟨rfl, ?_⟩
      walk_at "z"
      refine z_ixT hm (v := .int (c.2.getD i 0)) (atI_nat (by rw [List.getElem?_map, List.getD_eq_getElem?_getD, List.getElem?_eq_getElem (by omega)]; rfl)) ?_
      exact k H2 (Same.refl _)
    walk_at "z"
    have D20 := D19.mono s20
    obtain ⟨gvs, hgv, lgv, _⟩ := id D20.ex
    refine z_bmL (fun R q => by walk_at "z"; exact q) hgv ?_
    walk_at "z"
    intro b H21 f21 s21 h21
    walk_at "z"
    refine z_ixL (.inl (.inl h21)) (v := .int (limF i : Nat)) (lim_L hi) ?_
    walk_at "z"
    refine ⟨D, mvF chs i, limF i, rfl, s21 _ _ e20, by rw [mv_len]; omega, lim_pos hi, fun tb H22 ws gs f22 s22 it h22 gg => ?_⟩
    walk_at "z"
    have s1922 := s20.trans (s21.trans s22)
    have hgv22 := (s21.trans s22) _ _ hgv
    have neb : tb ≠ FN := (ne_of_none (s21 _ _ hgv) f22).symm
    refine z_append hgv22 (by omega) ?_
    walk_at "z"
    have k23 : Kp FN H22 (upd H22 FN (.lst (gvs ++ [.ref tb]))) := kp_at
    have D23 : Fd K (upd H22 FN (.lst (gvs ++ [.ref tb]))) FN chs (i + 1) := (D19.mono s1922).app hgv22 neb h22 gg it
    have htb : (upd H22 FN (.lst (gvs ++ [.ref tb]))) tb = some (.lst ws) := by rw [upd_ne neb]; exact h22
    have gg23 : Gs K (upd H22 FN (.lst (gvs ++ [.ref tb]))) ws gs := gg.kp kp_at hgv22
    have hfn : (upd H22 FN (.lst (gvs ++ [.ref tb]))) FN = some (.lst (gvs ++ [.ref tb])) := upd_same
    generalize upd H22 FN (.lst (gvs ++ [.ref tb])) = H23 at *
    have k1823 := (k19.trans' (kp_of s1922)).trans' k23
    have s1723 := oth k1823
    have F23 := F17.mono s1723
    have g123 := s1723 _ _ g117
    have L23 := L17.mono s1723
    have lws := gg.len
    have lgs := it.len
    have l8 := lim_8 hi
    have atf : ∀ {H : Hp} {Q : VK}, Same H23 H → Q (.ref tb) H → rIxL K (.ref FN) (.int (i : Int)) H Q := fun s q => z_ixL (.inl (.inl (s _ _ hfn))) (v := .ref tb) (atI_nat (by rw [List.getElem?_append_right (by omega), lgv, Nat.sub_self]; rfl)) q
    clear hgv hgv22 h22 gg e20 f20 f21 f22 s20 s21 h21 s22 D20 D19 L19 F19 hca dca lca s1922 k23 k19 s1719
    refine Cw.z_meth g123 (lk_no (by decide +kernel)) ?_
    walk_at "z"
    refine ⟨fp, chs, ss, lsF first m, i, rfl, F23, hi, fun TD H24 gs2 s24 it2 h24 => ?_⟩
    obtain rfl := it2.one it
    walk_at "z"
    intro z0 H25 f25 s25 h25
    walk_at "z"
    have s2325 := s24.trans s25
    have htb25 := s2325 _ _ htb
    refine Cw.z_valsW (ws := (gs2.map mid).map V.int) (walk_list (K := K) (a := tb) (xs := ws)) (by omega) (fun R r => ?_) (fun H' s => .inl (.inl (s _ _ htb25))) (by rw [List.length_map, List.length_map, lws]) (fun j x v' H' H2 R hw hj s y k => ?_) fun D2 H26 f26 s26 e26 => ?_
    · unfold iList
      walk_at "z"
      refine atf s2325 ?_
      exact ⟨tb, rfl, ⟨_, .inl (.inl htb25)⟩, r⟩
    · obtain ⟨rfl, hx⟩ := y
      obtain ⟨z, hz, dz⟩ := ((gg23.mono s2325).mono s).getv hx
      obtain ⟨tz, rfl, hzt⟩ := dp_g dz
      rw [List.getElem?_map, List.getElem?_map, hz] at hw
      cases hw
      refine z_gT hzt rfl ?_
      walk_at "z"
      refine ⟨rfl, ?_⟩
      walk_at "z"
      refine z_I wd2 ?_
      exact k H2 (Same.refl _)
    walk_at "z"
    refine z_cat (s26 _ _ h25) e26 (by simp only [List.length_map, List.length_cons, List.length_nil]; omega) fun D3 H27 f27 s27 e27 => ?_
    have s2427 := s25.trans (s26.trans s27)
    refine z_neInts (s2427 _ _ h24) (ms := 0 :: gs2.map mid) e27 ?_
    rw [decide_eq_false (by simp)]
    walk_at "z"
    have s2327 := s24.trans s2427
    have L27 := L23.mono s2327
    obtain ⟨ca, hca, dca⟩ := L27.c
    have lca := dpa_lenM dca
    clear h24 h25 e26 e27 f25 f26 f27 s2427 s2325 s24 s25 s26 s27 htb25
    refine z_forL (fun R q => q) (.inl (.inl hca)) (fun j σ' H' => (∃ u13 u16, σ' = [some (.ref l), some (.ref p), some (.int (n : Int)), some (.int first), some (.ref TP), some (.int (i : Int)), some (.ref CH), u7, u8, u9, some (.ref SL), some (.ref LL), some (.ref fp), u13, some (.ref FN), some (.ref D), u16, nn, nn, nn, nn, nn, nn, nn]) ∧ Same H27 H')
      ⟨⟨_, _, rfl⟩, fun _ _ e => e⟩ (fun j σ' H' _ h => .inl (.inl (h.2 _ _ hca))) ?_ ?_
    · rintro j x σ' H28 hx ⟨⟨w13, w16, rfl⟩, s28⟩
      obtain ⟨c, hc, dc⟩ := ch_at (dp_monoA s28 dca) hx
      obtain ⟨a, w3, mm, rfl, ha, hm⟩ := id (dp_ch dc)
      have l4 := F17.four c (List.mem_of_getElem? hc)
      have cs := chF_self hc nd
      have s2328 := s2327.trans s28
      walk_at "z"
      refine Cw.z_meth (s2328 _ _ g123) (lk_no (by decide +kernel)) ?_
      walk_at "z"
      refine ⟨fp, chs, ss, lsF first m, c.1, i, rfl, F23.mono s2328, hi, fun c2 gs3 H29 hc2 s29 it3 => ?_, fun no => absurd cs (by rw [no]; simp)⟩
      obtain rfl : c = c2 := Option.some.inj (cs.symm.trans hc2)
      obtain rfl := it3.one it
      have s2329 := s2328.trans s29
      have ha9 := seqT_tk (TK.of s29) ha
      have hm9 := seqT_tk (TK.of s29) hm
      walk_at "z"
      refine atf s2329 ?_
      walk_at "z"
      refine z_ixT hm9 (v := .int (c.2.getD i 0)) (atI_nat (by rw [List.getElem?_map, List.getD_eq_getElem?_getD, List.getElem?_eq_getElem (by omega)]; rfl)) ?_
      walk_at "z"
      refine ⟨tb, ws, gs3, _, rfl, s2329 _ _ htb, gg23.mono s2329, ?_⟩
      walk_at "z"
      rw [if_neg (by simp)]
      walk_at "z"
      refine Cw.z_meth (s2329 _ _ g123) (lk_no (by decide +kernel)) ?_
      walk_at "z"
      refine ⟨fp, chs, ss, lsF first m, c.1, rfl, F23.mono s2329, fun c3 v3 hc3 dv => ?_, fun no => absurd cs (by rw [no]; simp)⟩
      obtain rfl : c = c3 := Option.some.inj (cs.symm.trans hc3)
      walk_at "z"
      refine z_neSame dv (dp_mono s29 dc) (shaped_ch c) ?_
      walk_at "z"
      refine ⟨fp, dx2, _, rfl, s2329 _ _ g123, fp, chs, ss, lsF first m, c.1, rfl, F23.mono s2329, fun H30 s30 => ⟨_, rfl, ?_⟩⟩
      rw [decide_eq_true (List.mem_map_of_mem (List.mem_of_getElem? hc))]
      walk_at "z"
      exact ⟨⟨_, _, rfl⟩, (s28.trans s29).trans s30⟩
    · rintro σ' H28 ⟨⟨w13, w16, rfl⟩, s28⟩
      walk_at "z"
      exact ⟨⟨_, _, _, _, rfl⟩, k1823.trans' (kp_of (s2327.trans s28)), D23.mono (s2327.trans s28)⟩
  rintro σ' H19 ⟨⟨w5, u13, u15, u16, rfl⟩, k19, D19⟩
  have S19 : Sd H H19 p := by
    obtain ⟨a, b, m, st⟩ := S18.stm
    exact ⟨keep_new fFN S18.same k19, S18.fresh, a, b, m, k19 _ _ neF.symm st⟩
  have s1719 := oth k19
  have L19 := L17.mono s1719
  have F19 := F17.mono s1719
  have g119 := s1719 _ _ g117
  obtain ⟨gvs, hgv, lgv, tabs⟩ := D19.ex
  obtain ⟨tb, ws, gs, e0, _, htb, gg, it⟩ := tabs 0 gvs[0] (List.getElem?_eq_getElem (by omega))
  have it : IsT (mvF chs 0) 8 gs := it
  have gv0 : atI gvs ((0 : Nat) : Int) = some (.ref tb) := atI_nat (by rw [List.getElem?_eq_getElem (by omega), e0])
  clear tabs D19 k19 oth S18 D18 h18 s18 f18 S17 L17 F17 g117 s1719
  walk_at "z"
  refine ⟨l, ns, 1, rfl, S19.same.seq hS, fun v1 => ?_⟩
  walk_at "z"
  refine ⟨v1, rfl, fun lp H20 i2 j2 m2 f20 s20 h20 => ?_⟩
  have T20 := Sd.mk0 f20 s20 h20
  walk_at "z"
  refine z_lcRE ?_
  walk_at "z"
  refine nx T20 (by decide) (lt1000 (by decide)) fun q0 H21 q00 q01 T21 e21 => ?_
  walk_at "z"
  obtain ⟨qn, rfl⟩ : ∃ z : Nat, q0 = (z : Int) := ⟨q0.toNat, by omega⟩
  refine z_comp (m := qn) (fun _ x => 0 ≤ x ∧ x < 128) T21 rfl (by omega) (fun _ => rfl) (fun i H' R _ T' k' r => ?_) fun CD H22 cs fCD neD T22 k22 h22 lcs pcs => ?_
  · walk_at "z"
    refine nx T' (by omega) (lt1000 (by omega)) fun x H23 x0 x1 T23 e23 => ?_
    walk_at "z"
    refine r _ H23 ?_ T23 (kp_eq e23)
    omega
  have nlp : ∀ {a : Addr} {o : HO}, H19 a = some o → a ≠ lp := fun h => ne_of_none h f20
  have s22 : Same H19 H22 := T22.same
  clear T20 T21 e21 k22 h20 s20
  walk_at "z"
  have kl : ∀ {H' : Hp}, Same H22 H' → KL K H' SL LL ss (lsF first m) := fun s => ⟨((L19.mono s22).mono s).s, ((L19.mono s22).mono s).l, ak, lsF_nd first m, fun x hx => by rw [lss]; exact (lsF_mem hx).1⟩
  have ok : ∀ l r, onlyK (RR ss (lsF first m) l r) := fun l r => ruleF_all ak _
  have ko : KOk ss (lsF first m) := ⟨ok, fun x hx => by rw [lss]; exact Nat.le_of_lt (lsF_mem hx).1, by omega, by rw [lsF_len]; omega⟩
  have z128 : ∀ r, kernO (RR ss (lsF first m) 128 r) = 0 := fun r => kr_none ak fun x hx e => by
    obtain ⟨h1, h2⟩ := lsF_mem hx
    omega
  refine ⟨SL, LL, ss, lsF first m, 128, 128, rfl, kl (Same.refl _), ?_⟩
  rw [show kernO (ruleF ss 128 128 (lsF first m)) = 0 from z128 128]
  walk_at "z"
  refine z_lstN fun PN H23 f23 _ s23 h23 => ?_
  walk_at "z"
  have s1923 := s22.trans s23
  have knl : (knF (RR ss (lsF first m)) 128 (cs ++ [128])).length = cs.length + 1 := by rw [knF_len, List.length_append]; rfl
  have kn0 : (knF (RR ss (lsF first m)) 128 (cs ++ [128])).getD 0 0 = 0 := by
    cases cs with
    | nil => exact z128 128
    | cons c cs => exact z128 c
  have knat : ∀ i a b, cs[i]? = some a → (cs ++ [128])[i + 1]? = some b → (knF (RR ss (lsF first m)) 128 (cs ++ [128])).getD (i + 1) 0 = kernO (RR ss (lsF first m) a b) := fun i a b h1 h2 => by
    have hi := (List.getElem?_eq_some_iff.mp h1).1
    have := knF_at (R := RR ss (lsF first m)) (h := 128) (rest := cs ++ [128]) (k := i + 1) (a := a) (b := b) (by rw [List.getElem?_cons_succ, List.getElem?_append_left hi, h1]) h2
    rw [List.getD_eq_getElem?_getD, this]
    rfl
  generalize hkn : knF (RR ss (lsF first m)) 128 (cs ++ [128]) = kn at *
  have ldk : (kn.drop 1).length = cs.length := by rw [List.length_drop]; omega
  have dk : ∀ i, (kn.drop 1).getD i 0 = kn.getD (i + 1) 0 := fun i => by
    rw [List.getD_eq_getElem?_getD, List.getD_eq_getElem?_getD, List.getElem?_drop, Nat.add_comm]
  have ksum : (kn.drop 1).sum = kn.sum := by
    cases kn with
    | nil => rfl
    | cons a kn =>
      have e : a = 0 := kn0
      rw [e, List.sum_cons]
      show kn.sum = 0 + kn.sum
      omega
  generalize hks : kn.drop 1 = ks at *
  have hC23 := s23 _ _ h22
  refine z_forR1 cs.length (by omega) (fun R q => by
    walk_at "z"
    rw [List.length_map]
    exact q) (fun i σ' H' => (∃ u7 u8, σ' = [some (.ref l), some (.ref p), some (.int (n : Int)), some (.int first), some (.ref TP), w5, some (.ref CH), u7, u8, u9, some (.ref SL), some (.ref LL), some (.ref fp), u13, some (.ref FN), u15, u16, nn, nn, some (.ref lp), some (.ref CD), some (.int (plN (wdF gs chs) 0 cs ks i)), some (.ref PN), nn]) ∧ Kp PN H23 H' ∧ H' PN = some (.lst (((List.range i).map (plN (wdF gs chs) 0 cs ks)).map V.int)))
    ⟨⟨_, _, rfl⟩, fun _ _ _ e => e, h23⟩ ?_ ?_
  · rintro i σ' H24 hi ⟨⟨w7, w8, rfl⟩, k24, h24⟩
    walk_at "z"
    refine z_bmL (fun R q => by walk_at "z"; exact q) h24 ?_
    walk_at "z"
    refine z_append h24 (by rw [List.length_map, List.length_map, List.length_range]; omega) ?_
    walk_at "z"
    have k25 : Kp PN H23 (upd H24 PN (.lst (((List.range i).map (plN (wdF gs chs) 0 cs ks)).map V.int ++ [.int (plN (wdF gs chs) 0 cs ks i)]))) := k24.trans' kp_at
    have h25 : (upd H24 PN (.lst (((List.range i).map (plN (wdF gs chs) 0 cs ks)).map V.int ++ [.int (plN (wdF gs chs) 0 cs ks i)]))) PN = some (.lst (((List.range (i + 1)).map (plN (wdF gs chs) 0 cs ks)).map V.int)) := by
      rw [upd_same, List.range_succ, List.map_append, List.map_append]
      rfl
    generalize upd H24 PN (.lst (((List.range i).map (plN (wdF gs chs) 0 cs ks)).map V.int ++ [.int (plN (wdF gs chs) 0 cs ks i)])) = H25 at *
    have s2225 : Same H22 H25 := keep_new f23 s23 k25
    have s1925 := s22.trans s2225
    obtain ⟨ca, hca, dca⟩ := (L19.mono s1925).c
    have lca := dpa_lenM dca
    obtain ⟨cc, hcc⟩ : ∃ z, cs[i]? = some z := ⟨_, List.getElem?_eq_getElem hi⟩
    have hCD := s2225 _ _ h22
    have atc : ∀ {H : Hp} {Q : VK}, Same H25 H → Q (.int cc) H → rIxL K (.ref CD) (.int (i : Int)) H Q := fun s q => z_ixL (.inl (.inl (s _ _ hCD))) (v := .int cc) (atI_nat (by rw [List.getElem?_map, hcc]; rfl)) q
    refine Li.z_lcWT (H := H25) walk_list (fun R q => ⟨.ref CH, rfl, CH, rfl, ⟨_, .inl (.inl hca)⟩, q⟩)
      (fun j D acc' H' => Same H25 H' ∧ H25 D = none ∧ acc' = (((chs.take j).filter fun c => decide (c.1 = cc)).map mw).map V.int) (fun D H' f s _ => ⟨s, f, by simp⟩) (fun j D acc' H' h => .inl (.inl (h.1 _ _ hca))) ?_ ?_
    · rintro j x D acc' H' H2' fD hn hA' ⟨s', _, ea⟩ ⟨rfl, hx⟩
      obtain ⟨c, hc, dc⟩ := ch_at (dp_monoA s' dca) hx
      obtain ⟨a, w3, mm, rfl, ha, hm⟩ := id (dp_ch dc)
      have l4 := F19.four c (List.mem_of_getElem? hc)
      have et : chs.take (j + 1) = chs.take j ++ [c] := by rw [List.take_add_one, hc]; rfl
      refine ⟨rfl, ?_⟩
      walk_at "z"
      refine atc s' ?_
      walk_at "z"
      by_cases cz : c.1 = cc
      · rw [decide_eq_true cz]
        walk_at "z"
        refine z_ixT hm (v := .int (mw c)) (show atI _ ((0 : Nat) : Int) = _ from atI_nat (by unfold mw; rw [List.getElem?_map, List.getD_eq_getElem?_getD, List.getElem?_eq_getElem (by omega)]; rfl)) ?_
        have : acc'.length ≤ 24 := by
          rw [ea, List.length_map, List.length_map]
          have h1 := List.length_filter_le (fun c : Chr => decide (c.1 = cc)) (chs.take j)
          have h2 := List.length_take_le' j chs
          omega
        refine Li.z_inB hA' (by omega) fun H9 h9 e9 => ⟨fun x o e => ?_, fD, ?_⟩
        · rw [e9 _ (ne_of_none e fD)]
          exact s' _ _ e
        · rw [et, List.filter_append, List.filter_cons_of_pos (by simp [cz]), List.filter_nil, List.map_append, List.map_append, ea]
          rfl
      · rw [decide_eq_false cz]
        walk_at "z"
        refine ⟨acc', hA', s', fD, ?_⟩
        rw [et, List.filter_append, List.filter_cons_of_neg (by simp [cz]), List.filter_nil, List.append_nil]
        exact ea
    · rintro OD acc' H26 fOD hO ⟨s26, _, ea⟩
      rw [lca, List.take_length] at ea
      subst ea
      have s1926 := s1925.trans s26
      walk_at "z"
      refine z_ixL (.inl (.inl (s1926 _ _ hgv))) gv0 ?_
      walk_at "z"
      refine Cw.z_sum (.inl (.inl hO)) ?_
      refine ⟨tb, ws, gs, _, rfl, s1926 _ _ htb, gg.mono s1926, ?_⟩
      rw [own_wd it nd]
      walk_at "z"
      refine atc s26 ?_
      walk_at "z"
      intro z1 H27 f27 s27 h27
      walk_at "z"
      refine z_cat ((s26.trans s27) _ _ hCD) h27 (by simp only [List.length_map, List.length_cons, List.length_nil]; omega) fun D3 H28 f28 s28 h28 => ?_
      walk_at "z"
      obtain ⟨bb, hbb⟩ : ∃ z, (cs ++ [128])[i + 1]? = some z := ⟨_, List.getElem?_eq_getElem (by rw [List.length_append, List.length_singleton]; omega)⟩
      refine z_ixL (.inl (.inl h28)) (v := .int bb) (show atI _ ((i + 1 : Nat) : Int) = _ from atI_nat (by rw [show cs.map V.int ++ [V.int 128] = (cs ++ [128]).map V.int by rw [List.map_append]; rfl, List.getElem?_map, hbb]; rfl)) ?_
      have s2228 := s2225.trans (s26.trans (s27.trans s28))
      refine ⟨SL, LL, ss, lsF first m, cc, bb, rfl, kl s2228, ?_⟩
      walk_at "z"
      have e : plN (wdF gs chs) 0 cs ks (i + 1) = plN (wdF gs chs) 0 cs ks i + wdF gs chs cc + kernO (ruleF ss cc bb (lsF first m)) := by
        show plN (wdF gs chs) 0 cs ks i + (wdF gs chs (cs.getD i 0) + ks.getD i 0) = _
        rw [dk, knat i cc bb hcc hbb, List.getD_eq_getElem?_getD, hcc]
        show _ + (wdF gs chs cc + kernO (ruleF ss cc bb (lsF first m))) = _
        omega
      exact ⟨⟨_, _, by rw [e]; rfl⟩, k25.trans' (kp_of (s26.trans (s27.trans s28))), (s26.trans (s27.trans s28)) _ _ h25⟩
  rintro σ' H24 ⟨⟨w7, w8, rfl⟩, k24, h24⟩
  have s2224 : Same H22 H24 := keep_new f23 s23 k24
  have s1924 := s22.trans s2224
  have F24 := F19.mono s1924
  have g124 := s1924 _ _ g119
  have S24 : Sd H H24 p := S19.mono s1924
  have hC24 := s2224 _ _ h22
  have sums : plN (wdF gs chs) 0 cs ks cs.length = (cs.map (wdF gs chs)).sum + kn.sum := by
    rw [plN_sum ldk, ksum]
    omega
  walk_at "z"
  refine Cw.z_meth g124 (lk_no (by decide +kernel)) ?_
  walk_at "z"
  refine z_listOf (.inl (.inl hC24)) fun A1 H25 f25 s25 h25 => ?_
  refine ⟨fp, A1, chs, ss, lsF first m, cs, cs, rfl, F24.mono s25, nd, ko, .inl (.inl h25), by omega, fun x hx => hx, fun big => absurd big (by omega), fun _ => ⟨fun x hx => ?_, fun W H26 s26 hW => ?_⟩, .inl (by omega)⟩
  · obtain ⟨j, hj⟩ := List.mem_iff_getElem?.mp hx
    have := pcs j x hj
    omega
  have hW := hW gs it
  walk_at "z"
  rw [if_neg (by rw [hW, sums, hkn]; simp)]
  walk_at "z"
  have s2426 := s25.trans s26
  refine Cw.z_meth (s2426 _ _ g124) (lk_no (by decide +kernel)) ?_
  walk_at "z"
  refine z_listOf (.inl (.inl (s2426 _ _ hC24))) fun A2 H27 f27 s27 h27 => ?_
  have s2427 := s2426.trans s27
  refine ⟨fp, A2, chs, ss, lsF first m, cs, cs, rfl, F24.mono s2427, nd, ko, .inl (.inl h27), by omega, fun x hx => hx, fun big => absurd big (by omega), fun _ => ⟨fun x hx => ?_, fun WL wl H28 s28 h28 hwl => ?_⟩, .inl (by omega)⟩
  · obtain ⟨j, hj⟩ := List.mem_iff_getElem?.mp hx
    have := pcs j x hj
    omega
  have hwl := hwl gs it
  unfold posF at hwl
  rw [hkn, hks, kn0] at hwl
  subst hwl
  have s2428 := s2427.trans s28
  walk_at "z"
  refine z_neInts h28 (s2428 _ _ h24) ?_
  rw [decide_eq_false (by simp)]
  walk_at "z"
  have S28 := S24.mono s2428
  intro z2 H29 f29 s29 h29
  walk_at "z"
  refine nx (S28.mono s29) (by decide) (lt1000 (by decide)) fun y H30 y0 y1 S30 e30 => ?_
  have h30 : H30 z2 = some (.lst [.int first]) := (e30 z2 (S28.ne0 f29)).trans h29
  have nfp : fp ≠ p := by
    obtain ⟨_, _, _, st⟩ := S24.stm
    exact ne_of g124 st (by intro z; cases z)
  have F30 := (F24.mono (s2428.trans s29)).kp (kp_eq e30) ((S28.mono s29).notup (kp_eq e30)) nfp
  obtain ⟨N, hN⟩ : ∃ N : Nat, 399 + y = (N : Int) := ⟨(399 + y).toNat, by omega⟩
  walk_at "z"
  rw [hN]
  refine z_rep N h30 rfl (by omega) fun RP H31 f31 s31 h31 => ?_
  refine ⟨fp, RP, chs, ss, lsF first m, List.replicate N first, [first], rfl, F30.mono s31, nd, ko, .inl (.inl (by rw [h31, List.map_replicate])), by show 1 ≤ 10; decide, fun x hx => (by rw [(List.mem_replicate.mp hx).2]; exact .head _), by rw [List.length_replicate]; omega, fun H32 s32 => ?_⟩
  walk_at "z"
  refine ⟨fp, chs, ss, lsF first m, first + (n : Int), rfl, (F30.mono s31).mono s32, ?_, q _⟩
  unfold chF
  rw [List.find?_eq_none]
  intro c hc z
  refine nin (List.mem_map.mpr ⟨c, hc, of_decide_eq_true z⟩)
end

theorem all_mk {l : PySem.W.OpenLaw} {w : World} {K : PySem.W.Frag} {h : Heap} {mg : Str → Option Value} {fa : Addr} (X : K.In h) (G : h.Ns mainGlobals mg) (hfa : mg "law" = some (.ref fa))
    {a5 : Addr} {od5 an5 : Option Addr} {sl5 : Array (Option Value)} {oc5 kV5 dc5 pm5 cd5 ct5 : Value} {a6 : Addr} {od6 an6 : Option Addr} {sl6 : Array (Option Value)} {oc6 kV6 dc6 pm6 cd6 ct6 : Value} {a7 : Addr} {od7 an7 : Option Addr} {sl7 : Array (Option Value)} {oc7 kV7 dc7 pm7 cd7 ct7 : Value} {a8 : Addr} {od8 an8 : Option Addr} {sl8 : Array (Option Value)} {oc8 kV8 dc8 pm8 cd8 ct8 : Value} {a9 : Addr} {od9 an9 : Option Addr} {sl9 : Array (Option Value)} {oc9 kV9 dc9 pm9 cd9 ct9 : Value} {a10 : Addr} {od10 an10 : Option Addr} {sl10 : Array (Option Value)} {oc10 kV10 dc10 pm10 cd10 ct10 : Value} {a11 : Addr} {od11 an11 : Option Addr} {sl11 : Array (Option Value)} {oc11 kV11 dc11 pm11 cd11 ct11 : Value} {a12 : Addr} {od12 an12 : Option Addr} {sl12 : Array (Option Value)} {oc12 kV12 dc12 pm12 cd12 ct12 : Value} {a13 : Addr} {od13 an13 : Option Addr} {sl13 : Array (Option Value)} {oc13 kV13 dc13 pm13 cd13 ct13 : Value} {a14 : Addr} {od14 an14 : Option Addr} {sl14 : Array (Option Value)} {oc14 kV14 dc14 pm14 cd14 ct14 : Value} {a15 : Addr} {od15 an15 : Option Addr} {sl15 : Array (Option Value)} {oc15 kV15 dc15 pm15 cd15 ct15 : Value} {a16 : Addr} {od16 an16 : Option Addr} {sl16 : Array (Option Value)} {oc16 kV16 dc16 pm16 cd16 ct16 : Value} {a17 : Addr} {od17 an17 : Option Addr} {sl17 : Array (Option Value)} {oc17 kV17 dc17 pm17 cd17 ct17 : Value} {a18 : Addr} {od18 an18 : Option Addr} {sl18 : Array (Option Value)} {oc18 kV18 dc18 pm18 cd18 ct18 : Value} {a19 : Addr} {od19 an19 : Option Addr} {sl19 : Array (Option Value)} {oc19 kV19 dc19 pm19 cd19 ct19 : Value} {a20 : Addr} {od20 an20 : Option Addr} {sl20 : Array (Option Value)} {oc20 kV20 dc20 pm20 cd20 ct20 : Value} {a21 : Addr} {od21 an21 : Option Addr} {sl21 : Array (Option Value)} {oc21 kV21 dc21 pm21 cd21 ct21 : Value} {a22 : Addr} {od22 an22 : Option Addr} {sl22 : Array (Option Value)} {oc22 kV22 dc22 pm22 cd22 ct22 : Value} {a23 : Addr} {od23 an23 : Option Addr} {sl23 : Array (Option Value)} {oc23 kV23 dc23 pm23 cd23 ct23 : Value} {a24 : Addr} {od24 an24 : Option Addr} {sl24 : Array (Option Value)} {oc24 kV24 dc24 pm24 cd24 ct24 : Value} {a25 : Addr} {od25 an25 : Option Addr} {sl25 : Array (Option Value)} {oc25 kV25 dc25 pm25 cd25 ct25 : Value} {a26 : Addr} {od26 an26 : Option Addr} {sl26 : Array (Option Value)} {oc26 kV26 dc26 pm26 cd26 ct26 : Value} {a27 : Addr} {od27 an27 : Option Addr} {sl27 : Array (Option Value)} {oc27 kV27 dc27 pm27 cd27 ct27 : Value} {a28 : Addr} {od28 an28 : Option Addr} {sl28 : Array (Option Value)} {oc28 kV28 dc28 pm28 cd28 ct28 : Value} {a29 : Addr} {od29 an29 : Option Addr} {sl29 : Array (Option Value)} {oc29 kV29 dc29 pm29 cd29 ct29 : Value} {a30 : Addr} {od30 an30 : Option Addr} {sl30 : Array (Option Value)} {oc30 kV30 dc30 pm30 cd30 ct30 : Value} {a31 : Addr} {od31 an31 : Option Addr} {sl31 : Array (Option Value)} {oc31 kV31 dc31 pm31 cd31 ct31 : Value} {a32 : Addr} {od32 an32 : Option Addr} {sl32 : Array (Option Value)} {oc32 kV32 dc32 pm32 cd32 ct32 : Value} {a33 : Addr} {od33 an33 : Option Addr} {sl33 : Array (Option Value)} {oc33 kV33 dc33 pm33 cd33 ct33 : Value} {a34 : Addr} {od34 an34 : Option Addr} {sl34 : Array (Option Value)} {oc34 kV34 dc34 pm34 cd34 ct34 : Value} {a35 : Addr} {od35 an35 : Option Addr} {sl35 : Array (Option Value)} {oc35 kV35 dc35 pm35 cd35 ct35 : Value} {a36 : Addr} {od36 an36 : Option Addr} {sl36 : Array (Option Value)} {oc36 kV36 dc36 pm36 cd36 ct36 : Value} {a37 : Addr} {od37 an37 : Option Addr} {sl37 : Array (Option Value)} {oc37 kV37 dc37 pm37 cd37 ct37 : Value} {a38 : Addr} {od38 an38 : Option Addr} {sl38 : Array (Option Value)} {oc38 kV38 dc38 pm38 cd38 ct38 : Value} {a39 : Addr} {od39 an39 : Option Addr} {sl39 : Array (Option Value)} {oc39 kV39 dc39 pm39 cd39 ct39 : Value} {a40 : Addr} {od40 an40 : Option Addr} {sl40 : Array (Option Value)} {oc40 kV40 dc40 pm40 cd40 ct40 : Value} {a41 : Addr} {od41 an41 : Option Addr} {sl41 : Array (Option Value)} {oc41 kV41 dc41 pm41 cd41 ct41 : Value} {a42 : Addr} {od42 an42 : Option Addr} {sl42 : Array (Option Value)} {oc42 kV42 dc42 pm42 cd42 ct42 : Value} {a43 : Addr} {od43 an43 : Option Addr} {sl43 : Array (Option Value)} {oc43 kV43 dc43 pm43 cd43 ct43 : Value} {a44 : Addr} {od44 an44 : Option Addr} {sl44 : Array (Option Value)} {oc44 kV44 dc44 pm44 cd44 ct44 : Value} {a45 : Addr} {od45 an45 : Option Addr} {sl45 : Array (Option Value)} {oc45 kV45 dc45 pm45 cd45 ct45 : Value} {a46 : Addr} {od46 an46 : Option Addr} {sl46 : Array (Option Value)} {oc46 kV46 dc46 pm46 cd46 ct46 : Value} {a47 : Addr} {od47 an47 : Option Addr} {sl47 : Array (Option Value)} {oc47 kV47 dc47 pm47 cd47 ct47 : Value} {a48 : Addr} {od48 an48 : Option Addr} {sl48 : Array (Option Value)} {oc48 kV48 dc48 pm48 cd48 ct48 : Value} {a49 : Addr} {od49 an49 : Option Addr} {sl49 : Array (Option Value)} {oc49 kV49 dc49 pm49 cd49 ct49 : Value} {a50 : Addr} {od50 an50 : Option Addr} {sl50 : Array (Option Value)} {oc50 kV50 dc50 pm50 cd50 ct50 : Value} {a4 : Addr} {a0 : Addr} {a1 : Addr} {a2 : Addr} {a3 : Addr} {t_EDGE : Tok} {t_MOST_ITEMS : Tok} {t_WIDTH : Tok} {a51 : Addr} {tLIMITS_0_0 : Tok} {tLIMITS_0_1 : Tok} {tLIMITS_0_2 : Tok} {tLIMITS_0_3 : Tok} {odLIMITS_0 : Option Addr} {nnLIMITS_0 : Nat} {slLIMITS_0 : Array (Option Value)}
    (n5 : PySem.W.nsIn K mainGlobals "groups" = some (some (.ref a5)))
    (l5 : K.lookup a5 = some ⟨oc5, od5, .func (PySem.W.fnOf "groups" "groups" (defArgs s_groups) (defBody s_groups) (defScope s_groups) .none kV5 dc5 pm5 an5 cd5 ct5), sl5⟩)
    (c5 : PySem.W.codeIn K cd5 "groups" = true) (k5 : PySem.W.keepIn K (.ref a5) = true)
    (n6 : PySem.W.nsIn K mainGlobals "values_in_order" = some (some (.ref a6)))
    (l6 : K.lookup a6 = some ⟨oc6, od6, .func (PySem.W.fnOf "values_in_order" "values_in_order" (defArgs s_values_in_order) (defBody s_values_in_order) (defScope s_values_in_order) .none kV6 dc6 pm6 an6 cd6 ct6), sl6⟩)
    (c6 : PySem.W.codeIn K cd6 "values_in_order" = true) (k6 : PySem.W.keepIn K (.ref a6) = true)
    (n7 : PySem.W.nsIn K mainGlobals "groups_in_order" = some (some (.ref a7)))
    (l7 : K.lookup a7 = some ⟨oc7, od7, .func (PySem.W.fnOf "groups_in_order" "groups_in_order" (defArgs s_groups_in_order) (defBody s_groups_in_order) (defScope s_groups_in_order) .none kV7 dc7 pm7 an7 cd7 ct7), sl7⟩)
    (c7 : PySem.W.codeIn K cd7 "groups_in_order" = true) (k7 : PySem.W.keepIn K (.ref a7) = true)
    (n8 : PySem.W.nsIn K mainGlobals "least_tolerance" = some (some (.ref a8)))
    (l8 : K.lookup a8 = some ⟨oc8, od8, .func (PySem.W.fnOf "least_tolerance" "least_tolerance" (defArgs s_least_tolerance) (defBody s_least_tolerance) (defScope s_least_tolerance) .none kV8 dc8 pm8 an8 cd8 ct8), sl8⟩)
    (c8 : PySem.W.codeIn K cd8 "least_tolerance" = true) (k8 : PySem.W.keepIn K (.ref a8) = true)
    (n9 : PySem.W.nsIn K mainGlobals "table_groups" = some (some (.ref a9)))
    (l9 : K.lookup a9 = some ⟨oc9, od9, .func (PySem.W.fnOf "table_groups" "table_groups" (defArgs s_table_groups) (defBody s_table_groups) (defScope s_table_groups) .none kV9 dc9 pm9 an9 cd9 ct9), sl9⟩)
    (c9 : PySem.W.codeIn K cd9 "table_groups" = true) (k9 : PySem.W.keepIn K (.ref a9) = true)
    (n10 : PySem.W.nsIn K mainGlobals "group_value" = some (some (.ref a10)))
    (l10 : K.lookup a10 = some ⟨oc10, od10, .func (PySem.W.fnOf "group_value" "group_value" (defArgs s_group_value) (defBody s_group_value) (defScope s_group_value) .none kV10 dc10 pm10 an10 cd10 ct10), sl10⟩)
    (c10 : PySem.W.codeIn K cd10 "group_value" = true) (k10 : PySem.W.keepIn K (.ref a10) = true)
    (n11 : PySem.W.nsIn K mainGlobals "table" = some (some (.ref a11)))
    (l11 : K.lookup a11 = some ⟨oc11, od11, .func (PySem.W.fnOf "table" "table" (defArgs s_table) (defBody s_table) (defScope s_table) .none kV11 dc11 pm11 an11 cd11 ct11), sl11⟩)
    (c11 : PySem.W.codeIn K cd11 "table" = true) (k11 : PySem.W.keepIn K (.ref a11) = true)
    (n12 : PySem.W.nsIn K mainGlobals "table_value" = some (some (.ref a12)))
    (l12 : K.lookup a12 = some ⟨oc12, od12, .func (PySem.W.fnOf "table_value" "table_value" (defArgs s_table_value) (defBody s_table_value) (defScope s_table_value) .none kV12 dc12 pm12 an12 cd12 ct12), sl12⟩)
    (c12 : PySem.W.codeIn K cd12 "table_value" = true) (k12 : PySem.W.keepIn K (.ref a12) = true)
    (n13 : PySem.W.nsIn K mainGlobals "rule" = some (some (.ref a13)))
    (l13 : K.lookup a13 = some ⟨oc13, od13, .func (PySem.W.fnOf "rule" "rule" (defArgs s_rule) (defBody s_rule) (defScope s_rule) .none kV13 dc13 pm13 an13 cd13 ct13), sl13⟩)
    (c13 : PySem.W.codeIn K cd13 "rule" = true) (k13 : PySem.W.keepIn K (.ref a13) = true)
    (n14 : PySem.W.nsIn K mainGlobals "action_from" = some (some (.ref a14)))
    (l14 : K.lookup a14 = some ⟨oc14, od14, .func (PySem.W.fnOf "action_from" "action_from" (defArgs s_action_from) (defBody s_action_from) (defScope s_action_from) .none kV14 dc14 pm14 an14 cd14 ct14), sl14⟩)
    (c14 : PySem.W.codeIn K cd14 "action_from" = true) (k14 : PySem.W.keepIn K (.ref a14) = true)
    (n15 : PySem.W.nsIn K mainGlobals "rules_of" = some (some (.ref a15)))
    (l15 : K.lookup a15 = some ⟨oc15, od15, .func (PySem.W.fnOf "rules_of" "rules_of" (defArgs s_rules_of) (defBody s_rules_of) (defScope s_rules_of) .none kV15 dc15 pm15 an15 cd15 ct15), sl15⟩)
    (c15 : PySem.W.codeIn K cd15 "rules_of" = true) (k15 : PySem.W.keepIn K (.ref a15) = true)
    (n16 : PySem.W.nsIn K mainGlobals "pairs_with_steps" = some (some (.ref a16)))
    (l16 : K.lookup a16 = some ⟨oc16, od16, .func (PySem.W.fnOf "pairs_with_steps" "pairs_with_steps" (defArgs s_pairs_with_steps) (defBody s_pairs_with_steps) (defScope s_pairs_with_steps) .none kV16 dc16 pm16 an16 cd16 ct16), sl16⟩)
    (c16 : PySem.W.codeIn K cd16 "pairs_with_steps" = true) (k16 : PySem.W.keepIn K (.ref a16) = true)
    (n17 : PySem.W.nsIn K mainGlobals "applied" = some (some (.ref a17)))
    (l17 : K.lookup a17 = some ⟨oc17, od17, .func (PySem.W.fnOf "applied" "applied" (defArgs s_applied) (defBody s_applied) (defScope s_applied) .none kV17 dc17 pm17 an17 cd17 ct17), sl17⟩)
    (c17 : PySem.W.codeIn K cd17 "applied" = true) (k17 : PySem.W.keepIn K (.ref a17) = true)
    (n18 : PySem.W.nsIn K mainGlobals "endless_pairs" = some (some (.ref a18)))
    (l18 : K.lookup a18 = some ⟨oc18, od18, .func (PySem.W.fnOf "endless_pairs" "endless_pairs" (defArgs s_endless_pairs) (defBody s_endless_pairs) (defScope s_endless_pairs) .none kV18 dc18 pm18 an18 cd18 ct18), sl18⟩)
    (c18 : PySem.W.codeIn K cd18 "endless_pairs" = true) (k18 : PySem.W.keepIn K (.ref a18) = true)
    (n19 : PySem.W.nsIn K mainGlobals "find_ends" = some (some (.ref a19)))
    (l19 : K.lookup a19 = some ⟨oc19, od19, .func (PySem.W.fnOf "find_ends" "find_ends" (defArgs s_find_ends) (defBody s_find_ends) (defScope s_find_ends) .none kV19 dc19 pm19 an19 cd19 ct19), sl19⟩)
    (c19 : PySem.W.codeIn K cd19 "find_ends" = true) (k19 : PySem.W.keepIn K (.ref a19) = true)
    (n20 : PySem.W.nsIn K mainGlobals "followed" = some (some (.ref a20)))
    (l20 : K.lookup a20 = some ⟨oc20, od20, .func (PySem.W.fnOf "followed" "followed" (defArgs s_followed) (defBody s_followed) (defScope s_followed) .none kV20 dc20 pm20 an20 cd20 ct20), sl20⟩)
    (c20 : PySem.W.codeIn K cd20 "followed" = true) (k20 : PySem.W.keepIn K (.ref a20) = true)
    (n21 : PySem.W.nsIn K mainGlobals "set_line" = some (some (.ref a21)))
    (l21 : K.lookup a21 = some ⟨oc21, od21, .func (PySem.W.fnOf "set_line" "set_line" (defArgs s_set_line) (defBody s_set_line) (defScope s_set_line) .none kV21 dc21 pm21 an21 cd21 ct21), sl21⟩)
    (c21 : PySem.W.codeIn K cd21 "set_line" = true) (k21 : PySem.W.keepIn K (.ref a21) = true)
    (n22 : PySem.W.nsIn K mainGlobals "check_length" = some (some (.ref a22)))
    (l22 : K.lookup a22 = some ⟨oc22, od22, .func (PySem.W.fnOf "check_length" "check_length" (defArgs s_check_length) (defBody s_check_length) (defScope s_check_length) .none kV22 dc22 pm22 an22 cd22 ct22), sl22⟩)
    (c22 : PySem.W.codeIn K cd22 "check_length" = true) (k22 : PySem.W.keepIn K (.ref a22) = true)
    (n23 : PySem.W.nsIn K mainGlobals "set_row" = some (some (.ref a23)))
    (l23 : K.lookup a23 = some ⟨oc23, od23, .func (PySem.W.fnOf "set_row" "set_row" (defArgs s_set_row) (defBody s_set_row) (defScope s_set_row) .none kV23 dc23 pm23 an23 cd23 ct23), sl23⟩)
    (c23 : PySem.W.codeIn K cd23 "set_row" = true) (k23 : PySem.W.keepIn K (.ref a23) = true)
    (n24 : PySem.W.nsIn K mainGlobals "kern_of" = some (some (.ref a24)))
    (l24 : K.lookup a24 = some ⟨oc24, od24, .func (PySem.W.fnOf "kern_of" "kern_of" (defArgs s_kern_of) (defBody s_kern_of) (defScope s_kern_of) .none kV24 dc24 pm24 an24 cd24 ct24), sl24⟩)
    (c24 : PySem.W.codeIn K cd24 "kern_of" = true) (k24 : PySem.W.keepIn K (.ref a24) = true)
    (n25 : PySem.W.nsIn K mainGlobals "glyphs_and_kerns" = some (some (.ref a25)))
    (l25 : K.lookup a25 = some ⟨oc25, od25, .func (PySem.W.fnOf "glyphs_and_kerns" "glyphs_and_kerns" (defArgs s_glyphs_and_kerns) (defBody s_glyphs_and_kerns) (defScope s_glyphs_and_kerns) .none kV25 dc25 pm25 an25 cd25 ct25), sl25⟩)
    (c25 : PySem.W.codeIn K cd25 "glyphs_and_kerns" = true) (k25 : PySem.W.keepIn K (.ref a25) = true)
    (n26 : PySem.W.findIn K (.ref a4) "__init__" = some (some (.ref a26))) (fn26 : PySem.W.isFn K (.ref a26) = true)
    (l26 : K.lookup a26 = some ⟨oc26, od26, .func (PySem.W.fnOf "__init__" "Font.__init__" (defArgs s_Font___init__) (defBody s_Font___init__) (defScope s_Font___init__) .none kV26 dc26 pm26 an26 cd26 ct26), sl26⟩)
    (c26 : PySem.W.codeIn K cd26 "Font.__init__" = true) (k26 : PySem.W.keepIn K (.ref a26) = true)
    (n27 : PySem.W.findIn K (.ref a4) "__len__" = some (some (.ref a27))) (fn27 : PySem.W.isFn K (.ref a27) = true)
    (l27 : K.lookup a27 = some ⟨oc27, od27, .func (PySem.W.fnOf "__len__" "Font.__len__" (defArgs s_Font___len__) (defBody s_Font___len__) (defScope s_Font___len__) .none kV27 dc27 pm27 an27 cd27 ct27), sl27⟩)
    (c27 : PySem.W.codeIn K cd27 "Font.__len__" = true) (k27 : PySem.W.keepIn K (.ref a27) = true)
    (n28 : PySem.W.findIn K (.ref a4) "__contains__" = some (some (.ref a28))) (fn28 : PySem.W.isFn K (.ref a28) = true)
    (l28 : K.lookup a28 = some ⟨oc28, od28, .func (PySem.W.fnOf "__contains__" "Font.__contains__" (defArgs s_Font___contains__) (defBody s_Font___contains__) (defScope s_Font___contains__) .none kV28 dc28 pm28 an28 cd28 ct28), sl28⟩)
    (c28 : PySem.W.codeIn K cd28 "Font.__contains__" = true) (k28 : PySem.W.keepIn K (.ref a28) = true)
    (n29 : PySem.W.findIn K (.ref a4) "__iter__" = some (some (.ref a29))) (fn29 : PySem.W.isFn K (.ref a29) = true)
    (l29 : K.lookup a29 = some ⟨oc29, od29, .func (PySem.W.fnOf "__iter__" "Font.__iter__" (defArgs s_Font___iter__) (defBody s_Font___iter__) (defScope s_Font___iter__) .none kV29 dc29 pm29 an29 cd29 ct29), sl29⟩)
    (c29 : PySem.W.codeIn K cd29 "Font.__iter__" = true) (k29 : PySem.W.keepIn K (.ref a29) = true)
    (n30 : PySem.W.findIn K (.ref a4) "character" = some (some (.ref a30))) (fn30 : PySem.W.isFn K (.ref a30) = true)
    (l30 : K.lookup a30 = some ⟨oc30, od30, .func (PySem.W.fnOf "character" "Font.character" (defArgs s_Font_character) (defBody s_Font_character) (defScope s_Font_character) .none kV30 dc30 pm30 an30 cd30 ct30), sl30⟩)
    (c30 : PySem.W.codeIn K cd30 "Font.character" = true) (k30 : PySem.W.keepIn K (.ref a30) = true)
    (n31 : PySem.W.findIn K (.ref a4) "pixel" = some (some (.ref a31))) (fn31 : PySem.W.isFn K (.ref a31) = true)
    (l31 : K.lookup a31 = some ⟨oc31, od31, .func (PySem.W.fnOf "pixel" "Font.pixel" (defArgs s_Font_pixel) (defBody s_Font_pixel) (defScope s_Font_pixel) .none kV31 dc31 pm31 an31 cd31 ct31), sl31⟩)
    (c31 : PySem.W.codeIn K cd31 "Font.pixel" = true) (k31 : PySem.W.keepIn K (.ref a31) = true)
    (n32 : PySem.W.findIn K (.ref a4) "table" = some (some (.ref a32))) (fn32 : PySem.W.isFn K (.ref a32) = true)
    (l32 : K.lookup a32 = some ⟨oc32, od32, .func (PySem.W.fnOf "table" "Font.table" (defArgs s_Font_table) (defBody s_Font_table) (defScope s_Font_table) .none kV32 dc32 pm32 an32 cd32 ct32), sl32⟩)
    (c32 : PySem.W.codeIn K cd32 "Font.table" = true) (k32 : PySem.W.keepIn K (.ref a32) = true)
    (n33 : PySem.W.findIn K (.ref a4) "table_value" = some (some (.ref a33))) (fn33 : PySem.W.isFn K (.ref a33) = true)
    (l33 : K.lookup a33 = some ⟨oc33, od33, .func (PySem.W.fnOf "table_value" "Font.table_value" (defArgs s_Font_table_value) (defBody s_Font_table_value) (defScope s_Font_table_value) .none kV33 dc33 pm33 an33 cd33 ct33), sl33⟩)
    (c33 : PySem.W.codeIn K cd33 "Font.table_value" = true) (k33 : PySem.W.keepIn K (.ref a33) = true)
    (n34 : PySem.W.findIn K (.ref a4) "_metric_values" = some (some (.ref a34))) (fn34 : PySem.W.isFn K (.ref a34) = true)
    (l34 : K.lookup a34 = some ⟨oc34, od34, .func (PySem.W.fnOf "_metric_values" "Font._metric_values" (defArgs s_Font__metric_values) (defBody s_Font__metric_values) (defScope s_Font__metric_values) .none kV34 dc34 pm34 an34 cd34 ct34), sl34⟩)
    (c34 : PySem.W.codeIn K cd34 "Font._metric_values" = true) (k34 : PySem.W.keepIn K (.ref a34) = true)
    (n35 : PySem.W.findIn K (.ref a4) "line" = some (some (.ref a35))) (fn35 : PySem.W.isFn K (.ref a35) = true)
    (l35 : K.lookup a35 = some ⟨oc35, od35, .func (PySem.W.fnOf "line" "Font.line" (defArgs s_Font_line) (defBody s_Font_line) (defScope s_Font_line) .none kV35 dc35 pm35 an35 cd35 ct35), sl35⟩)
    (c35 : PySem.W.codeIn K cd35 "Font.line" = true) (k35 : PySem.W.keepIn K (.ref a35) = true)
    (n36 : PySem.W.findIn K (.ref a4) "width" = some (some (.ref a36))) (fn36 : PySem.W.isFn K (.ref a36) = true)
    (l36 : K.lookup a36 = some ⟨oc36, od36, .func (PySem.W.fnOf "width" "Font.width" (defArgs s_Font_width) (defBody s_Font_width) (defScope s_Font_width) .none kV36 dc36 pm36 an36 cd36 ct36), sl36⟩)
    (c36 : PySem.W.codeIn K cd36 "Font.width" = true) (k36 : PySem.W.keepIn K (.ref a36) = true)
    (n37 : PySem.W.findIn K (.ref a4) "positions" = some (some (.ref a37))) (fn37 : PySem.W.isFn K (.ref a37) = true)
    (l37 : K.lookup a37 = some ⟨oc37, od37, .func (PySem.W.fnOf "positions" "Font.positions" (defArgs s_Font_positions) (defBody s_Font_positions) (defScope s_Font_positions) .none kV37 dc37 pm37 an37 cd37 ct37), sl37⟩)
    (c37 : PySem.W.codeIn K cd37 "Font.positions" = true) (k37 : PySem.W.keepIn K (.ref a37) = true)
    (n38 : PySem.W.findIn K (.ref a4) "_widths" = some (some (.ref a38))) (fn38 : PySem.W.isFn K (.ref a38) = true)
    (l38 : K.lookup a38 = some ⟨oc38, od38, .func (PySem.W.fnOf "_widths" "Font._widths" (defArgs s_Font__widths) (defBody s_Font__widths) (defScope s_Font__widths) .none kV38 dc38 pm38 an38 cd38 ct38), sl38⟩)
    (c38 : PySem.W.codeIn K cd38 "Font._widths" = true) (k38 : PySem.W.keepIn K (.ref a38) = true)
    (n39 : PySem.W.nsIn K mainGlobals "_law_cell" = some (some (.ref a39)))
    (l39 : K.lookup a39 = some ⟨oc39, od39, .func (PySem.W.fnOf "_law_cell" "_law_cell" (defArgs s__law_cell) (defBody s__law_cell) (defScope s__law_cell) .none kV39 dc39 pm39 an39 cd39 ct39), sl39⟩)
    (c39 : PySem.W.codeIn K cd39 "_law_cell" = true) (k39 : PySem.W.keepIn K (.ref a39) = true)
    (n40 : PySem.W.nsIn K mainGlobals "_law_stream" = some (some (.ref a40)))
    (l40 : K.lookup a40 = some ⟨oc40, od40, .func (PySem.W.fnOf "_law_stream" "_law_stream" (defArgs s__law_stream) (defBody s__law_stream) (defScope s__law_stream) .none kV40 dc40 pm40 an40 cd40 ct40), sl40⟩)
    (c40 : PySem.W.codeIn K cd40 "_law_stream" = true) (k40 : PySem.W.keepIn K (.ref a40) = true)
    (n41 : PySem.W.nsIn K mainGlobals "_law_next" = some (some (.ref a41)))
    (l41 : K.lookup a41 = some ⟨oc41, od41, .func (PySem.W.fnOf "_law_next" "_law_next" (defArgs s__law_next) (defBody s__law_next) (defScope s__law_next) .none kV41 dc41 pm41 an41 cd41 ct41), sl41⟩)
    (c41 : PySem.W.codeIn K cd41 "_law_next" = true) (k41 : PySem.W.keepIn K (.ref a41) = true)
    (n42 : PySem.W.nsIn K mainGlobals "_law_is_integer" = some (some (.ref a42)))
    (l42 : K.lookup a42 = some ⟨oc42, od42, .func (PySem.W.fnOf "_law_is_integer" "_law_is_integer" (defArgs s__law_is_integer) (defBody s__law_is_integer) (defScope s__law_is_integer) .none kV42 dc42 pm42 an42 cd42 ct42), sl42⟩)
    (c42 : PySem.W.codeIn K cd42 "_law_is_integer" = true) (k42 : PySem.W.keepIn K (.ref a42) = true)
    (n43 : PySem.W.nsIn K mainGlobals "_law_ascending" = some (some (.ref a43)))
    (l43 : K.lookup a43 = some ⟨oc43, od43, .func (PySem.W.fnOf "_law_ascending" "_law_ascending" (defArgs s__law_ascending) (defBody s__law_ascending) (defScope s__law_ascending) .none kV43 dc43 pm43 an43 cd43 ct43), sl43⟩)
    (c43 : PySem.W.codeIn K cd43 "_law_ascending" = true) (k43 : PySem.W.keepIn K (.ref a43) = true)
    (n44 : PySem.W.nsIn K mainGlobals "_law_greedy" = some (some (.ref a44)))
    (l44 : K.lookup a44 = some ⟨oc44, od44, .func (PySem.W.fnOf "_law_greedy" "_law_greedy" (defArgs s__law_greedy) (defBody s__law_greedy) (defScope s__law_greedy) .none kV44 dc44 pm44 an44 cd44 ct44), sl44⟩)
    (c44 : PySem.W.codeIn K cd44 "_law_greedy" = true) (k44 : PySem.W.keepIn K (.ref a44) = true)
    (n45 : PySem.W.nsIn K mainGlobals "_law_table" = some (some (.ref a45)))
    (l45 : K.lookup a45 = some ⟨oc45, od45, .func (PySem.W.fnOf "_law_table" "_law_table" (defArgs s__law_table) (defBody s__law_table) (defScope s__law_table) .none kV45 dc45 pm45 an45 cd45 ct45), sl45⟩)
    (c45 : PySem.W.codeIn K cd45 "_law_table" = true) (k45 : PySem.W.keepIn K (.ref a45) = true)
    (n46 : PySem.W.nsIn K mainGlobals "_law_middle" = some (some (.ref a46)))
    (l46 : K.lookup a46 = some ⟨oc46, od46, .func (PySem.W.fnOf "_law_middle" "_law_middle" (defArgs s__law_middle) (defBody s__law_middle) (defScope s__law_middle) .none kV46 dc46 pm46 an46 cd46 ct46), sl46⟩)
    (c46 : PySem.W.codeIn K cd46 "_law_middle" = true) (k46 : PySem.W.keepIn K (.ref a46) = true)
    (n47 : PySem.W.nsIn K mainGlobals "_law_refuses" = some (some (.ref a47)))
    (l47 : K.lookup a47 = some ⟨oc47, od47, .func (PySem.W.fnOf "_law_refuses" "_law_refuses" (defArgs s__law_refuses) (defBody s__law_refuses) (defScope s__law_refuses) .none kV47 dc47 pm47 an47 cd47 ct47), sl47⟩)
    (c47 : PySem.W.codeIn K cd47 "_law_refuses" = true) (k47 : PySem.W.keepIn K (.ref a47) = true)
    (n48 : PySem.W.nsIn K mainGlobals "_law_too_long" = some (some (.ref a48)))
    (l48 : K.lookup a48 = some ⟨oc48, od48, .func (PySem.W.fnOf "_law_too_long" "_law_too_long" (defArgs s__law_too_long) (defBody s__law_too_long) (defScope s__law_too_long) .none kV48 dc48 pm48 an48 cd48 ct48), sl48⟩)
    (c48 : PySem.W.codeIn K cd48 "_law_too_long" = true) (k48 : PySem.W.keepIn K (.ref a48) = true)
    (n49 : PySem.W.nsIn K mainGlobals "_law_kern" = some (some (.ref a49)))
    (l49 : K.lookup a49 = some ⟨oc49, od49, .func (PySem.W.fnOf "_law_kern" "_law_kern" (defArgs s__law_kern) (defBody s__law_kern) (defScope s__law_kern) .none kV49 dc49 pm49 an49 cd49 ct49), sl49⟩)
    (c49 : PySem.W.codeIn K cd49 "_law_kern" = true) (k49 : PySem.W.keepIn K (.ref a49) = true)
    (n50 : PySem.W.nsIn K mainGlobals "law" = some (some (.ref a50)))
    (l50 : K.lookup a50 = some ⟨oc50, od50, .func (PySem.W.fnOf "law" "law" (defArgs s_law) (defBody s_law) (defScope s_law) .none kV50 dc50 pm50 an50 cd50 ct50), sl50⟩)
    (c50 : PySem.W.codeIn K cd50 "law" = true) (k50 : PySem.W.keepIn K (.ref a50) = true)
    (ng4 : PySem.W.nsIn K mainGlobals "Font" = some (some (.ref a4)))
    (pg4 : PySem.W.plainGet K a4 Str.empty = true) (hd4 : PySem.W.hasDictIn K a4 = true) (po4 : PySem.W.plainOver K a4 = true) (sa4 : PySem.W.findIn K (.ref a4) "__setattr__" = some (some (.builtin "object.__setattr__"))) (mk4 : PySem.W.makesIn K a4 = true) (kc4 : PySem.W.keepIn K (.ref a4) = true)
    (na4_characters : PySem.W.findIn K (.ref a4) "characters" = some none)
    (na4_steps : PySem.W.findIn K (.ref a4) "steps" = some none)
    (na4_labels : PySem.W.findIn K (.ref a4) "labels" = some none)
    (sf4 : PySem.W.selfFirst K a4 = true)
    (xg0 : PySem.W.nsIn K mainGlobals "FontError" = some (some (.ref a0))) (xq0 : PySem.W.excIn K a0 [.type "ValueError", .type "Exception", .type "BaseException", .type "object"] "ValueError.__new__" = true) (xk0 : PySem.W.keepIn K (.ref a0) = true) (xt0 : PySem.W.typeIn K (.ref a0) = some (.type "type"))
    (xa0 : PySem.W.findIn K (.ref a0) "__getattribute__" = some (some (.builtin "BaseException.__getattribute__"))) (xb0 : PySem.W.findIn K (.ref a0) "__getattr__" = some none) (xc0 : PySem.W.subIn K (.ref a0) (.type "BaseException") = some true) (xd0 : PySem.W.hasDictIn K a0 = true)
    (xe0 : PySem.W.findIn K (.ref a0) "__class__" = some (some (.builtin "object.__class__"))) (xf0 : PySem.W.mroIn K a0 (.type "object") = some true) (xv0 : PySem.W.subIn K (.ref a0) (.type "ValueError") = some true)
    (xg1 : PySem.W.nsIn K mainGlobals "OutOfRange" = some (some (.ref a1))) (xq1 : PySem.W.excIn K a1 [.type "ValueError", .type "Exception", .type "BaseException", .type "object"] "ValueError.__new__" = true) (xk1 : PySem.W.keepIn K (.ref a1) = true) (xt1 : PySem.W.typeIn K (.ref a1) = some (.type "type"))
    (xa1 : PySem.W.findIn K (.ref a1) "__getattribute__" = some (some (.builtin "BaseException.__getattribute__"))) (xb1 : PySem.W.findIn K (.ref a1) "__getattr__" = some none) (xc1 : PySem.W.subIn K (.ref a1) (.type "BaseException") = some true) (xd1 : PySem.W.hasDictIn K a1 = true)
    (xe1 : PySem.W.findIn K (.ref a1) "__class__" = some (some (.builtin "object.__class__"))) (xf1 : PySem.W.mroIn K a1 (.type "object") = some true) (xv1 : PySem.W.subIn K (.ref a1) (.type "ValueError") = some true)
    (xg2 : PySem.W.nsIn K mainGlobals "TooLong" = some (some (.ref a2))) (xq2 : PySem.W.excIn K a2 [.type "ValueError", .type "Exception", .type "BaseException", .type "object"] "ValueError.__new__" = true) (xk2 : PySem.W.keepIn K (.ref a2) = true) (xt2 : PySem.W.typeIn K (.ref a2) = some (.type "type"))
    (xa2 : PySem.W.findIn K (.ref a2) "__getattribute__" = some (some (.builtin "BaseException.__getattribute__"))) (xb2 : PySem.W.findIn K (.ref a2) "__getattr__" = some none) (xc2 : PySem.W.subIn K (.ref a2) (.type "BaseException") = some true) (xd2 : PySem.W.hasDictIn K a2 = true)
    (xe2 : PySem.W.findIn K (.ref a2) "__class__" = some (some (.builtin "object.__class__"))) (xf2 : PySem.W.mroIn K a2 (.type "object") = some true) (xv2 : PySem.W.subIn K (.ref a2) (.type "ValueError") = some true)
    (xg3 : PySem.W.nsIn K mainGlobals "EndlessPair" = some (some (.ref a3))) (xq3 : PySem.W.excIn K a3 [.type "ValueError", .type "Exception", .type "BaseException", .type "object"] "ValueError.__new__" = true) (xk3 : PySem.W.keepIn K (.ref a3) = true) (xt3 : PySem.W.typeIn K (.ref a3) = some (.type "type"))
    (xa3 : PySem.W.findIn K (.ref a3) "__getattribute__" = some (some (.builtin "BaseException.__getattribute__"))) (xb3 : PySem.W.findIn K (.ref a3) "__getattr__" = some none) (xc3 : PySem.W.subIn K (.ref a3) (.type "BaseException") = some true) (xd3 : PySem.W.hasDictIn K a3 = true)
    (xe3 : PySem.W.findIn K (.ref a3) "__class__" = some (some (.builtin "object.__class__"))) (xf3 : PySem.W.mroIn K a3 (.type "object") = some true) (xv3 : PySem.W.subIn K (.ref a3) (.type "ValueError") = some true)
    (xm : PySem.W.specialIn K (.builtin "object.__class__") "__get__" = some (some (.builtin "getset_descriptor.__get__"))) (xn : PySem.W.takesIn K (.builtin "object.__class__") = some true)
    (e0_0 : PySem.W.subIn K (.ref a0) (.ref a0) = some true)
    (e0_1 : PySem.W.subIn K (.ref a0) (.ref a1) = some false)
    (e0_2 : PySem.W.subIn K (.ref a0) (.ref a2) = some false)
    (e0_3 : PySem.W.subIn K (.ref a0) (.ref a3) = some false)
    (e1_0 : PySem.W.subIn K (.ref a1) (.ref a0) = some true)
    (e1_1 : PySem.W.subIn K (.ref a1) (.ref a1) = some true)
    (e1_2 : PySem.W.subIn K (.ref a1) (.ref a2) = some false)
    (e1_3 : PySem.W.subIn K (.ref a1) (.ref a3) = some false)
    (e2_0 : PySem.W.subIn K (.ref a2) (.ref a0) = some true)
    (e2_1 : PySem.W.subIn K (.ref a2) (.ref a1) = some false)
    (e2_2 : PySem.W.subIn K (.ref a2) (.ref a2) = some true)
    (e2_3 : PySem.W.subIn K (.ref a2) (.ref a3) = some false)
    (e3_0 : PySem.W.subIn K (.ref a3) (.ref a0) = some true)
    (e3_1 : PySem.W.subIn K (.ref a3) (.ref a1) = some false)
    (e3_2 : PySem.W.subIn K (.ref a3) (.ref a2) = some false)
    (e3_3 : PySem.W.subIn K (.ref a3) (.ref a3) = some true)
    (na_table_metrics : PySem.W.nsIn K mainGlobals "table_metrics" = some (some (.ref a11)))
    (na_table_value_metrics : PySem.W.nsIn K mainGlobals "table_value_metrics" = some (some (.ref a12)))
    (z_bool : PySem.W.nsIn K mainGlobals "bool" = some none)
    (z_int : PySem.W.nsIn K mainGlobals "int" = some none)
    (z_isinstance : PySem.W.nsIn K mainGlobals "isinstance" = some none)
    (z_iter : PySem.W.nsIn K mainGlobals "iter" = some none)
    (z_len : PySem.W.nsIn K mainGlobals "len" = some none)
    (z_list : PySem.W.nsIn K mainGlobals "list" = some none)
    (z_range : PySem.W.nsIn K mainGlobals "range" = some none)
    (z_sorted : PySem.W.nsIn K mainGlobals "sorted" = some none)
    (z_sum : PySem.W.nsIn K mainGlobals "sum" = some none)
    (z_tuple : PySem.W.nsIn K mainGlobals "tuple" = some none)
    (z_zip : PySem.W.nsIn K mainGlobals "zip" = some none)
    (c_EDGE : PySem.W.nsIn K mainGlobals "EDGE" = some (some (.int (128) t_EDGE)))
    (c_MOST_ITEMS : PySem.W.nsIn K mainGlobals "MOST_ITEMS" = some (some (.int (400) t_MOST_ITEMS)))
    (c_WIDTH : PySem.W.nsIn K mainGlobals "WIDTH" = some (some (.int (0) t_WIDTH)))
    (ntLIMITS : PySem.W.nsIn K mainGlobals "LIMITS" = some (some (.ref a51)))
    (ktLIMITS_0 : K.lookup a51 = some ⟨.type "tuple", odLIMITS_0, .seq (List.toArray [.int (8) tLIMITS_0_0, .int (4) tLIMITS_0_1, .int (3) tLIMITS_0_2, .int (2) tLIMITS_0_3]) nnLIMITS_0, slLIMITS_0⟩)
    : ∃ fd : FuncData, (∀ (s : Shared) (v : Value), BindsTo s fd ⟨[v], []⟩ [("script", v)]) ∧ ∀ base : Heap, K.In base → base.Ns mainGlobals mg → FnOk l.prog w K mg base CX0 9 fa fd ["script"] (sp_law K) := by
  have e := hfa.symm.trans (PySem.W.mg_of X G n50)
  cases e
  have F5 := fun_mk (st := s_groups) l5 c5 k5
  have b5 := F5.binds (ps := ["values", "tolerance"]) fun _ _ _ _ _ _ us hl => match us, hl with | [_, _], _ => rfl
  have F6 := fun_mk (st := s_values_in_order) l6 c6 k6
  have b6 := F6.binds (ps := ["values"]) fun _ _ _ _ _ _ us hl => match us, hl with | [_], _ => rfl
  have F7 := fun_mk (st := s_groups_in_order) l7 c7 k7
  have b7 := F7.binds (ps := ["values", "tolerance"]) fun _ _ _ _ _ _ us hl => match us, hl with | [_, _], _ => rfl
  have F8 := fun_mk (st := s_least_tolerance) l8 c8 k8
  have b8 := F8.binds (ps := ["values", "limit"]) fun _ _ _ _ _ _ us hl => match us, hl with | [_, _], _ => rfl
  have F9 := fun_mk (st := s_table_groups) l9 c9 k9
  have b9 := F9.binds (ps := ["values", "limit"]) fun _ _ _ _ _ _ us hl => match us, hl with | [_, _], _ => rfl
  have F10 := fun_mk (st := s_group_value) l10 c10 k10
  have b10 := F10.binds (ps := ["group"]) fun _ _ _ _ _ _ us hl => match us, hl with | [_], _ => rfl
  have F11 := fun_mk (st := s_table) l11 c11 k11
  have b11 := F11.binds (ps := ["values", "limit"]) fun _ _ _ _ _ _ us hl => match us, hl with | [_, _], _ => rfl
  have F12 := fun_mk (st := s_table_value) l12 c12 k12
  have b12 := F12.binds (ps := ["values", "limit", "value"]) fun _ _ _ _ _ _ us hl => match us, hl with | [_, _, _], _ => rfl
  have F13 := fun_mk (st := s_rule) l13 c13 k13
  have b13 := F13.binds (ps := ["steps", "labels", "left", "right"]) fun _ _ _ _ _ _ us hl => match us, hl with | [_, _, _, _], _ => rfl
  have F14 := fun_mk (st := s_action_from) l14 c14 k14
  have b14 := F14.binds (ps := ["steps", "index", "right"]) fun _ _ _ _ _ _ us hl => match us, hl with | [_, _, _], _ => rfl
  have F15 := fun_mk (st := s_rules_of) l15 c15 k15
  have b15 := F15.binds (ps := ["steps", "labels"]) fun _ _ _ _ _ _ us hl => match us, hl with | [_, _], _ => rfl
  have F16 := fun_mk (st := s_pairs_with_steps) l16 c16 k16
  have b16 := F16.binds (ps := ["steps", "labels"]) fun _ _ _ _ _ _ us hl => match us, hl with | [_, _], _ => rfl
  have F17 := fun_mk (st := s_applied) l17 c17 k17
  have b17 := F17.binds (ps := ["left", "right", "action"]) fun _ _ _ _ _ _ us hl => match us, hl with | [_, _, _], _ => rfl
  have F18 := fun_mk (st := s_endless_pairs) l18 c18 k18
  have b18 := F18.binds (ps := ["steps", "labels"]) fun _ _ _ _ _ _ us hl => match us, hl with | [_, _], _ => rfl
  have F19 := fun_mk (st := s_find_ends) l19 c19 k19
  have b19 := F19.binds (ps := ["steps", "labels", "pair", "ends"]) fun _ _ _ _ _ _ us hl => match us, hl with | [_, _, _, _], _ => rfl
  have F20 := fun_mk (st := s_followed) l20 c20 k20
  have b20 := F20.binds (ps := ["items", "ends"]) fun _ _ _ _ _ _ us hl => match us, hl with | [_, _], _ => rfl
  have F21 := fun_mk (st := s_set_line) l21 c21 k21
  have b21 := F21.binds (ps := ["steps", "labels", "codes"]) fun _ _ _ _ _ _ us hl => match us, hl with | [_, _, _], _ => rfl
  have F22 := fun_mk (st := s_check_length) l22 c22 k22
  have b22 := F22.binds (ps := ["count"]) fun _ _ _ _ _ _ us hl => match us, hl with | [_], _ => rfl
  have F23 := fun_mk (st := s_set_row) l23 c23 k23
  have b23 := F23.binds (ps := ["rules", "codes"]) fun _ _ _ _ _ _ us hl => match us, hl with | [_, _], _ => rfl
  have F24 := fun_mk (st := s_kern_of) l24 c24 k24
  have b24 := F24.binds (ps := ["action"]) fun _ _ _ _ _ _ us hl => match us, hl with | [_], _ => rfl
  have F25 := fun_mk (st := s_glyphs_and_kerns) l25 c25 k25
  have b25 := F25.binds (ps := ["row"]) fun _ _ _ _ _ _ us hl => match us, hl with | [_], _ => rfl
  have F26 := fun_mk (st := s_Font___init__) l26 c26 k26
  have b26 := F26.binds (ps := ["self", "characters", "steps", "labels"]) fun _ _ _ _ _ _ us hl => match us, hl with | [_, _, _, _], _ => rfl
  have F27 := fun_mk (st := s_Font___len__) l27 c27 k27
  have b27 := F27.binds (ps := ["self"]) fun _ _ _ _ _ _ us hl => match us, hl with | [_], _ => rfl
  have F28 := fun_mk (st := s_Font___contains__) l28 c28 k28
  have b28 := F28.binds (ps := ["self", "code"]) fun _ _ _ _ _ _ us hl => match us, hl with | [_, _], _ => rfl
  have F29 := fun_mk (st := s_Font___iter__) l29 c29 k29
  have b29 := F29.binds (ps := ["self"]) fun _ _ _ _ _ _ us hl => match us, hl with | [_], _ => rfl
  have F30 := fun_mk (st := s_Font_character) l30 c30 k30
  have b30 := F30.binds (ps := ["self", "code"]) fun _ _ _ _ _ _ us hl => match us, hl with | [_, _], _ => rfl
  have F31 := fun_mk (st := s_Font_pixel) l31 c31 k31
  have b31 := F31.binds (ps := ["self", "code", "i", "j"]) fun _ _ _ _ _ _ us hl => match us, hl with | [_, _, _, _], _ => rfl
  have F32 := fun_mk (st := s_Font_table) l32 c32 k32
  have b32 := F32.binds (ps := ["self", "metric"]) fun _ _ _ _ _ _ us hl => match us, hl with | [_, _], _ => rfl
  have F33 := fun_mk (st := s_Font_table_value) l33 c33 k33
  have b33 := F33.binds (ps := ["self", "code", "metric"]) fun _ _ _ _ _ _ us hl => match us, hl with | [_, _, _], _ => rfl
  have F34 := fun_mk (st := s_Font__metric_values) l34 c34 k34
  have b34 := F34.binds (ps := ["self", "metric"]) fun _ _ _ _ _ _ us hl => match us, hl with | [_, _], _ => rfl
  have F35 := fun_mk (st := s_Font_line) l35 c35 k35
  have b35 := F35.binds (ps := ["self", "codes"]) fun _ _ _ _ _ _ us hl => match us, hl with | [_, _], _ => rfl
  have F36 := fun_mk (st := s_Font_width) l36 c36 k36
  have b36 := F36.binds (ps := ["self", "codes"]) fun _ _ _ _ _ _ us hl => match us, hl with | [_, _], _ => rfl
  have F37 := fun_mk (st := s_Font_positions) l37 c37 k37
  have b37 := F37.binds (ps := ["self", "codes"]) fun _ _ _ _ _ _ us hl => match us, hl with | [_, _], _ => rfl
  have F38 := fun_mk (st := s_Font__widths) l38 c38 k38
  have b38 := F38.binds (ps := ["self"]) fun _ _ _ _ _ _ us hl => match us, hl with | [_], _ => rfl
  have F39 := fun_mk (st := s__law_cell) l39 c39 k39
  have b39 := F39.binds (ps := ["script", "k"]) fun _ _ _ _ _ _ us hl => match us, hl with | [_, _], _ => rfl
  have F40 := fun_mk (st := s__law_stream) l40 c40 k40
  have b40 := F40.binds (ps := ["cell"]) fun _ _ _ _ _ _ us hl => match us, hl with | [_], _ => rfl
  have F41 := fun_mk (st := s__law_next) l41 c41 k41
  have b41 := F41.binds (ps := ["stream", "size"]) fun _ _ _ _ _ _ us hl => match us, hl with | [_, _], _ => rfl
  have F42 := fun_mk (st := s__law_is_integer) l42 c42 k42
  have b42 := F42.binds (ps := ["actual"]) fun _ _ _ _ _ _ us hl => match us, hl with | [_], _ => rfl
  have F43 := fun_mk (st := s__law_ascending) l43 c43 k43
  have b43 := F43.binds (ps := ["values"]) fun _ _ _ _ _ _ us hl => match us, hl with | [_], _ => rfl
  have F44 := fun_mk (st := s__law_greedy) l44 c44 k44
  have b44 := F44.binds (ps := ["rest", "e"]) fun _ _ _ _ _ _ us hl => match us, hl with | [_, _], _ => rfl
  have F45 := fun_mk (st := s__law_table) l45 c45 k45
  have b45 := F45.binds (ps := ["values", "limit"]) fun _ _ _ _ _ _ us hl => match us, hl with | [_, _], _ => rfl
  have F46 := fun_mk (st := s__law_middle) l46 c46 k46
  have b46 := F46.binds (ps := ["found", "value"]) fun _ _ _ _ _ _ us hl => match us, hl with | [_, _], _ => rfl
  have F47 := fun_mk (st := s__law_refuses) l47 c47 k47
  have b47 := F47.binds (ps := ["font", "code"]) fun _ _ _ _ _ _ us hl => match us, hl with | [_, _], _ => rfl
  have F48 := fun_mk (st := s__law_too_long) l48 c48 k48
  have b48 := F48.binds (ps := ["font", "codes"]) fun _ _ _ _ _ _ us hl => match us, hl with | [_, _], _ => rfl
  have F49 := fun_mk (st := s__law_kern) l49 c49 k49
  have b49 := F49.binds (ps := ["steps", "labels", "left", "right"]) fun _ _ _ _ _ _ us hl => match us, hl with | [_, _, _, _], _ => rfl
  have F50 := fun_mk (st := s_law) l50 c50 k50
  have b50 := F50.binds (ps := ["script"]) fun _ _ _ _ _ _ us hl => match us, hl with | [_], _ => rfl
  let A : Nat → Addr := fun | 0 => a0 | 1 => a1 | 2 => a2 | 3 => a3 | 4 => a4 | 5 => a5 | 6 => a6 | 7 => a7 | 8 => a8 | 9 => a9 | 10 => a10 | 11 => a11 | 12 => a12 | 13 => a13 | 14 => a14 | 15 => a15 | 16 => a16 | 17 => a17 | 18 => a18 | 19 => a19 | 20 => a20 | 21 => a21 | 22 => a22 | 23 => a23 | 24 => a24 | 25 => a25 | 26 => a26 | 27 => a27 | 28 => a28 | 29 => a29 | 30 => a30 | 31 => a31 | 32 => a32 | 33 => a33 | 34 => a34 | 35 => a35 | 36 => a36 | 37 => a37 | 38 => a38 | 39 => a39 | 40 => a40 | 41 => a41 | 42 => a42 | 43 => a43 | 44 => a44 | 45 => a45 | 46 => a46 | 47 => a47 | 48 => a48 | 49 => a49 | 50 => fa | 51 => a51 | _ => 0
  let D : Nat → FuncData := fun | 5 => PySem.W.fnOf "groups" "groups" (defArgs s_groups) (defBody s_groups) (defScope s_groups) .none kV5 dc5 pm5 an5 cd5 ct5 | 6 => PySem.W.fnOf "values_in_order" "values_in_order" (defArgs s_values_in_order) (defBody s_values_in_order) (defScope s_values_in_order) .none kV6 dc6 pm6 an6 cd6 ct6 | 7 => PySem.W.fnOf "groups_in_order" "groups_in_order" (defArgs s_groups_in_order) (defBody s_groups_in_order) (defScope s_groups_in_order) .none kV7 dc7 pm7 an7 cd7 ct7 | 8 => PySem.W.fnOf "least_tolerance" "least_tolerance" (defArgs s_least_tolerance) (defBody s_least_tolerance) (defScope s_least_tolerance) .none kV8 dc8 pm8 an8 cd8 ct8 | 9 => PySem.W.fnOf "table_groups" "table_groups" (defArgs s_table_groups) (defBody s_table_groups) (defScope s_table_groups) .none kV9 dc9 pm9 an9 cd9 ct9 | 10 => PySem.W.fnOf "group_value" "group_value" (defArgs s_group_value) (defBody s_group_value) (defScope s_group_value) .none kV10 dc10 pm10 an10 cd10 ct10 | 11 => PySem.W.fnOf "table" "table" (defArgs s_table) (defBody s_table) (defScope s_table) .none kV11 dc11 pm11 an11 cd11 ct11 | 12 => PySem.W.fnOf "table_value" "table_value" (defArgs s_table_value) (defBody s_table_value) (defScope s_table_value) .none kV12 dc12 pm12 an12 cd12 ct12 | 13 => PySem.W.fnOf "rule" "rule" (defArgs s_rule) (defBody s_rule) (defScope s_rule) .none kV13 dc13 pm13 an13 cd13 ct13 | 14 => PySem.W.fnOf "action_from" "action_from" (defArgs s_action_from) (defBody s_action_from) (defScope s_action_from) .none kV14 dc14 pm14 an14 cd14 ct14 | 15 => PySem.W.fnOf "rules_of" "rules_of" (defArgs s_rules_of) (defBody s_rules_of) (defScope s_rules_of) .none kV15 dc15 pm15 an15 cd15 ct15 | 16 => PySem.W.fnOf "pairs_with_steps" "pairs_with_steps" (defArgs s_pairs_with_steps) (defBody s_pairs_with_steps) (defScope s_pairs_with_steps) .none kV16 dc16 pm16 an16 cd16 ct16 | 17 => PySem.W.fnOf "applied" "applied" (defArgs s_applied) (defBody s_applied) (defScope s_applied) .none kV17 dc17 pm17 an17 cd17 ct17 | 18 => PySem.W.fnOf "endless_pairs" "endless_pairs" (defArgs s_endless_pairs) (defBody s_endless_pairs) (defScope s_endless_pairs) .none kV18 dc18 pm18 an18 cd18 ct18 | 19 => PySem.W.fnOf "find_ends" "find_ends" (defArgs s_find_ends) (defBody s_find_ends) (defScope s_find_ends) .none kV19 dc19 pm19 an19 cd19 ct19 | 20 => PySem.W.fnOf "followed" "followed" (defArgs s_followed) (defBody s_followed) (defScope s_followed) .none kV20 dc20 pm20 an20 cd20 ct20 | 21 => PySem.W.fnOf "set_line" "set_line" (defArgs s_set_line) (defBody s_set_line) (defScope s_set_line) .none kV21 dc21 pm21 an21 cd21 ct21 | 22 => PySem.W.fnOf "check_length" "check_length" (defArgs s_check_length) (defBody s_check_length) (defScope s_check_length) .none kV22 dc22 pm22 an22 cd22 ct22 | 23 => PySem.W.fnOf "set_row" "set_row" (defArgs s_set_row) (defBody s_set_row) (defScope s_set_row) .none kV23 dc23 pm23 an23 cd23 ct23 | 24 => PySem.W.fnOf "kern_of" "kern_of" (defArgs s_kern_of) (defBody s_kern_of) (defScope s_kern_of) .none kV24 dc24 pm24 an24 cd24 ct24 | 25 => PySem.W.fnOf "glyphs_and_kerns" "glyphs_and_kerns" (defArgs s_glyphs_and_kerns) (defBody s_glyphs_and_kerns) (defScope s_glyphs_and_kerns) .none kV25 dc25 pm25 an25 cd25 ct25 | 26 => PySem.W.fnOf "__init__" "Font.__init__" (defArgs s_Font___init__) (defBody s_Font___init__) (defScope s_Font___init__) .none kV26 dc26 pm26 an26 cd26 ct26 | 27 => PySem.W.fnOf "__len__" "Font.__len__" (defArgs s_Font___len__) (defBody s_Font___len__) (defScope s_Font___len__) .none kV27 dc27 pm27 an27 cd27 ct27 | 28 => PySem.W.fnOf "__contains__" "Font.__contains__" (defArgs s_Font___contains__) (defBody s_Font___contains__) (defScope s_Font___contains__) .none kV28 dc28 pm28 an28 cd28 ct28 | 29 => PySem.W.fnOf "__iter__" "Font.__iter__" (defArgs s_Font___iter__) (defBody s_Font___iter__) (defScope s_Font___iter__) .none kV29 dc29 pm29 an29 cd29 ct29 | 30 => PySem.W.fnOf "character" "Font.character" (defArgs s_Font_character) (defBody s_Font_character) (defScope s_Font_character) .none kV30 dc30 pm30 an30 cd30 ct30 | 31 => PySem.W.fnOf "pixel" "Font.pixel" (defArgs s_Font_pixel) (defBody s_Font_pixel) (defScope s_Font_pixel) .none kV31 dc31 pm31 an31 cd31 ct31 | 32 => PySem.W.fnOf "table" "Font.table" (defArgs s_Font_table) (defBody s_Font_table) (defScope s_Font_table) .none kV32 dc32 pm32 an32 cd32 ct32 | 33 => PySem.W.fnOf "table_value" "Font.table_value" (defArgs s_Font_table_value) (defBody s_Font_table_value) (defScope s_Font_table_value) .none kV33 dc33 pm33 an33 cd33 ct33 | 34 => PySem.W.fnOf "_metric_values" "Font._metric_values" (defArgs s_Font__metric_values) (defBody s_Font__metric_values) (defScope s_Font__metric_values) .none kV34 dc34 pm34 an34 cd34 ct34 | 35 => PySem.W.fnOf "line" "Font.line" (defArgs s_Font_line) (defBody s_Font_line) (defScope s_Font_line) .none kV35 dc35 pm35 an35 cd35 ct35 | 36 => PySem.W.fnOf "width" "Font.width" (defArgs s_Font_width) (defBody s_Font_width) (defScope s_Font_width) .none kV36 dc36 pm36 an36 cd36 ct36 | 37 => PySem.W.fnOf "positions" "Font.positions" (defArgs s_Font_positions) (defBody s_Font_positions) (defScope s_Font_positions) .none kV37 dc37 pm37 an37 cd37 ct37 | 38 => PySem.W.fnOf "_widths" "Font._widths" (defArgs s_Font__widths) (defBody s_Font__widths) (defScope s_Font__widths) .none kV38 dc38 pm38 an38 cd38 ct38 | 39 => PySem.W.fnOf "_law_cell" "_law_cell" (defArgs s__law_cell) (defBody s__law_cell) (defScope s__law_cell) .none kV39 dc39 pm39 an39 cd39 ct39 | 40 => PySem.W.fnOf "_law_stream" "_law_stream" (defArgs s__law_stream) (defBody s__law_stream) (defScope s__law_stream) .none kV40 dc40 pm40 an40 cd40 ct40 | 41 => PySem.W.fnOf "_law_next" "_law_next" (defArgs s__law_next) (defBody s__law_next) (defScope s__law_next) .none kV41 dc41 pm41 an41 cd41 ct41 | 42 => PySem.W.fnOf "_law_is_integer" "_law_is_integer" (defArgs s__law_is_integer) (defBody s__law_is_integer) (defScope s__law_is_integer) .none kV42 dc42 pm42 an42 cd42 ct42 | 43 => PySem.W.fnOf "_law_ascending" "_law_ascending" (defArgs s__law_ascending) (defBody s__law_ascending) (defScope s__law_ascending) .none kV43 dc43 pm43 an43 cd43 ct43 | 44 => PySem.W.fnOf "_law_greedy" "_law_greedy" (defArgs s__law_greedy) (defBody s__law_greedy) (defScope s__law_greedy) .none kV44 dc44 pm44 an44 cd44 ct44 | 45 => PySem.W.fnOf "_law_table" "_law_table" (defArgs s__law_table) (defBody s__law_table) (defScope s__law_table) .none kV45 dc45 pm45 an45 cd45 ct45 | 46 => PySem.W.fnOf "_law_middle" "_law_middle" (defArgs s__law_middle) (defBody s__law_middle) (defScope s__law_middle) .none kV46 dc46 pm46 an46 cd46 ct46 | 47 => PySem.W.fnOf "_law_refuses" "_law_refuses" (defArgs s__law_refuses) (defBody s__law_refuses) (defScope s__law_refuses) .none kV47 dc47 pm47 an47 cd47 ct47 | 48 => PySem.W.fnOf "_law_too_long" "_law_too_long" (defArgs s__law_too_long) (defBody s__law_too_long) (defScope s__law_too_long) .none kV48 dc48 pm48 an48 cd48 ct48 | 49 => PySem.W.fnOf "_law_kern" "_law_kern" (defArgs s__law_kern) (defBody s__law_kern) (defScope s__law_kern) .none kV49 dc49 pm49 an49 cd49 ct49 | _ => PySem.W.fnOf "law" "law" (defArgs s_law) (defBody s_law) (defScope s_law) .none kV50 dc50 pm50 an50 cd50 ct50
  have T : Txt K mg A D :=
    {F_groups := F5,
     m_groups := PySem.W.mg_of X G n5,
     b_groups := b5,
     F_values_in_order := F6,
     m_values_in_order := PySem.W.mg_of X G n6,
     b_values_in_order := b6,
     F_groups_in_order := F7,
     m_groups_in_order := PySem.W.mg_of X G n7,
     b_groups_in_order := b7,
     F_least_tolerance := F8,
     m_least_tolerance := PySem.W.mg_of X G n8,
     b_least_tolerance := b8,
     F_table_groups := F9,
     m_table_groups := PySem.W.mg_of X G n9,
     b_table_groups := b9,
     F_group_value := F10,
     m_group_value := PySem.W.mg_of X G n10,
     b_group_value := b10,
     F_table := F11,
     m_table := PySem.W.mg_of X G n11,
     b_table := b11,
     F_table_value := F12,
     m_table_value := PySem.W.mg_of X G n12,
     b_table_value := b12,
     F_rule := F13,
     m_rule := PySem.W.mg_of X G n13,
     b_rule := b13,
     F_action_from := F14,
     m_action_from := PySem.W.mg_of X G n14,
     b_action_from := b14,
     F_rules_of := F15,
     m_rules_of := PySem.W.mg_of X G n15,
     b_rules_of := b15,
     F_pairs_with_steps := F16,
     m_pairs_with_steps := PySem.W.mg_of X G n16,
     b_pairs_with_steps := b16,
     F_applied := F17,
     m_applied := PySem.W.mg_of X G n17,
     b_applied := b17,
     F_endless_pairs := F18,
     m_endless_pairs := PySem.W.mg_of X G n18,
     b_endless_pairs := b18,
     F_find_ends := F19,
     m_find_ends := PySem.W.mg_of X G n19,
     b_find_ends := b19,
     F_followed := F20,
     m_followed := PySem.W.mg_of X G n20,
     b_followed := b20,
     F_set_line := F21,
     m_set_line := PySem.W.mg_of X G n21,
     b_set_line := b21,
     F_check_length := F22,
     m_check_length := PySem.W.mg_of X G n22,
     b_check_length := b22,
     F_set_row := F23,
     m_set_row := PySem.W.mg_of X G n23,
     b_set_row := b23,
     F_kern_of := F24,
     m_kern_of := PySem.W.mg_of X G n24,
     b_kern_of := b24,
     F_glyphs_and_kerns := F25,
     m_glyphs_and_kerns := PySem.W.mg_of X G n25,
     b_glyphs_and_kerns := b25,
     F_Font___init__ := F26,
     b_Font___init__ := b26,
     F_Font___len__ := F27,
     m_Font___len__ := ⟨n27, fn27, k27⟩,
     b_Font___len__ := b27,
     F_Font___contains__ := F28,
     m_Font___contains__ := ⟨n28, fn28, k28⟩,
     b_Font___contains__ := b28,
     F_Font___iter__ := F29,
     m_Font___iter__ := ⟨n29, fn29, k29⟩,
     b_Font___iter__ := b29,
     F_Font_character := F30,
     m_Font_character := ⟨n30, fn30, k30⟩,
     b_Font_character := b30,
     F_Font_pixel := F31,
     m_Font_pixel := ⟨n31, fn31, k31⟩,
     b_Font_pixel := b31,
     F_Font_table := F32,
     m_Font_table := ⟨n32, fn32, k32⟩,
     b_Font_table := b32,
     F_Font_table_value := F33,
     m_Font_table_value := ⟨n33, fn33, k33⟩,
     b_Font_table_value := b33,
     F_Font__metric_values := F34,
     m_Font__metric_values := ⟨n34, fn34, k34⟩,
     b_Font__metric_values := b34,
     F_Font_line := F35,
     m_Font_line := ⟨n35, fn35, k35⟩,
     b_Font_line := b35,
     F_Font_width := F36,
     m_Font_width := ⟨n36, fn36, k36⟩,
     b_Font_width := b36,
     F_Font_positions := F37,
     m_Font_positions := ⟨n37, fn37, k37⟩,
     b_Font_positions := b37,
     F_Font__widths := F38,
     m_Font__widths := ⟨n38, fn38, k38⟩,
     b_Font__widths := b38,
     F__law_cell := F39,
     m__law_cell := PySem.W.mg_of X G n39,
     b__law_cell := b39,
     F__law_stream := F40,
     m__law_stream := PySem.W.mg_of X G n40,
     b__law_stream := b40,
     F__law_next := F41,
     m__law_next := PySem.W.mg_of X G n41,
     b__law_next := b41,
     F__law_is_integer := F42,
     m__law_is_integer := PySem.W.mg_of X G n42,
     b__law_is_integer := b42,
     F__law_ascending := F43,
     m__law_ascending := PySem.W.mg_of X G n43,
     b__law_ascending := b43,
     F__law_greedy := F44,
     m__law_greedy := PySem.W.mg_of X G n44,
     b__law_greedy := b44,
     F__law_table := F45,
     m__law_table := PySem.W.mg_of X G n45,
     b__law_table := b45,
     F__law_middle := F46,
     m__law_middle := PySem.W.mg_of X G n46,
     b__law_middle := b46,
     F__law_refuses := F47,
     m__law_refuses := PySem.W.mg_of X G n47,
     b__law_refuses := b47,
     F__law_too_long := F48,
     m__law_too_long := PySem.W.mg_of X G n48,
     b__law_too_long := b48,
     F__law_kern := F49,
     m__law_kern := PySem.W.mg_of X G n49,
     b__law_kern := b49,
     F_law := F50,
     m_law := PySem.W.mg_of X G n50,
     b_law := b50,
     q_Font := ⟨pg4, hd4, po4, sa4⟩,
     g_Font := PySem.W.mg_of X G ng4,
     M_Font := ⟨mk4, n26, fn26, kc4⟩,
     nf_Font_characters := na4_characters,
     nf_Font_steps := na4_steps,
     nf_Font_labels := na4_labels,
     sf_Font := sf4,
     m_table_metrics := PySem.W.mg_of X G na_table_metrics,
     m_table_value_metrics := PySem.W.mg_of X G na_table_value_metrics,
     x_FontError := ⟨PySem.W.mg_of X G xg0, xq0, xk0, xt0, ⟨xa0, xb0, xc0, xd0, xe0, xm, xn, xf0⟩, xv0⟩,
     x_OutOfRange := ⟨PySem.W.mg_of X G xg1, xq1, xk1, xt1, ⟨xa1, xb1, xc1, xd1, xe1, xm, xn, xf1⟩, xv1⟩,
     x_TooLong := ⟨PySem.W.mg_of X G xg2, xq2, xk2, xt2, ⟨xa2, xb2, xc2, xd2, xe2, xm, xn, xf2⟩, xv2⟩,
     x_EndlessPair := ⟨PySem.W.mg_of X G xg3, xq3, xk3, xt3, ⟨xa3, xb3, xc3, xd3, xe3, xm, xn, xf3⟩, xv3⟩,
     e_FontError_FontError := e0_0,
     e_FontError_OutOfRange := e0_1,
     e_FontError_TooLong := e0_2,
     e_FontError_EndlessPair := e0_3,
     e_OutOfRange_FontError := e1_0,
     e_OutOfRange_OutOfRange := e1_1,
     e_OutOfRange_TooLong := e1_2,
     e_OutOfRange_EndlessPair := e1_3,
     e_TooLong_FontError := e2_0,
     e_TooLong_OutOfRange := e2_1,
     e_TooLong_TooLong := e2_2,
     e_TooLong_EndlessPair := e2_3,
     e_EndlessPair_FontError := e3_0,
     e_EndlessPair_OutOfRange := e3_1,
     e_EndlessPair_TooLong := e3_2,
     e_EndlessPair_EndlessPair := e3_3,
     z_bool := PySem.W.mg_none_of X G z_bool,
     z_int := PySem.W.mg_none_of X G z_int,
     z_isinstance := PySem.W.mg_none_of X G z_isinstance,
     z_iter := PySem.W.mg_none_of X G z_iter,
     z_len := PySem.W.mg_none_of X G z_len,
     z_list := PySem.W.mg_none_of X G z_list,
     z_range := PySem.W.mg_none_of X G z_range,
     z_sorted := PySem.W.mg_none_of X G z_sorted,
     z_sum := PySem.W.mg_none_of X G z_sum,
     z_tuple := PySem.W.mg_none_of X G z_tuple,
     z_zip := PySem.W.mg_none_of X G z_zip,
     c_LIMITS := PySem.W.mg_of X G ntLIMITS,
     d_LIMITS := fun H => (Z.dpk (vs := [.int (8), .int (4), .int (3), .int (2)]) ktLIMITS_0 (Nat.le_of_ble_eq_true rfl) (.cons ⟨_, rfl⟩ (.cons ⟨_, rfl⟩ (.cons ⟨_, rfl⟩ (.cons ⟨_, rfl⟩ .nil)))) (.cons (.int _) (.cons (.int _) (.cons (.int _) (.cons (.int _) .nil))))),
     c_EDGE := ⟨_, PySem.W.mg_of X G c_EDGE, _, rfl⟩,
     c_MOST_ITEMS := ⟨_, PySem.W.mg_of X G c_MOST_ITEMS, _, rfl⟩,
     c_WIDTH := ⟨_, PySem.W.mg_of X G c_WIDTH, _, rfl⟩}
  exact ⟨_, fun s v => .of_eq rfl, fun base _ _ => ok_law T⟩
end G
open PySem PySem.W PyProof.Rows
set_option maxRecDepth 100000 in
set_option maxHeartbeats 0 in
theorem PySem.Challenge.cw_fontwinding_k65_widths_and_positions_holds : PySem.Challenge.rw_fontwinding_k65_widths_and_positions.Holds := by
  w_on; o_law; k_head; (case hw => w_witness2)
  k_fill
  refine L2.walk_of (l := PySem.Challenge.rw_fontwinding_k65_widths_and_positions) (n := 63) (k := 9) (x := "script") (CX := fun _ => L2.CX0) (sp := fun w => G.sp_law _) rfl (by decide) rfl ⟨rfl, by decide, by decide⟩ (fun w h Y => PySem.W.kIn_of Y) ?F (fun _ _ a ns hl _ hS => ⟨a, ns, rfl, hS, hl, fun _ => rfl⟩) (fun _ _ _ _ _ h => h)
  case F =>
    intro w mg fa h KX G0 hmg
    refine' G.all_mk KX G0 hmg ?n5 ?l5 ?c5 ?k5 ?n6 ?l6 ?c6 ?k6 ?n7 ?l7 ?c7 ?k7 ?n8 ?l8 ?c8 ?k8 ?n9 ?l9 ?c9 ?k9 ?n10 ?l10 ?c10 ?k10 ?n11 ?l11 ?c11 ?k11 ?n12 ?l12 ?c12 ?k12 ?n13 ?l13 ?c13 ?k13 ?n14 ?l14 ?c14 ?k14 ?n15 ?l15 ?c15 ?k15 ?n16 ?l16 ?c16 ?k16 ?n17 ?l17 ?c17 ?k17 ?n18 ?l18 ?c18 ?k18 ?n19 ?l19 ?c19 ?k19 ?n20 ?l20 ?c20 ?k20 ?n21 ?l21 ?c21 ?k21 ?n22 ?l22 ?c22 ?k22 ?n23 ?l23 ?c23 ?k23 ?n24 ?l24 ?c24 ?k24 ?n25 ?l25 ?c25 ?k25 ?n26 ?fn26 ?l26 ?c26 ?k26 ?n27 ?fn27 ?l27 ?c27 ?k27 ?n28 ?fn28 ?l28 ?c28 ?k28 ?n29 ?fn29 ?l29 ?c29 ?k29 ?n30 ?fn30 ?l30 ?c30 ?k30 ?n31 ?fn31 ?l31 ?c31 ?k31 ?n32 ?fn32 ?l32 ?c32 ?k32 ?n33 ?fn33 ?l33 ?c33 ?k33 ?n34 ?fn34 ?l34 ?c34 ?k34 ?n35 ?fn35 ?l35 ?c35 ?k35 ?n36 ?fn36 ?l36 ?c36 ?k36 ?n37 ?fn37 ?l37 ?c37 ?k37 ?n38 ?fn38 ?l38 ?c38 ?k38 ?n39 ?l39 ?c39 ?k39 ?n40 ?l40 ?c40 ?k40 ?n41 ?l41 ?c41 ?k41 ?n42 ?l42 ?c42 ?k42 ?n43 ?l43 ?c43 ?k43 ?n44 ?l44 ?c44 ?k44 ?n45 ?l45 ?c45 ?k45 ?n46 ?l46 ?c46 ?k46 ?n47 ?l47 ?c47 ?k47 ?n48 ?l48 ?c48 ?k48 ?n49 ?l49 ?c49 ?k49 ?n50 ?l50 ?c50 ?k50 ?ng4 ?pg4 ?hd4 ?po4 ?sa4 ?mk4 ?kc4 ?na4_characters ?na4_steps ?na4_labels ?sf4 ?xg0 ?xq0 ?xk0 ?xt0 ?xa0 ?xb0 ?xc0 ?xd0 ?xe0 ?xf0 ?xv0 ?xg1 ?xq1 ?xk1 ?xt1 ?xa1 ?xb1 ?xc1 ?xd1 ?xe1 ?xf1 ?xv1 ?xg2 ?xq2 ?xk2 ?xt2 ?xa2 ?xb2 ?xc2 ?xd2 ?xe2 ?xf2 ?xv2 ?xg3 ?xq3 ?xk3 ?xt3 ?xa3 ?xb3 ?xc3 ?xd3 ?xe3 ?xf3 ?xv3 ?xm ?xn ?e0_0 ?e0_1 ?e0_2 ?e0_3 ?e1_0 ?e1_1 ?e1_2 ?e1_3 ?e2_0 ?e2_1 ?e2_2 ?e2_3 ?e3_0 ?e3_1 ?e3_2 ?e3_3 ?na_table_metrics ?na_table_value_metrics ?z_bool ?z_int ?z_isinstance ?z_iter ?z_len ?z_list ?z_range ?z_sorted ?z_sum ?z_tuple ?z_zip ?c_EDGE ?c_MOST_ITEMS ?c_WIDTH ?ntLIMITS ?ktLIMITS_0
    (case ng4 => k_is)
    (case n5 => k_is)
    (case l5 => k_is)
    (case c5 => k_is)
    (case k5 => k_is)
    (case n6 => k_is)
    (case l6 => k_is)
    (case c6 => k_is)
    (case k6 => k_is)
    (case n7 => k_is)
    (case l7 => k_is)
    (case c7 => k_is)
    (case k7 => k_is)
    (case n8 => k_is)
    (case l8 => k_is)
    (case c8 => k_is)
    (case k8 => k_is)
    (case n9 => k_is)
    (case l9 => k_is)
    (case c9 => k_is)
    (case k9 => k_is)
    (case n10 => k_is)
    (case l10 => k_is)
    (case c10 => k_is)
    (case k10 => k_is)
    (case n11 => k_is)
    (case l11 => k_is)
    (case c11 => k_is)
    (case k11 => k_is)
    (case n12 => k_is)
    (case l12 => k_is)
    (case c12 => k_is)
    (case k12 => k_is)
    (case n13 => k_is)
    (case l13 => k_is)
    (case c13 => k_is)
    (case k13 => k_is)
    (case n14 => k_is)
    (case l14 => k_is)
    (case c14 => k_is)
    (case k14 => k_is)
    (case n15 => k_is)
    (case l15 => k_is)
    (case c15 => k_is)
    (case k15 => k_is)
    (case n16 => k_is)
    (case l16 => k_is)
    (case c16 => k_is)
    (case k16 => k_is)
    (case n17 => k_is)
    (case l17 => k_is)
    (case c17 => k_is)
    (case k17 => k_is)
    (case n18 => k_is)
    (case l18 => k_is)
    (case c18 => k_is)
    (case k18 => k_is)
    (case n19 => k_is)
    (case l19 => k_is)
    (case c19 => k_is)
    (case k19 => k_is)
    (case n20 => k_is)
    (case l20 => k_is)
    (case c20 => k_is)
    (case k20 => k_is)
    (case n21 => k_is)
    (case l21 => k_is)
    (case c21 => k_is)
    (case k21 => k_is)
    (case n22 => k_is)
    (case l22 => k_is)
    (case c22 => k_is)
    (case k22 => k_is)
    (case n23 => k_is)
    (case l23 => k_is)
    (case c23 => k_is)
    (case k23 => k_is)
    (case n24 => k_is)
    (case l24 => k_is)
    (case c24 => k_is)
    (case k24 => k_is)
    (case n25 => k_is)
    (case l25 => k_is)
    (case c25 => k_is)
    (case k25 => k_is)
    (case n26 => k_is)
    (case fn26 => k_is)
    (case l26 => k_is)
    (case c26 => k_is)
    (case k26 => k_is)
    (case n27 => k_is)
    (case fn27 => k_is)
    (case l27 => k_is)
    (case c27 => k_is)
    (case k27 => k_is)
    (case n28 => k_is)
    (case fn28 => k_is)
    (case l28 => k_is)
    (case c28 => k_is)
    (case k28 => k_is)
    (case n29 => k_is)
    (case fn29 => k_is)
    (case l29 => k_is)
    (case c29 => k_is)
    (case k29 => k_is)
    (case n30 => k_is)
    (case fn30 => k_is)
    (case l30 => k_is)
    (case c30 => k_is)
    (case k30 => k_is)
    (case n31 => k_is)
    (case fn31 => k_is)
    (case l31 => k_is)
    (case c31 => k_is)
    (case k31 => k_is)
    (case n32 => k_is)
    (case fn32 => k_is)
    (case l32 => k_is)
    (case c32 => k_is)
    (case k32 => k_is)
    (case n33 => k_is)
    (case fn33 => k_is)
    (case l33 => k_is)
    (case c33 => k_is)
    (case k33 => k_is)
    (case n34 => k_is)
    (case fn34 => k_is)
    (case l34 => k_is)
    (case c34 => k_is)
    (case k34 => k_is)
    (case n35 => k_is)
    (case fn35 => k_is)
    (case l35 => k_is)
    (case c35 => k_is)
    (case k35 => k_is)
    (case n36 => k_is)
    (case fn36 => k_is)
    (case l36 => k_is)
    (case c36 => k_is)
    (case k36 => k_is)
    (case n37 => k_is)
    (case fn37 => k_is)
    (case l37 => k_is)
    (case c37 => k_is)
    (case k37 => k_is)
    (case n38 => k_is)
    (case fn38 => k_is)
    (case l38 => k_is)
    (case c38 => k_is)
    (case k38 => k_is)
    (case n39 => k_is)
    (case l39 => k_is)
    (case c39 => k_is)
    (case k39 => k_is)
    (case n40 => k_is)
    (case l40 => k_is)
    (case c40 => k_is)
    (case k40 => k_is)
    (case n41 => k_is)
    (case l41 => k_is)
    (case c41 => k_is)
    (case k41 => k_is)
    (case n42 => k_is)
    (case l42 => k_is)
    (case c42 => k_is)
    (case k42 => k_is)
    (case n43 => k_is)
    (case l43 => k_is)
    (case c43 => k_is)
    (case k43 => k_is)
    (case n44 => k_is)
    (case l44 => k_is)
    (case c44 => k_is)
    (case k44 => k_is)
    (case n45 => k_is)
    (case l45 => k_is)
    (case c45 => k_is)
    (case k45 => k_is)
    (case n46 => k_is)
    (case l46 => k_is)
    (case c46 => k_is)
    (case k46 => k_is)
    (case n47 => k_is)
    (case l47 => k_is)
    (case c47 => k_is)
    (case k47 => k_is)
    (case n48 => k_is)
    (case l48 => k_is)
    (case c48 => k_is)
    (case k48 => k_is)
    (case n49 => k_is)
    (case l49 => k_is)
    (case c49 => k_is)
    (case k49 => k_is)
    (case n50 => k_is)
    (case l50 => k_is)
    (case c50 => k_is)
    (case k50 => k_is)
    (case pg4 => k_is)
    (case hd4 => k_is)
    (case po4 => k_is)
    (case sa4 => k_is)
    (case mk4 => k_is)
    (case kc4 => k_is)
    (case na4_characters => k_is)
    (case na4_steps => k_is)
    (case na4_labels => k_is)
    (case sf4 => k_is)
    (case xg0 => k_is)
    (case xq0 => k_exc)
    (case xk0 => k_is)
    (case xt0 => k_is)
    (case xa0 => k_is)
    (case xb0 => k_is)
    (case xc0 => k_is)
    (case xd0 => k_is)
    (case xe0 => k_is)
    (case xf0 => k_is)
    (case xv0 => k_is)
    (case xg1 => k_is)
    (case xq1 => k_exc)
    (case xk1 => k_is)
    (case xt1 => k_is)
    (case xa1 => k_is)
    (case xb1 => k_is)
    (case xc1 => k_is)
    (case xd1 => k_is)
    (case xe1 => k_is)
    (case xf1 => k_is)
    (case xv1 => k_is)
    (case xg2 => k_is)
    (case xq2 => k_exc)
    (case xk2 => k_is)
    (case xt2 => k_is)
    (case xa2 => k_is)
    (case xb2 => k_is)
    (case xc2 => k_is)
    (case xd2 => k_is)
    (case xe2 => k_is)
    (case xf2 => k_is)
    (case xv2 => k_is)
    (case xg3 => k_is)
    (case xq3 => k_exc)
    (case xk3 => k_is)
    (case xt3 => k_is)
    (case xa3 => k_is)
    (case xb3 => k_is)
    (case xc3 => k_is)
    (case xd3 => k_is)
    (case xe3 => k_is)
    (case xf3 => k_is)
    (case xv3 => k_is)
    (case xm => k_is)
    (case xn => k_is)
    (case e0_0 => k_is)
    (case e0_1 => k_is)
    (case e0_2 => k_is)
    (case e0_3 => k_is)
    (case e1_0 => k_is)
    (case e1_1 => k_is)
    (case e1_2 => k_is)
    (case e1_3 => k_is)
    (case e2_0 => k_is)
    (case e2_1 => k_is)
    (case e2_2 => k_is)
    (case e2_3 => k_is)
    (case e3_0 => k_is)
    (case e3_1 => k_is)
    (case e3_2 => k_is)
    (case e3_3 => k_is)
    (case na_table_metrics => k_is)
    (case na_table_value_metrics => k_is)
    (case z_bool => k_is)
    (case z_int => k_is)
    (case z_isinstance => k_is)
    (case z_iter => k_is)
    (case z_len => k_is)
    (case z_list => k_is)
    (case z_range => k_is)
    (case z_sorted => k_is)
    (case z_sum => k_is)
    (case z_tuple => k_is)
    (case z_zip => k_is)
    (case c_EDGE => k_is)
    (case c_MOST_ITEMS => k_is)
    (case c_WIDTH => k_is)
    (case ntLIMITS => k_is)
    (case ktLIMITS_0 => k_is)
