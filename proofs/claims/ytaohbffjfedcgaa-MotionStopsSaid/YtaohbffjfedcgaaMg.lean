/- Layer 9: braking to the nearest place. -/
import Derived.Test.YtaohbffjfedcgaaOgI
namespace Go.Proofs.Ytaohbffjfedcgaa
open Go Go.RowKit
set_option linter.unusedVariables false
set_option linter.unusedSimpArgs false
theorem rst_zero {p g : Int} (h : rst p g = 0) : p = g := by unfold rst at h; omega
theorem brake {m : Int} : ∀ (k : Nat) {p g S s : Int}, S = k + 1 → S ≤ m → rst p g = rT (S - 1) → s = (if rst p g = 0 then 0 else S) → vM p g s m → lfV p g s m = S - 1
  | 0, p, g, S, s, hS, hm, hr, hs, hv => by
    subst hS
    have z : rT (((0 : Nat) : Int) + 1 - 1) = 0 := by decide
    have e := rst_zero (hr.trans z)
    subst e
    rw [lfV_eq]; simp
  | k + 1, p, g, S, s, hS, hm, hr, hs, hv => by
    have t1 := rT_ge (v := S - 1) (by omega)
    have hr1 : 1 ≤ rst p g := by omega
    have hpg : p ≠ g := by intro e; subst e; unfold rst at hr1; omega
    rw [if_neg (by omega)] at hs
    subst hs
    have ts := rT_succ (v := s)
    have tp := rT_pred (v := s)
    have tpp := rT_pred (v := s - 1)
    have hn : nxV m s (rst p g) = s - 1 := by
      unfold nxV
      rw [if_neg (by omega), if_neg (by omega)]
    have ha := tk_all hv hpg
    rw [hn] at ha
    have hz : rT (s - 1) = s - 1 ↔ rT (s - 1 - 1) = 0 := by omega
    have e2 : tkS p g s m = if rst (tkP p g s m) g = 0 then 0 else s - 1 := by
      rw [ha.2.2.2.2.2.1]
      unfold tkS
      rw [if_neg hpg, hn]
      by_cases c : s - 1 = rst p g
      · rw [if_pos c, if_pos (by omega)]
      · rw [if_neg c, if_neg (by omega)]
    have := brake k (p := tkP p g s m) (g := g) (S := s - 1) (s := tkS p g s m) (m := m) (by omega) (by omega) (by rw [ha.2.2.2.2.2.1, hr, tpp]) e2 (tk_ok hv)
    rw [lfV_step hv hpg, this]; omega
theorem it_home {g m : Int} : ∀ (k : Nat) {p s : Int}, vM p g s m → lfV p g s m ≤ k → itN g m k p s = (g, 0)
  | 0, p, s, h, hk => by
    rcases (by omega : p = g ∨ p ≠ g) with e | e
    · subst e; rw [itN_rest 0 h, (tk_eq h).2.2]
    · have := lfV_step h e; have := lfV_bb (tk_ok h); omega
  | k + 1, p, s, h, hk => by
    rcases (by omega : p = g ∨ p ≠ g) with e | e
    · subst e; rw [itN_rest _ h, (tk_eq h).2.2]
    · have h1 := lfV_step h e
      exact it_home k (tk_ok h) (by omega)
/-- the facts of the nearest place -/
theorem near_all {p g s m : Int} (h : vM p g s m) : (0 ≤ nrV p g s ∧ nrV p g s ≤ 63000) ∧ (nrV p g s = p ∨ 2 ≤ s) ∧ rst p (nrV p g s) = rT (s - 1) ∧ vM p (nrV p g s) (if nrV p g s = p then 0 else s) m := by
  have hv := h
  obtain ⟨a1, a2, a3, a4, a5, a6, a7, a8, a9⟩ := h
  have tb := rT_b1 (s := s) a7 (by omega)
  have hr : rst p g = if g ≤ p then p - g else g - p := rfl
  have z1 : rT 0 = 0 := by decide
  have hs2 : nrV p g s = p ∨ 2 ≤ s := by
    rcases (by omega : s = 0 ∨ s = 1 ∨ 2 ≤ s) with e | e | e
    · left; subst e; unfold nrV; rw [rT_m1]; split <;> omega
    · left; subst e; unfold nrV; rw [show (1 : Int) - 1 = 0 by decide, z1]; split <;> omega
    · exact .inr e
  have hb : 0 ≤ nrV p g s ∧ nrV p g s ≤ 63000 := by
    rcases a9 with e | e
    · subst e; unfold nrV; rw [rT_m1]; split <;> omega
    · unfold nrV; split <;> omega
  have hrr : rst p (nrV p g s) = rT (s - 1) := by unfold nrV rst; split <;> split <;> omega
  refine ⟨hb, hs2, hrr, ?_⟩
  unfold vM
  refine ⟨a1, a2, hb.1, hb.2, a5, a6, ?_, ?_, ?_⟩
  · split <;> omega
  · split <;> omega
  · split
    · exact .inl rfl
    · rename_i c
      have t1 := rT_ge (v := s - 1) (by omega)
      rw [hrr]
      exact .inr ⟨by omega, by omega⟩
theorem near_left {p g s m : Int} (h : vM p g s m) : lfV p (nrV p g s) (if nrV p g s = p then 0 else s) m = if 0 > s - 1 then 0 else s - 1 := by
  have ha := near_all h
  have hb := vM_b h
  rcases (by omega : s ≤ 1 ∨ 2 ≤ s) with e | e
  · have e1 : nrV p g s = p := by rcases ha.2.1 with q | q <;> omega
    rw [e1, lfV_eq]; split <;> omega
  · have t1 := rT_ge (v := s - 1) (by omega)
    have hne : nrV p g s ≠ p := by
      intro q
      have h3 := ha.2.2.1
      rw [q] at h3; unfold rst at h3; omega
    have hv := ha.2.2.2
    rw [if_neg hne] at hv ⊢
    rw [if_neg (by omega)]
    exact brake (s - 1).toNat (by omega) (by omega) ha.2.2.1 (by rw [ha.2.2.1, if_neg (by omega)]) hv
end Go.Proofs.Ytaohbffjfedcgaa
