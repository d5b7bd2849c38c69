/- Layer 9: valid motions, the next speed and a tick, in plain numbers. -/
import Derived.Test.YtaohbffjfedcgaaOgA
import Derived.Test.YtaohbffjfedcgaaLU
namespace Go.Proofs.Ytaohbffjfedcgaa
open Go Go.RowKit
set_option linter.unusedVariables false
set_option linter.unusedSimpArgs false
theorem bq (a b : Int) : (a == b) = decide (a = b) := by by_cases h : a = b <;> simp [h]
theorem bnq (a b : Int) : (a != b) = decide (a ≠ b) := by by_cases h : a = b <;> simp [h]
/-- the distance of two positions -/
def rst (p g : Int) : Int := if g ≤ p then p - g else g - p
theorem rst_max {p g : Int} : (if p - g > g - p then p - g else g - p) = rst p g := by unfold rst; omega
theorem rst_max' {p g : Int} : (if g - p > p - g then g - p else p - g) = rst p g := by unfold rst; omega
/-- the error of a motion -/
noncomputable def ckM (p g s m : Int) : Int := if 0 ≤ p ∧ p ≤ 63000 ∧ 0 ≤ g ∧ g ≤ 63000 ∧ 1 ≤ m ∧ m ≤ 20 ∧ 0 ≤ s ∧ s ≤ m then (if 0 < s ∧ (rst p g = 0 ∨ rT (s - 1) > rst p g) then 3 else 0) else 2
def vM (p g s m : Int) : Prop := 0 ≤ p ∧ p ≤ 63000 ∧ 0 ≤ g ∧ g ≤ 63000 ∧ 1 ≤ m ∧ m ≤ 20 ∧ 0 ≤ s ∧ s ≤ m ∧ (s = 0 ∨ (0 < rst p g ∧ rT (s - 1) ≤ rst p g))
theorem rst_nn {p g : Int} : 0 ≤ rst p g := by unfold rst; omega
theorem ckM_ok {p g s m : Int} : ckM p g s m = 0 ↔ vM p g s m := by
  have := rst_nn (p := p) (g := g)
  unfold ckM vM
  constructor
  · intro h
    split at h
    · split at h <;> omega
    · omega
  · intro h
    rw [if_pos (by omega), if_neg (by omega)]
theorem cond_split {α : Type} {b : Bool} {x y r : α} (h1 : b = true → x = r) (h2 : b = false → y = r) : (bif b then x else y) = r := by
  cases b
  · exact h2 rfl
  · exact h1 rfl
theorem pChk_is (p g s m : Int) : pChk_c0 p g s m = ckM p g s m := by
  by_cases h : 0 ≤ p ∧ p ≤ 63000 ∧ 0 ≤ g ∧ g ≤ 63000 ∧ 1 ≤ m ∧ m ≤ 20 ∧ 0 ≤ s ∧ s ≤ m
  · have e : ckM p g s m = if 0 < s ∧ (rst p g = 0 ∨ rT (s - 1) > rst p g) then 3 else 0 := if_pos h
    rw [e]
    unfold pChk_c0
    rw [w8 (v := p - g) (by omega), w8 (v := g - p) (by omega), rst_max]
    generalize rst p g = r
    generalize rT (s - 1) = q
    repeat' (refine cond_split ?_ ?_ <;> intro)
    all_goals (simp only [decide_eq_true_eq, decide_eq_false_iff_not, Bool.not_eq_true', Bool.not_eq_false', beq_iff_eq, beq_eq_false_iff_ne, ne_eq] at * <;> omega)
  · have e : ckM p g s m = 2 := if_neg h
    rw [e]
    unfold pChk_c0
    generalize (if IntKind.i64.wrap (p - g) > IntKind.i64.wrap (g - p) then IntKind.i64.wrap (p - g) else IntKind.i64.wrap (g - p)) = M
    generalize rT _ = q
    repeat' (refine cond_split ?_ ?_ <;> intro)
    all_goals (simp only [decide_eq_true_eq, decide_eq_false_iff_not, Bool.not_eq_true', Bool.not_eq_false', beq_iff_eq, beq_eq_false_iff_ne, ne_eq] at * <;> omega)
theorem rChk_is (p g s m : Int) : rChk_c0 p g s m = ckM p g s m := by
  by_cases h : 0 ≤ p ∧ p ≤ 63000 ∧ 0 ≤ g ∧ g ≤ 63000 ∧ 1 ≤ m ∧ m ≤ 20 ∧ 0 ≤ s ∧ s ≤ m
  · have e : ckM p g s m = if 0 < s ∧ (rst p g = 0 ∨ rT (s - 1) > rst p g) then 3 else 0 := if_pos h
    rw [e]
    unfold rChk_c0
    rw [w8 (v := p - g) (by omega), w8 (v := g - p) (by omega), w8 (v := s - 1) (by omega), rst_max']
    generalize rst p g = r
    generalize rT (s - 1) = q
    repeat' (refine cond_split ?_ ?_ <;> intro)
    all_goals (simp only [decide_eq_true_eq, decide_eq_false_iff_not, Bool.not_eq_true', Bool.not_eq_false', beq_iff_eq, beq_eq_false_iff_ne, ne_eq] at * <;> omega)
  · have e : ckM p g s m = 2 := if_neg h
    rw [e]
    unfold rChk_c0
    generalize (if IntKind.i64.wrap (g - p) > IntKind.i64.wrap (p - g) then IntKind.i64.wrap (g - p) else IntKind.i64.wrap (p - g)) = M
    generalize rT _ = q
    repeat' (refine cond_split ?_ ?_ <;> intro)
    all_goals (simp only [decide_eq_true_eq, decide_eq_false_iff_not, Bool.not_eq_true', Bool.not_eq_false', beq_iff_eq, beq_eq_false_iff_ne, ne_eq] at * <;> omega)
/-- the next speed -/
def nxV (m v l : Int) : Int := if v + 1 ≤ m ∧ rT (v + 1) ≤ l then v + 1 else if 1 ≤ v ∧ rT v ≤ l then v else v - 1
theorem nxV_is {m v l : Int} (h0 : 0 ≤ v) (h1 : v ≤ m) (hm : 1 ≤ m) (hl : 1 ≤ l) (hs : v = 0 ∨ rT (v - 1) ≤ l) : NextV m v l (nxV m v l) := by
  have z : rT 1 = 1 := by decide
  unfold nxV
  split
  · rename_i c; exact .inl ⟨rfl, c.1, c.2⟩
  · rename_i c
    split
    · rename_i d; exact .inr (.inl ⟨rfl, d.1, d.2, by omega⟩)
    · rename_i d
      have : 2 ≤ v := by
        rcases (by omega : v = 0 ∨ v = 1 ∨ 2 ≤ v) with e | e | e
        · subst e; simp at c; omega
        · subst e; omega
        · exact e
      exact .inr (.inr ⟨rfl, this, by omega, by omega⟩)
/-- the place and the speed after a tick -/
def tkP (p g s m : Int) : Int := if g < p then p - nxV m s (rst p g) else if p = g then p else p + nxV m s (rst p g)
def tkS (p g s m : Int) : Int := if p = g then 0 else if nxV m s (rst p g) = rst p g then 0 else nxV m s (rst p g)
/-- what a tick does -/
theorem tk_all {p g s m : Int} (h : vM p g s m) (hpg : p ≠ g) : 1 ≤ nxV m s (rst p g) ∧ nxV m s (rst p g) ≤ m ∧ nxV m s (rst p g) ≤ rst p g ∧ s - 1 ≤ nxV m s (rst p g) ∧ nxV m s (rst p g) ≤ s + 1 ∧ rst (tkP p g s m) g = rst p g - nxV m s (rst p g) ∧ vM (tkP p g s m) g (tkS p g s m) m := by
  have hr : 1 ≤ rst p g := by unfold rst; omega
  have hv := h
  obtain ⟨a1, a2, a3, a4, a5, a6, a7, a8, a9⟩ := h
  have n := nxV_is (m := m) (v := s) (l := rst p g) a7 a8 a5 hr (by omega)
  have ts := rT_succ (v := s)
  have tp := rT_pred (v := s)
  have key : 1 ≤ nxV m s (rst p g) ∧ nxV m s (rst p g) ≤ m ∧ nxV m s (rst p g) ≤ rst p g ∧ s - 1 ≤ nxV m s (rst p g) ∧ nxV m s (rst p g) ≤ s + 1 ∧ rT (nxV m s (rst p g) - 1) ≤ rst p g - nxV m s (rst p g) := by
    rcases n with ⟨g1, k1, k2⟩ | ⟨g1, k1, k2, k3⟩ | ⟨g1, k1, k2, k3⟩
    · rw [g1] at k1 k2 ⊢
      have := rT_ge (v := s + 1) (by omega)
      rw [show s + 1 - 1 = s by omega]
      omega
    · rw [g1]
      have := rT_ge (v := s) (by omega)
      omega
    · rw [g1]
      have := rT_ge (v := s - 1) (by omega)
      have := rT_pred (v := s - 1)
      omega
  generalize hw : nxV m s (rst p g) = w at key ⊢
  have e : tkP p g s m = if g < p then p - w else p + w := by unfold tkP; rw [hw]; omega
  have e2 : tkS p g s m = if w = rst p g then 0 else w := by unfold tkS; rw [hw, if_neg hpg]
  have e3 : rst (tkP p g s m) g = rst p g - w := by
    rw [e]; unfold rst at *; omega
  refine ⟨key.1, key.2.1, key.2.2.1, key.2.2.2.1, key.2.2.2.2.1, e3, ?_⟩
  have hb : 0 ≤ tkP p g s m ∧ tkP p g s m ≤ 63000 := by rw [e]; unfold rst at *; omega
  unfold vM
  rw [e3, e2]
  refine ⟨hb.1, hb.2, a3, a4, a5, a6, ?_, ?_, ?_⟩
  · split <;> omega
  · split <;> omega
  · split
    · exact .inl rfl
    · exact .inr ⟨by omega, key.2.2.2.2.2⟩
theorem tk_eq {g s m : Int} (h : vM g g s m) : tkP g g s m = g ∧ tkS g g s m = 0 ∧ s = 0 := by
  obtain ⟨a1, a2, a3, a4, a5, a6, a7, a8, a9⟩ := h
  have : rst g g = 0 := by unfold rst; omega
  refine ⟨?_, ?_, by omega⟩
  · unfold tkP; rw [if_neg (by omega), if_pos rfl]
  · unfold tkS; rw [if_pos rfl]
theorem tk_ok {p g s m : Int} (h : vM p g s m) : vM (tkP p g s m) g (tkS p g s m) m := by
  by_cases e : p = g
  · subst e
    have k := tk_eq h
    rw [k.1, k.2.1]
    rw [k.2.2] at h
    exact h
  · exact (tk_all h e).2.2.2.2.2.2
end Go.Proofs.Ytaohbffjfedcgaa
