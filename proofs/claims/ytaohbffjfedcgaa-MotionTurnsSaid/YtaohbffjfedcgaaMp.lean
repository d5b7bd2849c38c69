/- Layer 9: the positions of a path. -/
import Derived.Test.YtaohbffjfedcgaaOgP
namespace Go.Proofs.Ytaohbffjfedcgaa
open Go Go.RowKit
set_option linter.unusedVariables false
set_option linter.unusedSimpArgs false
set_option maxHeartbeats 4000000 in
theorem pPt_step {p g s m n : Int} (fu : Nat) {y0 : List Int} {y1 y2 y3 : Int} (hv : vM y1 g y2 m) (h3 : 0 ≤ y3 ∧ y3 < n) (hn : n ≤ 1000) (hy : (y0.length : Int) ≤ y3) :
    pPt_f p g s m n (fu + 1) y0 y1 y2 y3 = if y1 = g then some (1, (y0, y1, y2, y3)) else if y3 + 1 = n then some (0, (tkP y1 g y2 m :: y0, tkP y1 g y2 m, tkS y1 g y2 m, y3 + 1)) else pPt_f p g s m n fu (tkP y1 g y2 m :: y0) (tkP y1 g y2 m) (tkS y1 g y2 m) (y3 + 1) := by
  have hw := hv
  obtain ⟨a1, a2, a3, a4, a5, a6, a7, a8, a9⟩ := hv
  rw [pPt_f.eq_2, bif_dT (by omega)]
  simp (disch := omega) only [w8, rst_max]
  have hr : rst y1 g = if g ≤ y1 then y1 - g else g - y1 := rfl
  by_cases e : y1 = g
  · rw [if_pos e, bif_dF (by omega)]
  · rw [if_neg e, bif_dT (by omega)]
    have ha := tk_all hw e
    have hn := nxV_is (m := m) (v := y2) (l := rst y1 g) a7 a8 a5 (by omega) (by omega)
    have e1 : tkP y1 g y2 m = if g < y1 then y1 - nxV m y2 (rst y1 g) else y1 + nxV m y2 (rst y1 g) := by unfold tkP; omega
    have e2 : tkS y1 g y2 m = if nxV m y2 (rst y1 g) = rst y1 g then 0 else nxV m y2 (rst y1 g) := by unfold tkS; rw [if_neg e]
    have ts := rT_succ (v := y2)
    have tp := rT_pred (v := y2)
    unfold NextV at hn
    rw [e1, e2]
    have ha1 := ha.1
    clear ha e1 e2 hw
    generalize nxV m y2 (rst y1 g) = x at *
    generalize rst y1 g = r at *
    by_cases hd : y3 + 1 = n
    · rw [if_pos hd]
      rcases hn with ⟨g1, k1, k2⟩ | ⟨g1, k1, k2, k3⟩ | ⟨g1, k1, k2, k3⟩
      all_goals subst g1
      all_goals repeat' (refine cond_split ?_ ?_ <;> intro)
      all_goals simp only [decide_eq_true_eq, decide_eq_false_iff_not, Bool.not_eq_true', Bool.not_eq_false', beq_iff_eq, beq_eq_false_iff_ne, ne_eq, rst] at *
      all_goals first
        | (exfalso; omega)
        | (simp only [Option.some.injEq, Prod.mk.injEq, List.cons.injEq, true_and, and_true]; omega)
    · rw [if_neg hd]
      rcases hn with ⟨g1, k1, k2⟩ | ⟨g1, k1, k2, k3⟩ | ⟨g1, k1, k2, k3⟩
      all_goals subst g1
      all_goals repeat' (refine cond_split ?_ ?_ <;> intro)
      all_goals simp only [decide_eq_true_eq, decide_eq_false_iff_not, Bool.not_eq_true', Bool.not_eq_false', beq_iff_eq, beq_eq_false_iff_ne, ne_eq, rst] at *
      all_goals first
        | (exfalso; omega)
        | (congr 1 <;> first | omega | (congr 1; omega))
/-- the positions behind each of at most k ticks -/
def ptN (g m : Int) : Nat → Int → Int → List Int
  | 0, _, _ => []
  | k + 1, p, s => if p = g then [] else tkP p g s m :: ptN g m k (tkP p g s m) (tkS p g s m)
theorem ptN_len {g m : Int} : ∀ (k : Nat) (p s : Int), (ptN g m k p s).length ≤ k
  | 0, p, s => Nat.le_refl _
  | k + 1, p, s => by
    unfold ptN
    split
    · exact Nat.zero_le _
    · rw [List.length_cons]; exact Nat.succ_le_succ (ptN_len k _ _)
theorem pPt_go {p g s m n : Int} (hn : n ≤ 1000) : ∀ (k : Nat) {y0 : List Int} {y1 y2 y3 : Int}, n - y3 = k + 1 → vM y1 g y2 m → 0 ≤ y3 → (y0.length : Int) ≤ y3 → ∃ kk z1 z2 z3, (kk = 0 ∨ kk = 1) ∧ pPt_f p g s m n (k + 1) y0 y1 y2 y3 = some (kk, ((ptN g m (k + 1) y1 y2).reverse ++ y0, z1, z2, z3)) := by
  intro k
  induction k with
  | zero =>
    intro y0 y1 y2 y3 hk hv h0 hy
    rw [pPt_step _ hv ⟨h0, by omega⟩ hn hy]
    unfold ptN
    by_cases e : y1 = g
    · rw [if_pos e, if_pos e]; exact ⟨1, _, _, _, .inr rfl, rfl⟩
    · rw [if_neg e, if_neg e, if_pos (by omega)]; exact ⟨0, _, _, _, .inl rfl, rfl⟩
  | succ k ih =>
    intro y0 y1 y2 y3 hk hv h0 hy
    rw [pPt_step _ hv ⟨h0, by omega⟩ hn hy]
    unfold ptN
    by_cases e : y1 = g
    · rw [if_pos e, if_pos e]; exact ⟨1, _, _, _, .inr rfl, rfl⟩
    · rw [if_neg e, if_neg e, if_neg (by omega)]
      obtain ⟨kk, z1, z2, z3, h1, h2⟩ := ih (y0 := tkP y1 g y2 m :: y0) (y3 := y3 + 1) (by omega) (tk_ok hv) (by omega) (by rw [List.length_cons]; omega)
      refine ⟨kk, z1, z2, z3, h1, h2.trans ?_⟩
      rw [List.reverse_cons, List.append_assoc]; rfl
end Go.Proofs.Ytaohbffjfedcgaa
