/- Layer 9: the loop of Left in the program. -/
import Derived.Test.YtaohbffjfedcgaaOgD
namespace Go.Proofs.Ytaohbffjfedcgaa
open Go Go.RowKit
set_option linter.unusedVariables false
set_option linter.unusedSimpArgs false
set_option maxHeartbeats 4000000 in
theorem pLf_step {p g s m : Int} (fu : Nat) {y0 y1 y2 : Int} (hv : vM y0 g y1 m) (h2 : 0 ≤ y2 ∧ y2 ≤ 70000) :
    pLf_f p g s m (fu + 1) y0 y1 y2 = if y0 = g then some (0, (y0, y1, y2)) else pLf_f p g s m fu (tkP y0 g y1 m) (tkS y0 g y1 m) (y2 + 1) := by
  have hw := hv
  obtain ⟨a1, a2, a3, a4, a5, a6, a7, a8, a9⟩ := hv
  rw [pLf_f.eq_2, bif_dT (by omega)]
  simp (disch := omega) only [w8, rst_max]
  have hr : rst y0 g = if g ≤ y0 then y0 - g else g - y0 := rfl
  by_cases e : y0 = g
  · rw [if_pos e, bif_dF (by omega)]
  · rw [if_neg e, bif_dT (by omega)]
    have ha := tk_all hw e
    have hn := nxV_is (m := m) (v := y1) (l := rst y0 g) a7 a8 a5 (by omega) (by omega)
    have e1 : tkP y0 g y1 m = if g < y0 then y0 - nxV m y1 (rst y0 g) else y0 + nxV m y1 (rst y0 g) := by unfold tkP; omega
    have e2 : tkS y0 g y1 m = if nxV m y1 (rst y0 g) = rst y0 g then 0 else nxV m y1 (rst y0 g) := by unfold tkS; rw [if_neg e]
    have ts := rT_succ (v := y1)
    have tp := rT_pred (v := y1)
    unfold NextV at hn
    rw [e1, e2]
    have ha1 := ha.1
    clear ha e1 e2 hw
    generalize nxV m y1 (rst y0 g) = n at *
    generalize rst y0 g = r at *
    rcases hn with ⟨g1, k1, k2⟩ | ⟨g1, k1, k2, k3⟩ | ⟨g1, k1, k2, k3⟩
    all_goals subst g1
    all_goals repeat' (refine cond_split ?_ ?_ <;> intro)
    all_goals simp only [decide_eq_true_eq, decide_eq_false_iff_not, Bool.not_eq_true', Bool.not_eq_false', beq_iff_eq, beq_eq_false_iff_ne, ne_eq, rst] at *
    all_goals first
      | (exfalso; omega)
      | (congr 1 <;> omega)
end Go.Proofs.Ytaohbffjfedcgaa
