import Derived.Test.YtcjlidciniiofaaDB15
set_option linter.unusedSimpArgs false
set_option linter.unusedVariables false
namespace Go.Proofs.Ytcjlidciniiofaa
open Go Go.RowKit
theorem nN_bounds {p g v q l s k : Int} (h : DOk p g v q l s k) : 0 ≤ nN p g v q l s k ∧ nN p g v q l s k ≤ 70000 ∧ (q ≠ 0 → 1 ≤ nN p g v q l s k) := by
 have h' := h
 obtain ⟨a1, a2, a3, a4, a5, a6, a7, a8, a9, b1, b2, b3, h⟩ := h
 unfold nN
 rcases h with h | h | h | h
 ·rw [if_pos h.1]; omega
 all_goals rw [if_neg (by omega)]
 ·rw [if_neg (by omega)]
  obtain ⟨r1, r2, r3⟩ := rides_of h' (.inl h.1)
  obtain ⟨w, hw⟩ := nextV_ex a7 r1.v0 r1.vL r1.stop (by omega)
  have := (r1.next a7 (by omega) hw).2.1
  have b := rD_bound (L := s) (n := tD p g + rT v) a7 r3
  have c := rT_bound (v := v) a5 (by omega)
  have d : tD p g ≤ 63000 := by unfold tD; omega
  omega
 ·rw [if_neg (by omega)]
  obtain ⟨r1, r2, r3⟩ := rides_of h' (.inr h.1)
  obtain ⟨w, hw⟩ := nextV_ex a7 r1.v0 r1.vL r1.stop (by omega)
  have := (r1.next a7 (by omega) hw).2.1
  have b := rD_bound (L := s) (n := tD p g + rT v) a7 r3
  have c := rT_bound (v := v) a5 (by omega)
  have d : tD p g ≤ 63000 := by unfold tD; omega
  omega
 ·rw [if_pos h.1]; omega
end Go.Proofs.Ytcjlidciniiofaa
