/- Layer 7: the program's Level, At, Distance. -/
import Derived.Test.YtkoopcjdpcpknaaSK
namespace Go.Proofs.Ytkoopcjdpcpknaa
open Go.RowKit
set_option linter.unusedVariables false

theorem inS_d {gs : List Int} {p : Int} : inS gs p = true ↔ 0 ≤ p ∧ p ≤ pos gs gs.length := by simp [inS]
theorem inF_d {gs : List Int} {p : Int} : inF gs p = true ↔ 0 ≤ p ∧ p ≤ gs.length := by simp [inF]
theorem lE_two {gs : List Int} {p f t : Int} (h : ckE gs = 0) (h2 : inS gs p = false ∨ inF gs f = false ∨ t < 0 ∨ 20 < t) : lE gs p f t = 2 := by
  refine lE_rng h ?_
  unfold Askable
  rcases h2 with h2 | h2 | h2 | h2
  · simp only [inS, decide_eq_false_iff_not] at h2; omega
  · simp only [inF, decide_eq_false_iff_not] at h2; omega
  · omega
  · omega
theorem lE_fine {gs : List Int} {p f t : Int} (h : ckE gs = 0) (h1 : inS gs p = true) (h2 : inF gs f = true) (h3 : 0 ≤ t) (h4 : t ≤ 20) : lE gs p f t = 0 := by
  refine lE_ok h ?_
  have := inS_d.1 h1
  have := inF_d.1 h2
  unfold Askable
  omega

theorem lE_sameF {gs : List Int} {p t : Int} {m : Nat} (hm : m ≤ gs.length) : lE gs p m t = lE gs p 0 t := by
  by_cases hck : ckE gs = 0
  · by_cases ha : Askable gs p 0 t
    · rw [lE_ok hck ha, lE_ok hck (by unfold Askable at ha ⊢; omega)]
    · rw [lE_rng hck ha, lE_rng hck (by unfold Askable at ha ⊢; omega)]
  · rw [lE_bad hck, lE_bad hck]
theorem lE_noS {gs : List Int} {p t : Int} (h : lE gs p 0 0 ≠ 0) : lE gs p 0 t = lE gs p 0 0 := by
  by_cases hck : ckE gs = 0
  · by_cases ha : Askable gs p 0 0
    · exact absurd (lE_ok hck ha) h
    · rw [lE_rng hck ha, lE_rng hck (by unfold Askable at ha ⊢; omega)]
  · rw [lE_bad hck, lE_bad hck]

end Go.Proofs.Ytkoopcjdpcpknaa
