/- Layer 7: the program's Nearest, Level. -/
import Derived.Test.YtcjlidciniiofaaSJ
namespace Go.Proofs.Ytcjlidciniiofaa
open Go.RowKit
set_option linter.unusedVariables false

theorem lE_in {gs : List Int} {p : Int} (h : ckE gs = 0) (h2 : inS gs p = true) : lE gs p 0 0 = 0 ∧ 0 ≤ p ∧ p ≤ pos gs gs.length := by
  simp only [inS, decide_eq_true_eq] at h2
  refine ⟨lE_ok h ?_, h2⟩
  unfold Askable; omega
theorem lE_out {gs : List Int} {p f t : Int} (h : ckE gs = 0) (h2 : inS gs p = false) : lE gs p f t = 2 := by
  simp only [inS, decide_eq_false_iff_not] at h2
  refine lE_rng h ?_
  unfold Askable; omega

end Go.Proofs.Ytcjlidciniiofaa
