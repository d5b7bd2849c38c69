/- Layer 5: SameHeld says whether two lists are equal. -/
import Derived.Test.YtpmcjjpgkoagoaaOpR
namespace Go.Proofs.Ytpmcjjpgkoagoaa
open Go Go.RowKit
set_option linter.unusedVariables false
theorem sgA_go {x y : List Hel} (hl : x.length = y.length) (hx : x.length ≤ 100000) : ∀ (k i : Nat), i + k = x.length → ∃ z, sgA_f x y (k + 1) (i : Int) = some (if x.drop i = y.drop i then 1 else 0, z) := by
  intro k
  induction k with
  | zero =>
    intro i h
    rw [sgA_fs, bif_dT (by omega), bif_dF (by omega), List.drop_of_length_le (by omega), List.drop_of_length_le (by omega), if_pos rfl]
    exact ⟨_, rfl⟩
  | succ k ih =>
    intro i h
    rw [sgA_fs, bif_dT (by omega), bif_dT (by omega), el_drop (l := x) (i := i) (by omega), el_drop (l := y) (i := i) (by omega), w8n (n := (i : Int) + 1) (by omega) (by omega)]
    obtain ⟨z, hz⟩ := ih (i + 1) (by omega)
    rw [show ((i + 1 : Nat) : Int) = (i : Int) + 1 by omega] at hz
    generalize el x (i : Int) = a
    generalize el y (i : Int) = b
    obtain ⟨a1, a2⟩ := a
    obtain ⟨b1, b2⟩ := b
    by_cases e : (a1, a2) = (b1, b2)
    · injection e with e1 e2
      subst e1; subst e2
      simp only [beq_self_eq_true, Bool.and_self, Bool.not_true, cond_false, List.cons.injEq, true_and]
      exact ⟨z, hz⟩
    · have hn : (a1 == b1 && a2 == b2) = false := by
        cases h1 : (a1 == b1 && a2 == b2) with
        | false => rfl
        | true =>
          rw [Bool.and_eq_true, beq_iff_eq, beq_iff_eq] at h1
          exact absurd (by rw [h1.1, h1.2]) e
      simp only [hn, Bool.not_false, cond_true]
      rw [if_neg (fun h => e (by injection h))]
      exact ⟨_, rfl⟩
theorem same_is (x y : List Hel) (hx : (x.length : Int) ≤ 100000) : KnownR Try.prog [] 31 [.list (rowA gH x) x.length, .list (rowA gH y) y.length] (.bool (decide (x = y))) [] := by
  by_cases hl : (x.length : Int) = (y.length : Int)
  · obtain ⟨z, hz⟩ := sgA_go (x := x) (y := y) (by omega) (by omega) x.length 0 (by omega)
    rw [List.drop_zero, List.drop_zero] at hz
    have ho := sgA_ok x y hl hx _ _ _ hz
    by_cases e : x = y
    · rw [if_pos e] at ho
      rw [decide_eq_true e]
      apply sg1 x y z hl hx
      all_goals first | exact ho | exact decide_eq_false (by omega) | exact decide_eq_true (by omega) | (simp [hl]; done)
    · rw [if_neg e] at ho
      rw [decide_eq_false e]
      apply sg0 x y z hl hx
      all_goals first | exact ho | exact decide_eq_false (by omega) | exact decide_eq_true (by omega) | (simp [hl]; done)
  · have : ¬ x = y := fun e => hl (by rw [e])
    rw [decide_eq_false this]
    exact sgE x y hl
end Go.Proofs.Ytpmcjjpgkoagoaa
