/- Layer 12: SensorTwo, out of its contract. -/
import Derived.Test.YthjdoeeefighkaaOgY
namespace Go.Proofs.Ythjdoeeefighkaa
open Go Go.RowKit
set_option linter.unusedVariables false
set_option linter.unusedSimpArgs false
def In64 (n : Int) : Prop := -9223372036854775808 ≤ n ∧ n ≤ 9223372036854775807
theorem tw0_t (floor tol wrong place : Int) : tw0_c0 floor tol wrong place = true := by
  unfold tw0_c0 vO vF vZ oN
  have hp : place % 3 = 0 ∨ place % 3 = 1 ∨ place % 3 = 2 := by omega
  generalize mO wrong = a
  generalize mF wrong = b
  generalize mZ wrong = c
  generalize place % 3 = p at *
  by_cases hm : a = true ∧ b = 0 ∧ c = 0
  · obtain ⟨rfl, rfl, rfl⟩ := hm
    rcases hp with rfl | rfl | rfl <;> decide +kernel
  · have nb : (a == true && (b == 0 && c == 0)) = false := by
      cases h : (a == true && (b == 0 && c == 0)) with
      | false => rfl
      | true =>
        rw [Bool.and_eq_true, Bool.and_eq_true, beq_iff_eq, beq_iff_eq, beq_iff_eq] at h
        exact absurd h hm
    have hm2 : ¬ (true = a ∧ 0 = b ∧ 0 = c) := fun h => hm ⟨h.1.symm, h.2.1.symm, h.2.2.symm⟩
    rcases hp with rfl | rfl | rfl
    all_goals (rw [nb]; simp only [if_neg hm, if_neg hm2, if_pos (⟨rfl, rfl, rfl⟩ : true = true ∧ (0 : Int) = 0 ∧ (0 : Int) = 0)]; decide +kernel)
theorem tw1_t (floor tol wrong place : Int) : tw1_c0 floor tol wrong place = true := by
  unfold tw1_c0 vO vF vZ oN
  have hp : place % 3 = 0 ∨ place % 3 = 1 ∨ place % 3 = 2 := by omega
  generalize mO wrong = a
  generalize mF wrong = b
  generalize mZ wrong = c
  generalize place % 3 = p at *
  by_cases hm : a = true ∧ b = 1 ∧ c = 0
  · obtain ⟨rfl, rfl, rfl⟩ := hm
    rcases hp with rfl | rfl | rfl <;> decide +kernel
  · have nb : (a == true && (b == 1 && c == 0)) = false := by
      cases h : (a == true && (b == 1 && c == 0)) with
      | false => rfl
      | true =>
        rw [Bool.and_eq_true, Bool.and_eq_true, beq_iff_eq, beq_iff_eq, beq_iff_eq] at h
        exact absurd h hm
    have hm2 : ¬ (true = a ∧ 1 = b ∧ 0 = c) := fun h => hm ⟨h.1.symm, h.2.1.symm, h.2.2.symm⟩
    rcases hp with rfl | rfl | rfl
    all_goals (rw [nb]; simp only [if_neg hm, if_neg hm2, if_pos (⟨rfl, rfl, rfl⟩ : true = true ∧ (1 : Int) = 1 ∧ (0 : Int) = 0)]; decide +kernel)
theorem tw2_t (floor tol wrong place : Int) : tw2_c0 floor tol wrong place = true := by
  unfold tw2_c0 vO vF vZ oN
  have hp : place % 3 = 0 ∨ place % 3 = 1 ∨ place % 3 = 2 := by omega
  generalize mO wrong = a
  generalize mF wrong = b
  generalize mZ wrong = c
  generalize place % 3 = p at *
  by_cases hm : a = true ∧ b = 2 ∧ c = 1
  · obtain ⟨rfl, rfl, rfl⟩ := hm
    rcases hp with rfl | rfl | rfl <;> decide +kernel
  · have nb : (a == true && (b == 2 && c == 1)) = false := by
      cases h : (a == true && (b == 2 && c == 1)) with
      | false => rfl
      | true =>
        rw [Bool.and_eq_true, Bool.and_eq_true, beq_iff_eq, beq_iff_eq, beq_iff_eq] at h
        exact absurd h hm
    have hm2 : ¬ (true = a ∧ 2 = b ∧ 1 = c) := fun h => hm ⟨h.1.symm, h.2.1.symm, h.2.2.symm⟩
    rcases hp with rfl | rfl | rfl
    all_goals (rw [nb]; simp only [if_neg hm, if_neg hm2, if_pos (⟨rfl, rfl, rfl⟩ : true = true ∧ (2 : Int) = 2 ∧ (1 : Int) = 1)]; decide +kernel)
theorem tw3_t (floor tol wrong place : Int) : tw3_c0 floor tol wrong place = true := by
  unfold tw3_c0 vO vF vZ oN
  have hp : place % 3 = 0 ∨ place % 3 = 1 ∨ place % 3 = 2 := by omega
  generalize mO wrong = a
  generalize mF wrong = b
  generalize mZ wrong = c
  generalize place % 3 = p at *
  by_cases hm : a = true ∧ b = 3 ∧ c = 1
  · obtain ⟨rfl, rfl, rfl⟩ := hm
    rcases hp with rfl | rfl | rfl <;> decide +kernel
  · have nb : (a == true && (b == 3 && c == 1)) = false := by
      cases h : (a == true && (b == 3 && c == 1)) with
      | false => rfl
      | true =>
        rw [Bool.and_eq_true, Bool.and_eq_true, beq_iff_eq, beq_iff_eq, beq_iff_eq] at h
        exact absurd h hm
    have hm2 : ¬ (true = a ∧ 3 = b ∧ 1 = c) := fun h => hm ⟨h.1.symm, h.2.1.symm, h.2.2.symm⟩
    rcases hp with rfl | rfl | rfl
    all_goals (rw [nb]; simp only [if_neg hm, if_neg hm2, if_pos (⟨rfl, rfl, rfl⟩ : true = true ∧ (3 : Int) = 3 ∧ (1 : Int) = 1)]; decide +kernel)
theorem two_law (floor tol wrong place : Int) : Known Try.prog [] 8 [.int .i64 floor, .int .i64 tol, .int .i64 wrong, .int .i64 place] (.bool true) := by
  rcases (by omega : floor % 4 = 0 ∨ floor % 4 = 1 ∨ floor % 4 = 2 ∨ floor % 4 = 3) with h | h | h | h
  · have k := tw0 floor tol wrong place h (by omega) (by omega) (vG_iff.2 ⟨0, cdN wrong, 0, by decide, cdN_b wrong, .inl ⟨rfl, rfl, rfl, rfl⟩⟩) (vG_iff.2 ⟨0, cdN wrong, 1, by decide, cdN_b wrong, .inr (.inl ⟨rfl, rfl, rfl, rfl⟩)⟩) (vG_iff.2 ⟨0, cdN wrong, 2, by decide, cdN_b wrong, .inr (.inr ⟨rfl, rfl, rfl, rfl⟩)⟩)
    rw [tw0_t] at k
    exact k
  · have k := tw1 floor tol wrong place h (by omega) (by omega) (vG_iff.2 ⟨1, cdN wrong, 0, by decide, cdN_b wrong, .inl ⟨rfl, rfl, rfl, rfl⟩⟩) (vG_iff.2 ⟨1, cdN wrong, 1, by decide, cdN_b wrong, .inr (.inl ⟨rfl, rfl, rfl, rfl⟩)⟩) (vG_iff.2 ⟨1, cdN wrong, 2, by decide, cdN_b wrong, .inr (.inr ⟨rfl, rfl, rfl, rfl⟩)⟩)
    rw [tw1_t] at k
    exact k
  · have k := tw2 floor tol wrong place h (by omega) (by omega) (vG_iff.2 ⟨2, cdN wrong, 0, by decide, cdN_b wrong, .inl ⟨rfl, rfl, rfl, rfl⟩⟩) (vG_iff.2 ⟨2, cdN wrong, 1, by decide, cdN_b wrong, .inr (.inl ⟨rfl, rfl, rfl, rfl⟩)⟩) (vG_iff.2 ⟨2, cdN wrong, 2, by decide, cdN_b wrong, .inr (.inr ⟨rfl, rfl, rfl, rfl⟩)⟩)
    rw [tw2_t] at k
    exact k
  · have k := tw3 floor tol wrong place h (by omega) (by omega) (vG_iff.2 ⟨3, cdN wrong, 0, by decide, cdN_b wrong, .inl ⟨rfl, rfl, rfl, rfl⟩⟩) (vG_iff.2 ⟨3, cdN wrong, 1, by decide, cdN_b wrong, .inr (.inl ⟨rfl, rfl, rfl, rfl⟩)⟩) (vG_iff.2 ⟨3, cdN wrong, 2, by decide, cdN_b wrong, .inr (.inr ⟨rfl, rfl, rfl, rfl⟩)⟩)
    rw [tw3_t] at k
    exact k
theorem sensorTwo_true (floor tol wrong place : Int) (w : World) (_ : In64 floor) (_ : In64 tol) (_ : In64 wrong) (_ : In64 place) :
    Calls Try.prog 8 #[.int .i64 floor, .int .i64 tol, .int .i64 wrong, .int .i64 place] w fun e w' => e = .returned (.bool true) ∧ Below w.heap.size w w' :=
  (two_law floor tol wrong place).2.2 w (LaidL.nil w)
end Go.Proofs.Ythjdoeeefighkaa
