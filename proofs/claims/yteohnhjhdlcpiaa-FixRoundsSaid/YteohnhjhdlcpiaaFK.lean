/- Layer 1: FixRounds. -/
import Derived.Test.YteohnhjhdlcpiaaFJ
namespace Go.Proofs.Yteohnhjhdlcpiaa
open Go.RowKit
set_option linter.unusedVariables false

theorem roundFacts {A B : Int} (hA : -1073741824 < A ∧ A < 1073741824) (hB : -1073741824 < B ∧ B < 1073741824) (hB0 : B ≠ 0) : ∃ a' b' L H Nn X Y : Int,
    ((0 < B ∧ a' = A ∧ b' = B) ∨ (B < 0 ∧ a' = -A ∧ b' = -B)) ∧ scl A B 1 = L ∧ scl A B 2 = H ∧ scl A B 3 = Nn ∧ L * b' = X ∧ H * b' = Y ∧ -1073741825 ≤ L ∧ L ≤ 1073741825 ∧ 0 < b' ∧
    ((H = L ∧ Nn = L ∧ X = a' ∧ Y = a') ∨ (H = L + 1 ∧ Y = X + b' ∧ X < a' ∧ a' < Y ∧ ((Nn = L ∧ (a' - X < Y - a' ∨ (a' - X = Y - a' ∧ L % 2 = 0))) ∨ (Nn = L + 1 ∧ (Y - a' < a' - X ∨ (a' - X = Y - a' ∧ L % 2 = 1)))))) := by
  obtain ⟨q, hq⟩ : ∃ q, q = mag A / mag B := ⟨_, rfl⟩
  obtain ⟨r, hr⟩ : ∃ r, r = mag A % mag B := ⟨_, rfl⟩
  obtain ⟨y, hy⟩ : ∃ y, y = mag B := ⟨_, rfl⟩
  have y1 : 1 ≤ y ∧ y < 1073741824 := by rw [hy]; unfold mag; split <;> omega
  have m1 : 0 ≤ mag A ∧ mag A < 1073741824 := by unfold mag; split <;> omega
  have r0 : 0 ≤ r := by rw [hr]; exact Int.emod_nonneg _ (by omega)
  have r1 : r < y := by rw [hr, hy]; exact Int.emod_lt_of_pos _ (by omega)
  have q0 : 0 ≤ q := by rw [hq]; exact Int.ediv_nonneg m1.1 (by omega)
  have q1 : q ≤ mag A := by rw [hq]; exact Int.ediv_le_self _ m1.1
  obtain ⟨P, hP⟩ : ∃ P, P = q * y := ⟨_, rfl⟩
  have hPr : mag A = P + r := by
    have := Int.mul_ediv_add_emod (mag A) (mag B)
    rw [← hq, ← hr, ← hy] at this
    rw [hP, Int.mul_comm]; omega
  obtain ⟨s, hs⟩ : ∃ s, s = (decide (A < 0) != decide (B < 0)) := ⟨_, rfl⟩
  have e1 : qS A B 1 = if r ≠ 0 ∧ s = true then q + 1 else q := by
    unfold qS upB
    rw [← hq, ← hr, ← hs]
    by_cases h : r = 0 <;> cases s <;> simp [h]
  have e2 : qS A B 2 = if r ≠ 0 ∧ s = false then q + 1 else q := by
    unfold qS upB
    rw [← hq, ← hr, ← hs]
    by_cases h : r = 0 <;> cases s <;> simp [h]
  have e3 : qS A B 3 = if r ≠ 0 ∧ (y - r < r ∨ (r = y - r ∧ q % 2 = 1)) then q + 1 else q := by
    have hup : (if r ≠ y - r then decide (y - r < r) else decide (q % 2 = 1)) = decide (y - r < r ∨ (r = y - r ∧ q % 2 = 1)) := by
      by_cases h2 : r = y - r
      · rw [if_neg (fun h => h h2), decide_eq_decide]; omega
      · rw [if_pos h2, decide_eq_decide]; omega
    unfold qS upB
    rw [← hq, ← hr, ← hs, ← hy, if_pos rfl, hup]
    obtain ⟨c, hc⟩ : ∃ c : Prop, c = (y - r < r ∨ (r = y - r ∧ q % 2 = 1)) := ⟨_, rfl⟩
    by_cases h : r = 0 <;> by_cases hu : (y - r < r ∨ (r = y - r ∧ q % 2 = 1)) <;> simp only [h, hu, decide_true, decide_false, not_true, not_false_iff, ne_eq, Bool.true_and, Bool.false_and, if_true, if_false, and_true, true_and, false_and, and_false, Bool.false_eq_true] <;> omega
  have p1 : (q + 1) * y = P + y := by rw [Int.add_mul, Int.one_mul, hP]
  have p2 : -q * y = -P := by rw [Int.neg_mul, hP]
  have p3 : -(q + 1) * y = -P - y := by rw [Int.neg_mul, p1]; omega
  have s1 : s = true → scl A B 1 = -qS A B 1 ∧ scl A B 2 = -qS A B 2 ∧ scl A B 3 = -qS A B 3 := fun h => by
    unfold scl; rw [← hs, h]; simp
  have s2 : s = false → scl A B 1 = qS A B 1 ∧ scl A B 2 = qS A B 2 ∧ scl A B 3 = qS A B 3 := fun h => by
    unfold scl; rw [← hs, h]; simp
  cases s
  · obtain ⟨c1, c2, c3⟩ := s2 rfl
    have hsg : ((0 < B ∧ mag A = A ∧ y = B) ∨ (B < 0 ∧ mag A = -A ∧ y = -B)) := by
      rw [hy]
      by_cases hA0 : A < 0 <;> by_cases hB1 : B < 0 <;> simp [hA0, hB1] at hs
      · right; unfold mag; rw [if_pos hA0, if_pos hB1]; exact ⟨hB1, rfl, rfl⟩
      · left; unfold mag; rw [if_neg hA0, if_neg hB1]; exact ⟨by omega, rfl, rfl⟩
    by_cases hr0 : r = 0
    · rw [if_neg (by simp [hr0])] at e1 e2 e3
      exact ⟨mag A, y, q, q, q, P, P, hsg, by rw [c1, e1], by rw [c2, e2], by rw [c3, e3], hP.symm, hP.symm, by omega, by omega, by omega, .inl ⟨rfl, rfl, by omega, by omega⟩⟩
    · rw [if_neg (by simp)] at e1
      rw [if_pos ⟨hr0, rfl⟩] at e2
      by_cases hu : y - r < r ∨ (r = y - r ∧ q % 2 = 1)
      · rw [if_pos ⟨hr0, hu⟩] at e3
        exact ⟨mag A, y, q, q + 1, q + 1, P, P + y, hsg, by rw [c1, e1], by rw [c2, e2], by rw [c3, e3], hP.symm, p1, by omega, by omega, by omega, .inr ⟨rfl, rfl, by omega, by omega, .inr ⟨rfl, by omega⟩⟩⟩
      · rw [if_neg (fun h => hu h.2)] at e3
        exact ⟨mag A, y, q, q + 1, q, P, P + y, hsg, by rw [c1, e1], by rw [c2, e2], by rw [c3, e3], hP.symm, p1, by omega, by omega, by omega, .inr ⟨rfl, rfl, by omega, by omega, .inl ⟨rfl, by omega⟩⟩⟩
  · obtain ⟨c1, c2, c3⟩ := s1 rfl
    have hsg : ((0 < B ∧ -mag A = A ∧ y = B) ∨ (B < 0 ∧ -mag A = -A ∧ y = -B)) := by
      rw [hy]
      by_cases hA0 : A < 0 <;> by_cases hB1 : B < 0 <;> simp [hA0, hB1] at hs
      · left; unfold mag; rw [if_pos hA0, if_neg hB1]; exact ⟨by omega, by omega, rfl⟩
      · right; unfold mag; rw [if_neg hA0, if_pos hB1]; exact ⟨hB1, rfl, rfl⟩
    by_cases hr0 : r = 0
    · rw [if_neg (by simp [hr0])] at e1 e2 e3
      exact ⟨-mag A, y, -q, -q, -q, -P, -P, hsg, by rw [c1, e1], by rw [c2, e2], by rw [c3, e3], p2, p2, by omega, by omega, by omega, .inl ⟨rfl, rfl, by omega, by omega⟩⟩
    · rw [if_pos ⟨hr0, rfl⟩] at e1
      rw [if_neg (by simp)] at e2
      by_cases hu : y - r < r ∨ (r = y - r ∧ q % 2 = 1)
      · rw [if_pos ⟨hr0, hu⟩] at e3
        exact ⟨-mag A, y, -(q + 1), -q, -(q + 1), -P - y, -P, hsg, by rw [c1, e1], by rw [c2, e2], by rw [c3, e3], p3, p2, by omega, by omega, by omega, .inr ⟨by omega, by omega, by omega, by omega, .inl ⟨rfl, by omega⟩⟩⟩
      · rw [if_neg (fun h => hu h.2)] at e3
        exact ⟨-mag A, y, -(q + 1), -q, -q, -P - y, -P, hsg, by rw [c1, e1], by rw [c2, e2], by rw [c3, e3], p3, p2, by omega, by omega, by omega, .inr ⟨by omega, by omega, by omega, by omega, .inr ⟨by omega, by omega⟩⟩⟩
end Go.Proofs.Yteohnhjhdlcpiaa
