/- Layer 1: the digit of a division by two digits (Knuth), without the program. -/
import Derived.Test.YteohnhjhdlcpiaaKit2
namespace Go.Proofs.Yteohnhjhdlcpiaa
set_option linter.unusedVariables false

/-- at the loop's head: q1 is no less than the digit, r is what it leaves of u by y's upper digit -/
structure Dig (u c y1 y0 q1 r : Int) : Prop where
  sum : q1 * y1 + r = u
  r0 : 0 ≤ r
  r1 : r < 4294967296
  q0 : 0 ≤ q1
  le : (u * 4294967296 + c) / (y1 * 4294967296 + y0) ≤ q1
  q2 : q1 ≤ 4294967297

section
variable {u c y1 y0 : Int} (hy : 2147483648 ≤ y1 ∧ y1 < 4294967296) (hy0 : 0 ≤ y0 ∧ y0 < 4294967296) (hc : 0 ≤ c ∧ c < 4294967296) (hu : 0 ≤ u ∧ u < y1 * 4294967296 + y0)
include hy hy0 hc hu

theorem dig_small : (u * 4294967296 + c) / (y1 * 4294967296 + y0) < 4294967296 := by
  have _ := hy
  have _ := hy0
  refine Int.ediv_lt_of_lt_mul (by omega) ?_
  rw [Int.mul_comm]
  omega
theorem dig_pos : 0 ≤ (u * 4294967296 + c) / (y1 * 4294967296 + y0) := Int.ediv_nonneg (by omega) (by omega)
/-- a number whose product fits is no more than the digit -/
theorem dig_ge {q : Int} (h : q * (y1 * 4294967296 + y0) ≤ u * 4294967296 + c) : q ≤ (u * 4294967296 + c) / (y1 * 4294967296 + y0) := by
  have _ := hy
  have _ := hy0
  have _ := hc
  exact Int.le_ediv_of_mul_le (by omega) h
theorem dig_lt {q : Int} (h : u * 4294967296 + c < q * (y1 * 4294967296 + y0)) : (u * 4294967296 + c) / (y1 * 4294967296 + y0) < q := by
  have _ := hy
  have _ := hy0
  have _ := hc
  exact Int.ediv_lt_of_lt_mul (by omega) h
theorem dig_start : Dig u c y1 y0 (u / y1) (u % y1) := by
  have e := Int.mul_ediv_add_emod u y1
  have r0 := Int.emod_nonneg u (b := y1) (by omega)
  have r1 := Int.emod_lt_of_pos u (b := y1) (by omega)
  have q0 : 0 ≤ u / y1 := Int.ediv_nonneg hu.1 (by omega)
  refine ⟨by rw [Int.mul_comm]; exact e, r0, by omega, q0, ?_, ?_⟩
  · obtain ⟨q, hq⟩ : ∃ q, q = (u * 4294967296 + c) / (y1 * 4294967296 + y0) := ⟨_, rfl⟩
    rw [← hq]
    have hq0 : 0 ≤ q := by rw [hq]; exact dig_pos hy hy0 hc hu
    have h1 : q * (y1 * 4294967296 + y0) ≤ u * 4294967296 + c := by
      rw [hq, Int.mul_comm]; exact Int.mul_ediv_self_le (by omega)
    have h2 : q * (y1 * 4294967296 + y0) = (q * y1) * 4294967296 + q * y0 := by rw [Int.mul_add, Int.mul_assoc]
    have h3 : 0 ≤ q * y0 := Int.mul_nonneg hq0 hy0.1
    exact Int.le_ediv_of_mul_le (by omega) (by omega)
  · have h1 : u / y1 < 4294967298 := by
      refine Int.ediv_lt_of_lt_mul (by omega) ?_
      omega
    omega
theorem dig_exit {q1 r : Int} (d : Dig u c y1 y0 q1 r) (h1 : q1 < 4294967296) (h2 : q1 * y0 ≤ 4294967296 * r + c) : q1 = (u * 4294967296 + c) / (y1 * 4294967296 + y0) := by
  have e : q1 * (y1 * 4294967296 + y0) = (q1 * y1) * 4294967296 + q1 * y0 := by rw [Int.mul_add, Int.mul_assoc]
  have hs := d.sum
  have := dig_ge hy hy0 hc hu (q := q1) (by omega)
  have := d.le
  omega
theorem dig_less {q1 r : Int} (d : Dig u c y1 y0 q1 r) (h : 4294967296 ≤ q1 ∨ 4294967296 * r + c < q1 * y0) : (u * 4294967296 + c) / (y1 * 4294967296 + y0) ≤ q1 - 1 := by
  rcases h with h | h
  · have := dig_small hy hy0 hc hu; omega
  · have e : q1 * (y1 * 4294967296 + y0) = (q1 * y1) * 4294967296 + q1 * y0 := by rw [Int.mul_add, Int.mul_assoc]
    have hs := d.sum
    have := dig_lt hy hy0 hc hu (q := q1) (by omega)
    omega
theorem dig_next {q1 r : Int} (d : Dig u c y1 y0 q1 r) (h : 4294967296 ≤ q1 ∨ 4294967296 * r + c < q1 * y0) (h2 : r + y1 < 4294967296) : Dig u c y1 y0 (q1 - 1) (r + y1) := by
  have hl := dig_less hy hy0 hc hu d h
  have hp := dig_pos hy hy0 hc hu
  have hs := d.sum
  have e : (q1 - 1) * y1 = q1 * y1 - y1 := by rw [Int.sub_mul, Int.one_mul]
  exact ⟨by omega, by have := d.r0; omega, h2, by omega, hl, by have := d.q2; omega⟩
theorem dig_break {q1 r : Int} (d : Dig u c y1 y0 q1 r) (h : 4294967296 ≤ q1 ∨ 4294967296 * r + c < q1 * y0) (h2 : 4294967296 ≤ r + y1) : q1 - 1 = (u * 4294967296 + c) / (y1 * 4294967296 + y0) := by
  have hl := dig_less hy hy0 hc hu d h
  have hp := dig_pos hy hy0 hc hu
  have hs := d.sum
  have e : (q1 - 1) * y1 = q1 * y1 - y1 := by rw [Int.sub_mul, Int.one_mul]
  have hq : q1 - 1 ≤ 4294967296 := by have := d.q2; omega
  have h3 : (q1 - 1) * y0 ≤ 4294967296 * y0 := Int.mul_le_mul_of_nonneg_right hq hy0.1
  have e2 : (q1 - 1) * (y1 * 4294967296 + y0) = ((q1 - 1) * y1) * 4294967296 + (q1 - 1) * y0 := by rw [Int.mul_add, Int.mul_assoc]
  have := dig_ge hy hy0 hc hu (q := q1 - 1) (by omega)
  omega
/-- the sizes of what the loop reckons with -/
theorem dig_size {q1 r : Int} (d : Dig u c y1 y0 q1 r) : 0 ≤ q1 * y0 ∧ q1 * y0 < 18446744073709551616 := by
  have _ := hy
  have _ := hc
  have _ := hu
  have h3 : q1 * y0 ≤ 4294967297 * y0 := Int.mul_le_mul_of_nonneg_right d.q2 hy0.1
  exact ⟨Int.mul_nonneg d.q0 hy0.1, by omega⟩
end
/-- two digits, one after the other, make the quotient of the whole -/
theorem div_two {u c1 c0 y q1 q0 : Int} (hy : 0 < y) (h1 : q1 = (u * 4294967296 + c1) / y) (h0 : q0 = ((u * 4294967296 + c1 - q1 * y) * 4294967296 + c0) / y) :
    ((u * 4294967296 + c1) * 4294967296 + c0) / y = q1 * 4294967296 + q0 ∧ ((u * 4294967296 + c1) * 4294967296 + c0) % y = (u * 4294967296 + c1 - q1 * y) * 4294967296 + c0 - q0 * y := by
  obtain ⟨r1, hr1⟩ : ∃ r1, r1 = u * 4294967296 + c1 - q1 * y := ⟨_, rfl⟩
  rw [← hr1] at h0 ⊢
  have e : (u * 4294967296 + c1) * 4294967296 + c0 = (r1 * 4294967296 + c0) + y * (q1 * 4294967296) := by
    have e1 : u * 4294967296 + c1 = r1 + q1 * y := by omega
    have e2 : y * (q1 * 4294967296) = (q1 * y) * 4294967296 := by rw [← Int.mul_assoc, Int.mul_comm y q1]
    rw [e1, e2]; omega
  rw [e, Int.add_mul_ediv_left _ _ (by omega), Int.add_mul_emod_self_left, ← h0]
  refine ⟨by omega, ?_⟩
  have := Int.mul_ediv_add_emod (r1 * 4294967296 + c0) y
  rw [← h0, Int.mul_comm] at this
  omega
theorem div_rest {u c y q : Int} (hy : 0 < y) (h : q = (u * 4294967296 + c) / y) : 0 ≤ u * 4294967296 + c - q * y ∧ u * 4294967296 + c - q * y < y := by
  have e := Int.mul_ediv_add_emod (u * 4294967296 + c) y
  rw [← h, Int.mul_comm] at e
  have := Int.emod_nonneg (u * 4294967296 + c) (b := y) (by omega)
  have := Int.emod_lt_of_pos (u * 4294967296 + c) (b := y) (by omega)
  omega
/-- a shift of both changes the quotient not -/
theorem div_shift (V y K : Int) (hK : 0 < K) : (V * K) / (y * K) = V / y ∧ (V * K) % (y * K) = (V % y) * K :=
  ⟨Int.mul_ediv_mul_of_pos_left _ _ hK, by rw [Int.mul_comm V K, Int.mul_comm y K, Int.mul_emod_mul_of_pos _ _ hK, Int.mul_comm]⟩
end Go.Proofs.Yteohnhjhdlcpiaa
