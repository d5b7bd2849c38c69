/- Layer 1: exact integers in two words, without the program. -/
import Derived.Test.YteohnhjhdlcpiaaKit2
namespace Go.Proofs.Yteohnhjhdlcpiaa
set_option linter.unusedVariables false

/-- the two words of an exact integer -/
def HI (v : Int) : Int := (v / 18446744073709551616) % 18446744073709551616
def LO (v : Int) : Int := v % 18446744073709551616
def Is127 (v : Int) : Prop := -170141183460469231731687303715884105728 ≤ v ∧ v < 170141183460469231731687303715884105728
theorem hi_rng (v : Int) : 0 ≤ HI v ∧ HI v < 18446744073709551616 := by unfold HI; omega
theorem lo_rng (v : Int) : 0 ≤ LO v ∧ LO v < 18446744073709551616 := by unfold LO; omega
theorem w_add (u v : Int) : (HI u + HI v + (LO u + LO v) / 18446744073709551616) % 18446744073709551616 = HI (u + v) ∧ (LO u + LO v) % 18446744073709551616 = LO (u + v) := by
  unfold HI LO; omega
theorem w_not (v : Int) : 18446744073709551615 - HI v = HI (-v - 1) ∧ 18446744073709551615 - LO v = LO (-v - 1) := by
  unfold HI LO; omega
theorem w_of {n : Int} (h : In64 n) : HI n = (n / 9223372036854775808) % 18446744073709551616 ∧ LO n = n % 18446744073709551616 := by
  unfold In64 at h; unfold HI LO; omega
theorem w_sign {v : Int} (h : Is127 v) : HI v / 9223372036854775808 = if v < 0 then 1 else 0 := by
  unfold Is127 at h; unfold HI; split <;> omega
theorem w_eq {u v : Int} (hu : Is127 u) (hv : Is127 v) (h1 : HI u = HI v) (h2 : LO u = LO v) : u = v := by
  unfold Is127 at hu hv; unfold HI at h1; unfold LO at h2; omega
theorem w_pos {p : Int} (h0 : 0 ≤ p) (h : Is127 p) : HI p = p / 18446744073709551616 := by
  unfold Is127 at h; unfold HI; omega
theorem w_split {v by' : Int} (h0 : 0 ≤ v) (hv : Is127 v) (hb : 1 ≤ by') (hb2 : by' ≤ 9223372036854775808) :
    HI v / by' = HI (v / by') ∧ (HI v % by' * 18446744073709551616 + LO v) / by' = LO (v / by') ∧ (HI v % by' * 18446744073709551616 + LO v) % by' = v % by' ∧ HI v % by' < by' ∧ 0 ≤ HI v % by' := by
  have e1 := w_pos h0 hv
  obtain ⟨q, hq⟩ : ∃ q, q = HI v / by' := ⟨_, rfl⟩
  obtain ⟨r, hr⟩ : ∃ r, r = HI v % by' := ⟨_, rfl⟩
  have e2 : HI v = by' * q + r := by rw [hq, hr]; exact (Int.mul_ediv_add_emod _ _).symm
  have r0 : 0 ≤ r := by rw [hr]; exact Int.emod_nonneg _ (by omega)
  have r1 : r < by' := by rw [hr]; exact Int.emod_lt_of_pos _ (by omega)
  have hh := hi_rng v
  have q0 : 0 ≤ q := by rw [hq]; exact Int.ediv_nonneg hh.1 (by omega)
  have q1 : q ≤ HI v := by rw [hq]; exact Int.ediv_le_self _ hh.1
  obtain ⟨l0, l1⟩ := lo_rng v
  have hv2 : v = HI v * 18446744073709551616 + LO v := by rw [e1]; unfold LO; omega
  obtain ⟨X, hX⟩ : ∃ X, X = r * 18446744073709551616 + LO v := ⟨_, rfl⟩
  have hv3 : v = X + by' * (q * 18446744073709551616) := by
    rw [hX, hv2, e2, Int.add_mul, Int.mul_assoc]
    have : LO (by' * (q * 18446744073709551616) + r * 18446744073709551616 + LO v) = LO v := by
      rw [← Int.mul_assoc, ← Int.add_mul, ← e2, ← hv2]
    omega
  have hd : v / by' = X / by' + q * 18446744073709551616 := by
    conv => lhs; rw [hv3]
    rw [Int.add_mul_ediv_left _ _ (by omega)]
  have hm : v % by' = X % by' := by
    conv => lhs; rw [hv3]
    rw [Int.add_mul_emod_self_left]
  have hX0 : 0 ≤ X := by omega
  have hXl : X < by' * 18446744073709551616 := by
    have : (r + 1) * 18446744073709551616 ≤ by' * 18446744073709551616 := Int.mul_le_mul_of_nonneg_right (by omega) (by omega)
    omega
  have d0 : 0 ≤ X / by' := Int.ediv_nonneg hX0 (by omega)
  have d1 : X / by' < 18446744073709551616 := Int.ediv_lt_of_lt_mul (by omega) (by rw [Int.mul_comm]; exact hXl)
  rw [← hq, ← hr, ← hX]
  refine ⟨?_, ?_, hm.symm, r1, r0⟩
  · rw [hd]; unfold HI; omega
  · rw [hd]; unfold LO; omega
def mag (n : Int) : Int := if n < 0 then -n else n
theorem mag_def (n : Int) : mag n = if n < 0 then -n else n := rfl
theorem mag_rng {n : Int} (h : In64 n) : 0 ≤ mag n ∧ mag n ≤ 9223372036854775808 := by unfold In64 at h; unfold mag; split <;> omega
theorem mag_mul {a b : Int} (ha : In64 a) (hb : In64 b) : 0 ≤ mag a * mag b ∧ mag a * mag b ≤ 85070591730234615865843651857942052864 := by
  obtain ⟨a0, a1⟩ := mag_rng ha
  obtain ⟨b0, b1⟩ := mag_rng hb
  refine ⟨Int.mul_nonneg a0 b0, ?_⟩
  have h1 : mag a * mag b ≤ 9223372036854775808 * mag b := Int.mul_le_mul_of_nonneg_right a1 b0
  omega
theorem mag_sign (a b : Int) : a * b = if (decide (a < 0) != decide (b < 0)) = true then -(mag a * mag b) else mag a * mag b := by
  unfold mag
  by_cases ha : a < 0 <;> by_cases hb : b < 0 <;> simp [ha, hb, Int.neg_mul, Int.mul_neg]
end Go.Proofs.Yteohnhjhdlcpiaa
