/- Layer 2: Count of the program. -/
import Derived.Test.YtboobndcgilmlaaDoorMF
import Derived.Test.YtboobndcgilmlaaDoorMP
namespace Go.Proofs.YtboobndcgilmlaaDoor
open Go Go.RowKit
set_option linter.unusedVariables false
theorem andN {a b : Nat} (ha : a < 18446744073709551616) (hb : b < 18446744073709551616) : IntKind.u64.wrap ((BitVec.ofInt 64 (a : Int) &&& BitVec.ofInt 64 (b : Int)).toNat : Int) = ((a &&& b : Nat) : Int) := by
  rw [wrapU (bv_in _), BitVec.toNat_and, BitVec.toNat_ofInt, BitVec.toNat_ofInt]
  congr 2 <;> omega
theorem fdN (a k : Nat) (hk : 0 < k) : (a : Int).fdiv (k : Int) = ((a / k : Nat) : Int) := by
  rw [Int.fdiv_eq_ediv_of_nonneg _ (by omega)]; rfl
theorem addN {a b : Nat} (h : a + b < 18446744073709551616) : IntKind.u64.wrap ((a : Int) + (b : Int)) = ((a + b : Nat) : Int) := by rw [wrapU ⟨by omega, by omega⟩]; omega
theorem v55 : m55 8 = 6148914691236517205 := by decide
theorem v33 : m33 8 = 3689348814741910323 := by decide
theorem v0f : m0f 8 = 1085102592571150095 := by decide
theorem pA1 {n : Nat} (h : n < 18446744073709551616) : IntKind.u64.wrap (IntKind.u64.wrap ((BitVec.ofInt 64 ((n : Int).fdiv 2) &&& BitVec.ofInt 64 6148914691236517205).toNat : Int) + IntKind.u64.wrap ((BitVec.ofInt 64 (n : Int) &&& BitVec.ofInt 64 6148914691236517205).toNat : Int)) = ((s1 8 n : Nat) : Int) ∧ s1 8 n ≤ 12297829382473034410 := by
  have b1 : (n / 2) &&& 6148914691236517205 ≤ 6148914691236517205 := Nat.and_le_right
  have b2 : n &&& 6148914691236517205 ≤ 6148914691236517205 := Nat.and_le_right
  have e : s1 8 n = ((n / 2) &&& 6148914691236517205) + (n &&& 6148914691236517205) := by unfold s1; rw [v55]
  rw [e, show (2 : Int) = ((2 : Nat) : Int) from rfl, fdN n 2 (by decide), show (6148914691236517205 : Int) = ((6148914691236517205 : Nat) : Int) from rfl, andN (by omega) (by decide), andN h (by decide), addN (by omega)]
  exact ⟨rfl, by omega⟩
theorem pA2 {n : Nat} (h : n < 18446744073709551616) : IntKind.u64.wrap (IntKind.u64.wrap ((BitVec.ofInt 64 ((n : Int).fdiv 4) &&& BitVec.ofInt 64 3689348814741910323).toNat : Int) + IntKind.u64.wrap ((BitVec.ofInt 64 (n : Int) &&& BitVec.ofInt 64 3689348814741910323).toNat : Int)) = ((s2 8 n : Nat) : Int) ∧ s2 8 n ≤ 7378697629483820646 := by
  have b1 : (n / 4) &&& 3689348814741910323 ≤ 3689348814741910323 := Nat.and_le_right
  have b2 : n &&& 3689348814741910323 ≤ 3689348814741910323 := Nat.and_le_right
  have e : s2 8 n = ((n / 4) &&& 3689348814741910323) + (n &&& 3689348814741910323) := by unfold s2; rw [v33]
  rw [e, show (4 : Int) = ((4 : Nat) : Int) from rfl, fdN n 4 (by decide), show (3689348814741910323 : Int) = ((3689348814741910323 : Nat) : Int) from rfl, andN (by omega) (by decide), andN h (by decide), addN (by omega)]
  exact ⟨rfl, by omega⟩
theorem pA3 {n : Nat} (h : n ≤ 7378697629483820646) : IntKind.u64.wrap ((BitVec.ofInt 64 (IntKind.u64.wrap ((n : Int).fdiv 16 + (n : Int))) &&& BitVec.ofInt 64 1085102592571150095).toNat : Int) = ((s3 8 n : Nat) : Int) := by
  have e : s3 8 n = (n / 16 + n) &&& 1085102592571150095 := by unfold s3; rw [v0f]
  rw [e, show (16 : Int) = ((16 : Nat) : Int) from rfl, fdN n 16 (by decide), addN (by omega), show (1085102592571150095 : Int) = ((1085102592571150095 : Nat) : Int) from rfl, andN (by omega) (by decide)]
theorem pA4 {n k : Nat} (h : n < 4000000000000000000) (hk : 0 < k) : IntKind.u64.wrap ((n : Int) + (n : Int).fdiv (k : Int)) = ((n + n / k : Nat) : Int) := by
  have := Nat.div_le_self n k
  rw [fdN n k hk, addN (by omega)]
theorem pA7 {n : Nat} (h : n < 8000000000000000000) : IntKind.i64.wrap ((BitVec.ofInt 64 (IntKind.i64.wrap (n : Int)) &&& BitVec.ofInt 64 127).toNat : Int) = ((n % 128 : Nat) : Int) := by
  have e : ∀ x : Nat, x &&& 127 = x % 128 := fun x => Nat.and_two_pow_sub_one_eq_mod x 7
  have w : IntKind.i64.wrap (n : Int) = (n : Int) := Go.IntWalk.i64_in _ ⟨by omega, by omega⟩
  have t : (BitVec.ofInt 64 (n : Int) &&& BitVec.ofInt 64 127).toNat = n % 128 := by
    rw [BitVec.toNat_and, BitVec.toNat_ofInt, BitVec.toNat_ofInt, show ((127 : Int) % ((2 ^ 64 : Nat) : Int)).toNat = 127 by decide, e]
    congr 1
    omega
  rw [w, t]
  exact Go.IntWalk.i64_in _ ⟨by omega, by omega⟩
/-- how many floors are in a set -/
def bctI (m : Int) : Int := (bct 64 m.toNat : Nat)
theorem count_is {m : Int} (h : isW m = true) : coP_c0 m = bctI m := by
  have hm := isW_iff.1 h
  obtain ⟨n, rfl⟩ := Int.eq_ofNat_of_zero_le hm.1
  have hn : n < 18446744073709551616 := by omega
  unfold coP_c0 bctI
  obtain ⟨e1, b1⟩ := pA1 hn
  rw [e1]
  obtain ⟨e2, b2⟩ := pA2 (n := s1 8 n) (by omega)
  rw [e2, pA3 b2]
  have ps := pop_sum n
  rw [show s3 8 (s2 8 (s1 8 n)) = pp8 8 n from rfl]
  generalize pp8 8 n = y at ps
  obtain ⟨p1, p2⟩ := ps
  rw [show (256 : Int) = ((256 : Nat) : Int) from rfl, show (65536 : Int) = ((65536 : Nat) : Int) from rfl, show (4294967296 : Int) = ((4294967296 : Nat) : Int) from rfl]
  have d1 := Nat.div_mul_le_self y 256
  rw [pA4 (n := y) (k := 256) (by omega) (by decide)]
  generalize hz : y + y / 256 = z at p1
  have d2 := Nat.div_mul_le_self z 65536
  rw [pA4 (n := z) (k := 65536) (by omega) (by decide)]
  generalize hu : z + z / 65536 = u at p1
  have d3 := Nat.div_mul_le_self u 4294967296
  rw [pA4 (n := u) (k := 4294967296) (by omega) (by decide), pA7 (by omega), p1]
  simp
theorem count_k {m : Int} (h : isW m = true) : Known Tryd.prog knMaskKnownL 19 [.int .u64 m] (.int .i64 (bctI m)) := by
  have := coP m h
  rwa [count_is h] at this
theorem bct_b (m : Int) : 0 ≤ bctI m ∧ bctI m ≤ 64 := by
  have := bct_le 64 m.toNat
  unfold bctI; omega
end Go.Proofs.YtboobndcgilmlaaDoor
