/- Layer 2: how many bits a word has, as Go's library counts them (pure). -/
import Derived.IntWalk
namespace Go.Proofs.YtboobndcgilmlaaDoor
set_option linter.unusedVariables false
/-- the number of the lowest n bits that are set -/
def bct : Nat → Nat → Nat
  | 0, _ => 0
  | n + 1, x => x % 2 + bct n (x / 2)
def m55 : Nat → Nat
  | 0 => 0
  | n + 1 => 85 + 256 * m55 n
def m33 : Nat → Nat
  | 0 => 0
  | n + 1 => 51 + 256 * m33 n
def m0f : Nat → Nat
  | 0 => 0
  | n + 1 => 15 + 256 * m0f n
theorem and_byte {b c : Nat} (y z : Nat) (hb : b < 256) (hc : c < 256) : (b + 256 * y) &&& (c + 256 * z) = (b &&& c) + 256 * (y &&& z) := by
  have e : ∀ u v : Nat, u + 256 * v = 2 ^ 8 * v + u := fun u v => by omega
  rw [e, e, e]
  refine Nat.eq_of_testBit_eq fun i => ?_
  rw [Nat.testBit_and, Nat.testBit_two_pow_mul_add y (b := b) (i := 8) hb, Nat.testBit_two_pow_mul_add z (b := c) (i := 8) hc, Nat.testBit_two_pow_mul_add (y &&& z) (b := b &&& c) (i := 8) (Nat.and_lt_two_pow b hc)]
  split <;> rw [Nat.testBit_and]
def s1 (n x : Nat) : Nat := ((x / 2) &&& m55 n) + (x &&& m55 n)
def s2 (n x : Nat) : Nat := ((x / 4) &&& m33 n) + (x &&& m33 n)
def s3 (n x : Nat) : Nat := (x / 16 + x) &&& m0f n
theorem low1 : ∀ b : Fin 256, ∀ t : Fin 2, ((b.val / 2 + 128 * t.val) &&& 85) + (b.val &&& 85) = s1 1 b.val := by decide +kernel
theorem low2 : ∀ b : Fin 256, ∀ t : Fin 4, ((b.val / 4 + 64 * t.val) &&& 51) + (b.val &&& 51) = s2 1 b.val := by decide +kernel
theorem bnd1 : ∀ b : Fin 256, s1 1 b.val < 256 := by decide +kernel
theorem bnd2 : ∀ b : Fin 256, s2 1 (s1 1 b.val) < 256 ∧ s2 1 (s1 1 b.val) % 16 ≤ 4 ∧ s2 1 (s1 1 b.val) / 16 ≤ 4 := by decide +kernel
theorem pop1 : ∀ b : Fin 256, s3 1 (s2 1 (s1 1 b.val)) = bct 8 b.val := by decide +kernel
theorem bct8 : ∀ b : Fin 256, bct 8 b.val ≤ 8 := by decide +kernel
theorem s1_step (n : Nat) {b : Nat} (y : Nat) (hb : b < 256) : s1 (n + 1) (b + 256 * y) = s1 1 b + 256 * s1 n y := by
  have e : (b + 256 * y) / 2 = (b / 2 + 128 * (y % 2)) + 256 * (y / 2) := by omega
  have h := low1 ⟨b, hb⟩ ⟨y % 2, by omega⟩
  simp only at h
  show (((b + 256 * y) / 2) &&& (85 + 256 * m55 n)) + ((b + 256 * y) &&& (85 + 256 * m55 n)) = _
  rw [e, and_byte _ _ (by omega) (by decide), and_byte _ _ hb (by decide), ← h]
  show _ = _ + 256 * (((y / 2) &&& m55 n) + (y &&& m55 n))
  omega
theorem s2_step (n : Nat) {b : Nat} (y : Nat) (hb : b < 256) : s2 (n + 1) (b + 256 * y) = s2 1 b + 256 * s2 n y := by
  have e : (b + 256 * y) / 4 = (b / 4 + 64 * (y % 4)) + 256 * (y / 4) := by omega
  have h := low2 ⟨b, hb⟩ ⟨y % 4, by omega⟩
  simp only at h
  show (((b + 256 * y) / 4) &&& (51 + 256 * m33 n)) + ((b + 256 * y) &&& (51 + 256 * m33 n)) = _
  rw [e, and_byte _ _ (by omega) (by decide), and_byte _ _ hb (by decide), ← h]
  show _ = _ + 256 * (((y / 4) &&& m33 n) + (y &&& m33 n))
  omega
theorem and15 (x : Nat) : x &&& 15 = x % 16 := Nat.and_two_pow_sub_one_eq_mod x 4
theorem s3_step (n : Nat) {b : Nat} (y : Nat) (hb : b % 16 ≤ 4 ∧ b / 16 ≤ 4) (hy : y % 16 ≤ 4) : s3 (n + 1) (b + 256 * y) = s3 1 b + 256 * s3 n y := by
  have e : (b + 256 * y) / 16 + (b + 256 * y) = (b / 16 + 16 * (y % 16) + b) + 256 * (y / 16 + y) := by omega
  show ((b + 256 * y) / 16 + (b + 256 * y)) &&& (15 + 256 * m0f n) = ((b / 16 + b) &&& 15) + 256 * ((y / 16 + y) &&& m0f n)
  rw [e, and_byte _ _ (by omega) (by decide), and15, and15]
  omega
theorem s2_low : ∀ (n x : Nat), s2 n (s1 n x) % 16 ≤ 4
  | 0, x => by simp [s2, s1, m33]
  | n + 1, x => by
    have e : x = x % 256 + 256 * (x / 256) := by omega
    have h1 : s1 1 (x % 256) < 256 := bnd1 ⟨x % 256, by omega⟩
    have h2 : s2 1 (s1 1 (x % 256)) % 16 ≤ 4 := (bnd2 ⟨x % 256, by omega⟩).2.1
    have h3 : s2 (n + 1) (s1 (n + 1) x) = s2 1 (s1 1 (x % 256)) + 256 * s2 n (s1 n (x / 256)) := by
      conv => lhs; rw [e]
      rw [s1_step n _ (by omega), s2_step n _ h1]
    rw [h3]
    omega
def pp8 (n x : Nat) : Nat := s3 n (s2 n (s1 n x))
theorem pp_step (n x : Nat) : pp8 (n + 1) x = bct 8 (x % 256) + 256 * pp8 n (x / 256) := by
  have e : x = x % 256 + 256 * (x / 256) := by omega
  have h := bnd2 ⟨x % 256, by omega⟩
  have p := pop1 ⟨x % 256, by omega⟩
  simp only at h p
  unfold pp8
  conv => lhs; rw [e]
  rw [s1_step n _ (by omega), s2_step n _ (bnd1 ⟨x % 256, by omega⟩), s3_step n _ h.2 (s2_low n _), p]
theorem bct_split : ∀ (k n x : Nat), bct (k + n) x = bct k (x % 2 ^ k) + bct n (x / 2 ^ k)
  | 0, n, x => by simp [bct]
  | k + 1, n, x => by
    rw [show k + 1 + n = (k + n) + 1 by omega]
    show x % 2 + bct (k + n) (x / 2) = (x % 2 ^ (k + 1) % 2 + bct k (x % 2 ^ (k + 1) / 2)) + _
    rw [bct_split k n (x / 2), Nat.div_div_eq_div_mul, show 2 * 2 ^ k = 2 ^ (k + 1) by rw [Nat.pow_succ, Nat.mul_comm]]
    have e1 : x % 2 ^ (k + 1) % 2 = x % 2 := by rw [Nat.pow_succ, Nat.mul_comm]; exact Nat.mod_mul_right_mod x 2 (2 ^ k)
    have e2 : x % 2 ^ (k + 1) / 2 = x / 2 % 2 ^ k := by rw [Nat.pow_succ, Nat.mul_comm]; exact Nat.mod_mul_right_div_self x 2 (2 ^ k)
    rw [e1, e2]
    omega
theorem bct_succ (k x : Nat) : bct (k + 1) x = bct k x + (x.testBit k).toNat := by
  have a := bct_split k 1 x
  have b : bct k x = bct k (x % 2 ^ k) + bct 0 (x / 2 ^ k) := bct_split k 0 x
  have c0 : bct 0 (x / 2 ^ k) = 0 := rfl
  have c1 : bct 1 (x / 2 ^ k) = x / 2 ^ k % 2 := by show _ % 2 + 0 = _; omega
  have e : (x.testBit k).toNat = x / 2 ^ k % 2 := by
    rw [Nat.testBit_eq_decide_div_mod_eq]
    have : x / 2 ^ k % 2 < 2 := Nat.mod_lt _ (by decide)
    generalize x / 2 ^ k % 2 = z at this
    rcases (by omega : z = 0 ∨ z = 1) with rfl | rfl <;> rfl
  rw [e, a, c1]
  omega
theorem bct_le : ∀ (k x : Nat), bct k x ≤ k
  | 0, _ => Nat.le_refl _
  | k + 1, x => by
    have := bct_le k (x / 2)
    show x % 2 + bct k (x / 2) ≤ k + 1
    omega
theorem bct_byte (n x : Nat) : bct (n + 8) x = bct 8 (x % 256) + bct n (x / 256) := by
  rw [Nat.add_comm, bct_split 8 n x]
theorem pp_zero (y : Nat) : pp8 0 y = 0 := by simp [pp8, s3, m0f]
theorem bct_zero (y : Nat) : bct 0 y = 0 := rfl
theorem dv {a q : Nat} (h : a < 256) : (a + 256 * q) / 256 = q := by omega
theorem dv2 {a b q : Nat} (h : a < 256) (h2 : b < 256) : (a + 256 * (b + 256 * q)) / 65536 = q := by omega
theorem dv4 {a b c d q : Nat} (h : a < 256) (h2 : b < 256) (h3 : c < 256) (h4 : d < 256) : (a + 256 * (b + 256 * (c + 256 * (d + 256 * q)))) / 4294967296 = q := by omega
theorem sum8 {c0 c1 c2 c3 c4 c5 c6 c7 y : Nat} (b0 : c0 ≤ 8) (b1 : c1 ≤ 8) (b2 : c2 ≤ 8) (b3 : c3 ≤ 8) (b4 : c4 ≤ 8) (b5 : c5 ≤ 8) (b6 : c6 ≤ 8) (b7 : c7 ≤ 8) (hy : y = c0 + 256 * (c1 + 256 * (c2 + 256 * (c3 + 256 * (c4 + 256 * (c5 + 256 * (c6 + 256 * c7))))))) :
    (y + y / 256 + (y + y / 256) / 65536 + (y + y / 256 + (y + y / 256) / 65536) / 4294967296) % 128 = c0 + c1 + c2 + c3 + c4 + c5 + c6 + c7 ∧ y < 2000000000000000000 := by
  obtain ⟨q6, h6⟩ : ∃ q, q = c6 + 256 * c7 := ⟨_, rfl⟩
  rw [← h6] at hy
  obtain ⟨q5, h5⟩ : ∃ q, q = c5 + 256 * q6 := ⟨_, rfl⟩
  rw [← h5] at hy
  obtain ⟨q4, h4⟩ : ∃ q, q = c4 + 256 * q5 := ⟨_, rfl⟩
  rw [← h4] at hy
  obtain ⟨q3, h3⟩ : ∃ q, q = c3 + 256 * q4 := ⟨_, rfl⟩
  rw [← h3] at hy
  obtain ⟨q2, h2⟩ : ∃ q, q = c2 + 256 * q3 := ⟨_, rfl⟩
  rw [← h2] at hy
  obtain ⟨q1, h1⟩ : ∃ q, q = c1 + 256 * q2 := ⟨_, rfl⟩
  rw [← h1] at hy
  have l6 : q6 < 4096 := by clear hy h1 h2 h3 h4 h5; omega
  have l5 : q5 < 1048576 := by clear hy h1 h2 h3 h4 h6; omega
  have l4 : q4 < 268435456 + 1024 := by clear hy h1 h2 h3 h5 h6; omega
  have l3 : q3 < 68719476736 + 1000000 := by clear hy h1 h2 h4 h5 h6; omega
  have l2 : q2 < 17592186044416 + 1000000000 := by clear hy h1 h3 h4 h5 h6; omega
  have l1 : q1 < 4503599627370496 + 1000000000000 := by clear hy h2 h3 h4 h5 h6; omega
  have e1 : y / 256 = q1 := by rw [hy]; exact dv (by omega)
  have e2 : y + q1 = (c0 + c1) + 256 * ((c1 + c2) + 256 * (q2 + q3)) := by rw [hy]; clear h4 h5 h6 l1 l2 l3 l4 l5 l6; omega
  have e3 : (y + q1) / 65536 = q2 + q3 := by rw [e2]; exact dv2 (by omega) (by omega)
  have e4 : y + q1 + (q2 + q3) = (c0 + c1 + c2 + c3) + 256 * ((c1 + c2 + c3 + c4) + 256 * ((c2 + c3 + c4 + c5) + 256 * ((c3 + c4 + c5 + c6) + 256 * (q4 + q5 + q6 + c7)))) := by
    have f1 : q1 + q2 + q3 + q4 = (c1 + c2 + c3 + c4) + 256 * (q2 + q3 + q4 + q5) := by clear hy h5 h6 l1 l2 l3 l4 l5 l6 e1 e2 e3; omega
    have f2 : q2 + q3 + q4 + q5 = (c2 + c3 + c4 + c5) + 256 * (q3 + q4 + q5 + q6) := by clear hy h1 h6 l1 l2 l3 l4 l5 l6 e1 e2 e3 f1; omega
    have f3 : q3 + q4 + q5 + q6 = (c3 + c4 + c5 + c6) + 256 * (q4 + q5 + q6 + c7) := by clear hy h1 h2 l1 l2 l3 l4 l5 l6 e1 e2 e3 f1 f2; omega
    rw [← f3, ← f2, ← f1, hy]
    clear hy h4 h5 h6 l1 l2 l3 l4 l5 l6 e1 e2 e3 f1 f2 f3
    omega
  have e5 : (y + q1 + (q2 + q3)) / 4294967296 = q4 + q5 + q6 + c7 := by rw [e4]; exact dv4 (by omega) (by omega) (by omega) (by omega)
  refine ⟨?_, by clear h1 h2 h3 h4 h5 h6; omega⟩
  rw [e1, e3, e5, e4]
  clear e5 e4 e3 e2 e1 hy h1 h2 h3 l1 l2 l3
  omega
attribute [local irreducible] bct pp8 in
/-- the last steps: the bytes are added -/
theorem pop_sum (x : Nat) : (pp8 8 x + pp8 8 x / 256 + (pp8 8 x + pp8 8 x / 256) / 65536 + (pp8 8 x + pp8 8 x / 256 + (pp8 8 x + pp8 8 x / 256) / 65536) / 4294967296) % 128 = bct 64 x ∧ pp8 8 x < 2000000000000000000 := by
  have z := pp_zero
  have e0 : pp8 8 (x) = bct 8 (x % 256) + 256 * pp8 7 (x / 256) := pp_step 7 (x)
  have e1 : pp8 7 (x / 256) = bct 8 (x / 256 % 256) + 256 * pp8 6 (x / 256 / 256) := pp_step 6 (x / 256)
  have e2 : pp8 6 (x / 256 / 256) = bct 8 (x / 256 / 256 % 256) + 256 * pp8 5 (x / 256 / 256 / 256) := pp_step 5 (x / 256 / 256)
  have e3 : pp8 5 (x / 256 / 256 / 256) = bct 8 (x / 256 / 256 / 256 % 256) + 256 * pp8 4 (x / 256 / 256 / 256 / 256) := pp_step 4 (x / 256 / 256 / 256)
  have e4 : pp8 4 (x / 256 / 256 / 256 / 256) = bct 8 (x / 256 / 256 / 256 / 256 % 256) + 256 * pp8 3 (x / 256 / 256 / 256 / 256 / 256) := pp_step 3 (x / 256 / 256 / 256 / 256)
  have e5 : pp8 3 (x / 256 / 256 / 256 / 256 / 256) = bct 8 (x / 256 / 256 / 256 / 256 / 256 % 256) + 256 * pp8 2 (x / 256 / 256 / 256 / 256 / 256 / 256) := pp_step 2 (x / 256 / 256 / 256 / 256 / 256)
  have e6 : pp8 2 (x / 256 / 256 / 256 / 256 / 256 / 256) = bct 8 (x / 256 / 256 / 256 / 256 / 256 / 256 % 256) + 256 * pp8 1 (x / 256 / 256 / 256 / 256 / 256 / 256 / 256) := pp_step 1 (x / 256 / 256 / 256 / 256 / 256 / 256)
  have e7 : pp8 1 (x / 256 / 256 / 256 / 256 / 256 / 256 / 256) = bct 8 (x / 256 / 256 / 256 / 256 / 256 / 256 / 256 % 256) + 256 * pp8 0 (x / 256 / 256 / 256 / 256 / 256 / 256 / 256 / 256) := pp_step 0 (x / 256 / 256 / 256 / 256 / 256 / 256 / 256)
  have e : pp8 8 x = bct 8 (x % 256) + 256 * (bct 8 (x / 256 % 256) + 256 * (bct 8 (x / 256 / 256 % 256) + 256 * (bct 8 (x / 256 / 256 / 256 % 256) + 256 * (bct 8 (x / 256 / 256 / 256 / 256 % 256) + 256 * (bct 8 (x / 256 / 256 / 256 / 256 / 256 % 256) + 256 * (bct 8 (x / 256 / 256 / 256 / 256 / 256 / 256 % 256) + 256 * bct 8 (x / 256 / 256 / 256 / 256 / 256 / 256 / 256 % 256))))))) := by
    rw [e0, e1, e2, e3, e4, e5, e6, e7, z, Nat.mul_zero, Nat.add_zero]
  have f0 : bct 64 (x) = bct 8 (x % 256) + bct 56 (x / 256) := bct_byte 56 (x)
  have f1 : bct 56 (x / 256) = bct 8 (x / 256 % 256) + bct 48 (x / 256 / 256) := bct_byte 48 (x / 256)
  have f2 : bct 48 (x / 256 / 256) = bct 8 (x / 256 / 256 % 256) + bct 40 (x / 256 / 256 / 256) := bct_byte 40 (x / 256 / 256)
  have f3 : bct 40 (x / 256 / 256 / 256) = bct 8 (x / 256 / 256 / 256 % 256) + bct 32 (x / 256 / 256 / 256 / 256) := bct_byte 32 (x / 256 / 256 / 256)
  have f4 : bct 32 (x / 256 / 256 / 256 / 256) = bct 8 (x / 256 / 256 / 256 / 256 % 256) + bct 24 (x / 256 / 256 / 256 / 256 / 256) := bct_byte 24 (x / 256 / 256 / 256 / 256)
  have f5 : bct 24 (x / 256 / 256 / 256 / 256 / 256) = bct 8 (x / 256 / 256 / 256 / 256 / 256 % 256) + bct 16 (x / 256 / 256 / 256 / 256 / 256 / 256) := bct_byte 16 (x / 256 / 256 / 256 / 256 / 256)
  have f6 : bct 16 (x / 256 / 256 / 256 / 256 / 256 / 256) = bct 8 (x / 256 / 256 / 256 / 256 / 256 / 256 % 256) + bct 8 (x / 256 / 256 / 256 / 256 / 256 / 256 / 256) := bct_byte 8 (x / 256 / 256 / 256 / 256 / 256 / 256)
  have f7 : bct 8 (x / 256 / 256 / 256 / 256 / 256 / 256 / 256) = bct 8 (x / 256 / 256 / 256 / 256 / 256 / 256 / 256 % 256) + bct 0 (x / 256 / 256 / 256 / 256 / 256 / 256 / 256 / 256) := bct_byte 0 (x / 256 / 256 / 256 / 256 / 256 / 256 / 256)
  have f8 : bct 0 (x / 256 / 256 / 256 / 256 / 256 / 256 / 256 / 256) = 0 := bct_zero _
  have f : bct 64 x = bct 8 (x % 256) + bct 8 (x / 256 % 256) + bct 8 (x / 256 / 256 % 256) + bct 8 (x / 256 / 256 / 256 % 256) + bct 8 (x / 256 / 256 / 256 / 256 % 256) + bct 8 (x / 256 / 256 / 256 / 256 / 256 % 256) + bct 8 (x / 256 / 256 / 256 / 256 / 256 / 256 % 256) + bct 8 (x / 256 / 256 / 256 / 256 / 256 / 256 / 256 % 256) := by
    rw [f0, f1, f2, f3, f4, f5, f6, f7, f8, Nat.add_zero]
    simp only [Nat.add_assoc]
  have b : ∀ y, bct 8 (y % 256) ≤ 8 := fun y => bct_le 8 _
  rw [f]
  exact sum8 (b _) (b _) (b _) (b _) (b _) (b _) (b _) (b _) e
end Go.Proofs.YtboobndcgilmlaaDoor
