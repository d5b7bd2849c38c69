/- Layer 1: the division of two words by one, for any numbers. -/
import Derived.Test.YteohnhjhdlcpiaaFP
import Derived.Test.YteohnhjhdlcpiaaFQ
namespace Go.Proofs.Yteohnhjhdlcpiaa
open Go.RowKit
set_option linter.unusedVariables false

/-- the shift that fills the word -/
def fillS (y : Int) : Int := 64 - (bitLen y.toNat : Nat)
theorem fill_rng {y : Int} (h0 : 1 ≤ y) (h1 : y < 18446744073709551616) : 0 ≤ fillS y ∧ fillS y ≤ 63 ∧ 9223372036854775808 ≤ y * 2 ^ (fillS y).toNat ∧ y * 2 ^ (fillS y).toNat < 18446744073709551616 := by
  obtain ⟨n, rfl⟩ := Int.eq_ofNat_of_zero_le (show 0 ≤ y by omega)
  obtain ⟨a, b⟩ := bitLen_spec n
  have b := b (by omega)
  obtain ⟨L, hL⟩ : ∃ L, L = bitLen n := ⟨_, rfl⟩
  have hf : fillS (n : Int) = 64 - (L : Int) := by unfold fillS; rw [hL]; rfl
  rw [← hL] at a b
  have l1 : 1 ≤ L := by
    rcases Nat.eq_zero_or_pos L with h | h
    · subst h; simp at a; omega
    · exact h
  have l2 : L ≤ 64 := by
    refine Nat.le_of_not_lt fun h => ?_
    have : 2 ^ 64 ≤ 2 ^ (L - 1) := Nat.pow_le_pow_right (by decide) (by omega)
    omega
  rw [hf]
  have e : (64 - (L : Int)).toNat = 64 - L := by omega
  rw [e]
  have p1 : 2 ^ (L - 1) * 2 ^ (64 - L) = 2 ^ 63 := by rw [← Nat.pow_add]; congr 1; omega
  have p2 : 2 ^ L * 2 ^ (64 - L) = 2 ^ 64 := by rw [← Nat.pow_add]; congr 1; omega
  have q1 : 2 ^ (L - 1) * 2 ^ (64 - L) ≤ n * 2 ^ (64 - L) := Nat.mul_le_mul_right _ b
  have q2 : n * 2 ^ (64 - L) < 2 ^ L * 2 ^ (64 - L) := Nat.mul_lt_mul_of_pos_right a (Nat.two_pow_pos _)
  rw [p1] at q1
  rw [p2] at q2
  have c : ((n : Int) * 2 ^ (64 - L)) = ((n * 2 ^ (64 - L) : Nat) : Int) := by simp
  rw [c]
  omega
theorem plzA (x : Int) (w : World) (h0 : 1 ≤ x) (h1 : x < 18446744073709551616) : Calls Try.prog 64 #[.int .u64 x] w fun e w' => e = .returned (.int .i64 (fillS x)) ∧ Below w.heap.size w w' := by
  obtain ⟨r0, r1, _, _⟩ := fill_rng h0 h1
  have e1 : wrap64 (64 - ((bitLen x.toNat : Nat) : Int)) = fillS x := by
    unfold fillS at r0 r1 ⊢
    unfold wrap64
    omega
  have E1 := Lib.hid e1
  clear e1 r0 r1
  go_enter Try.func64, Try.ntmps64
  go_wp2_with fail
  refine (plenA x _ (by omega) h1).mono ?_
  rintro _ w1 ⟨rfl, hb1⟩
  go_wp2
  go_ret
  refine ⟨?_, (by repeat (first | exact Below.refl _ _ | apply keep_alloc | apply keep_drew | apply keep_drewN | refine keep_step (by assumption) ?_ (by rfl) | refine keep_set ?_ _ _ (by first | exact Nat.le_refl _ | (show _ ≤ _; simp; done) | (show _ ≤ _; simp; omega))))⟩
  refine ret_int ?_
  exact E1.out

theorem or_part (h l n : Nat) (hl : l < 2 ^ n) (hn : h * 2 ^ n + l < 18446744073709551616) : bits .or .u64 ((h : Int) * 2 ^ n) (l : Int) = (h : Int) * 2 ^ n + l := by
  have e : ((h : Int) * 2 ^ n) = ((h * 2 ^ n : Nat) : Int) := by simp
  rw [e, u64_or_nat _ _ (by omega) (by omega), Nat.mul_comm h, ← Nat.two_pow_add_eq_or_of_lt hl]
  simp
/-- what the shifts make of a dividend of two words -/
structure Cut (hi lo y s Y U L : Int) : Prop where
  hiS : bits .or .u64 (hi * 2 ^ s.toNat % 18446744073709551616) (lo / 2 ^ ((64 - s) % 18446744073709551616).toNat) = U
  sum : U * 18446744073709551616 + L = (hi * 18446744073709551616 + lo) * 2 ^ s.toNat
  u0 : 0 ≤ U
  u1 : U < Y
  l0 : 0 ≤ L
  l1 : L < 18446744073709551616
theorem cut_ok {hi lo y s Y : Int} (h0 : 0 ≤ hi) (h1 : hi < y) (l0 : 0 ≤ lo) (l1 : lo < 18446744073709551616) (s0 : 0 ≤ s) (s1 : s ≤ 63) (hY : Y = y * 2 ^ s.toNat) (hY2 : Y < 18446744073709551616) :
    Cut hi lo y s Y (hi * 2 ^ s.toNat + lo / 2 ^ (64 - s.toNat)) (lo * 2 ^ s.toNat % 18446744073709551616) := by
  obtain ⟨n, rfl⟩ := Int.eq_ofNat_of_zero_le s0
  obtain ⟨h, rfl⟩ := Int.eq_ofNat_of_zero_le h0
  obtain ⟨l, rfl⟩ := Int.eq_ofNat_of_zero_le l0
  have en : ((n : Int)).toNat = n := Int.toNat_natCast n
  rw [en] at hY ⊢
  have e1 : ((64 - (n : Int)) % 18446744073709551616).toNat = 64 - n := by omega
  have hK : (0 : Int) < 2 ^ n := Int.pow_pos (by decide)
  have hKM : (2 : Int) ^ (64 - n) * 2 ^ n = 18446744073709551616 := by rw [← Int.pow_add, show 64 - n + n = 64 by omega]; rfl
  have hM : (0 : Int) < 2 ^ (64 - n) := Int.pow_pos (by decide)
  have g1 : (l : Int) / 2 ^ (64 - n) < 2 ^ n := by
    refine Int.ediv_lt_of_lt_mul hM ?_
    rw [Int.mul_comm, hKM]; exact l1
  have g0 : (0 : Int) ≤ (l : Int) / 2 ^ (64 - n) := Int.ediv_nonneg (by omega) (by omega)
  have g2 : ((h : Int) + 1) * 2 ^ n ≤ y * 2 ^ n := Int.mul_le_mul_of_nonneg_right (by omega) (by omega)
  have g3 : ((h : Int) + 1) * 2 ^ n = h * 2 ^ n + 2 ^ n := by rw [Int.add_mul, Int.one_mul]
  have g4 : (0 : Int) ≤ h * 2 ^ n := Int.mul_nonneg (by omega) (by omega)
  have g5 : (h : Int) * 2 ^ n % 18446744073709551616 = h * 2 ^ n := Int.emod_eq_of_lt g4 (by omega)
  obtain ⟨m, hm⟩ : ∃ m : Nat, (l : Int) / 2 ^ (64 - n) = m := Int.eq_ofNat_of_zero_le g0
  have g6 : (l : Int) * 2 ^ n / 18446744073709551616 = m := by
    rw [← hKM, Int.mul_ediv_mul_of_pos_left _ _ hK, hm]
  rw [hm] at g0 g1
  have mm : m < 2 ^ n := by
    have : ((2 : Int) ^ n) = ((2 ^ n : Nat) : Int) := by simp
    omega
  have hh : ((h : Int) * 2 ^ n) = ((h * 2 ^ n : Nat) : Int) := by simp
  have gl : (0 : Int) ≤ l * 2 ^ n := Int.mul_nonneg (by omega) (by omega)
  refine ⟨?_, ?_, by rw [hm]; omega, by rw [hm]; omega, Int.emod_nonneg _ (by decide), Int.emod_lt_of_pos _ (by decide)⟩
  · rw [en, e1, hm, g5, or_part h m n mm (by omega)]
  · rw [hm, en, Int.add_mul ((h : Int) * 18446744073709551616), Int.mul_assoc (h : Int), Int.mul_comm 18446744073709551616, ← Int.mul_assoc]
    omega
/-- the end: both digits, and the rest shifted back -/
theorem cut_end {hi lo y s Y U L c1 c0 D1 R1 D0 : Int} (hY : Y = y * 2 ^ s.toNat) (h : Cut hi lo y s Y U L) (hc1 : c1 = L / 4294967296) (hc0 : c0 = L % 4294967296) (hy : 0 < y)
    (hD1 : D1 = (U * 4294967296 + c1) / Y) (hR1 : R1 = U * 4294967296 + c1 - D1 * Y) (hD0 : D0 = (R1 * 4294967296 + c0) / Y) :
    D1 * 4294967296 + D0 = (hi * 18446744073709551616 + lo) / y ∧ (R1 * 4294967296 + c0 - D0 * Y) / 2 ^ s.toNat = (hi * 18446744073709551616 + lo) % y := by
  have hK : (0 : Int) < 2 ^ s.toNat := Int.pow_pos (by decide)
  have hYp : 0 < Y := by rw [hY]; exact Int.mul_pos hy hK
  obtain ⟨a, b⟩ := div_two (u := U) (c1 := c1) (c0 := c0) (q0 := D0) hYp hD1 (by rw [← hR1]; exact hD0)
  obtain ⟨e, f⟩ := div_shift (hi * 18446744073709551616 + lo) y _ hK
  have hs := h.sum
  have e2 : (U * 4294967296 + c1) * 4294967296 + c0 = (hi * 18446744073709551616 + lo) * 2 ^ s.toNat := by omega
  rw [← hY] at e f
  rw [e2, e] at a
  rw [e2, f, ← hR1] at b
  refine ⟨a.symm, ?_⟩
  rw [← b]
  exact Int.mul_ediv_cancel _ (by omega)
def DvRel (w : World) (u c y1 y0 : Int) (v15 v16 : Value) (wr : World) : Prop := ∃ q r, Dig u c y1 y0 q r ∧ v15 = .int .u64 q ∧ v16 = .int .u64 r ∧ wr = w
def lessM (v15 v16 : Value) (w : World) : Nat := (intOf v15).toNat
theorem dv_start {u c y1 y0 : Int} (d : Dig u c y1 y0 (u / y1) (u % y1)) (hu : 0 ≤ u) : u.tdiv y1 % 18446744073709551616 = u / y1 ∧ (u - u.tdiv y1 % 18446744073709551616 * y1) % 18446744073709551616 = u % y1 := by
  have e : u.tdiv y1 = u / y1 := Int.tdiv_eq_ediv_of_nonneg hu
  have q0 := d.q0
  have q2 := d.q2
  have r0 := d.r0
  have r1 := d.r1
  have hs := d.sum
  have e2 : u / y1 % 18446744073709551616 = u / y1 := by omega
  rw [e, e2]
  exact ⟨rfl, by omega⟩
theorem dv_rel {w : World} {u c y1 y0 : Int} (d : Dig u c y1 y0 (u / y1) (u % y1)) (hu : 0 ≤ u) : DvRel w u c y1 y0 (.int .u64 (u.tdiv y1 % 18446744073709551616)) (.int .u64 ((u - u.tdiv y1 % 18446744073709551616 * y1) % 18446744073709551616)) w := by
  obtain ⟨a, b⟩ := dv_start d hu
  exact ⟨_, _, d, by rw [a], by rw [b], rfl⟩
set_option maxHeartbeats 4000000 in
theorem pdivG (hi lo y : Int) (w : World) (hh0 : 1 ≤ hi) (hhy : hi < y) (hl : 0 ≤ lo) (hl2 : lo < 18446744073709551616) (hy : 1 ≤ y) (hy2 : y < 18446744073709551616) : Calls Try.prog 62 #[.int .u64 hi, .int .u64 lo, .int .u64 y] w fun e w' => e = .returned (.tuple #[.int .u64 ((hi * 18446744073709551616 + lo) / y), .int .u64 ((hi * 18446744073709551616 + lo) % y)]) ∧ Below w.heap.size w w' := by
  obtain ⟨s, hs⟩ : ∃ s, s = fillS y := ⟨_, rfl⟩
  obtain ⟨s0, s63, f1, f2⟩ := fill_rng hy hy2
  have hlz := fun W => plzA y W hy hy2
  rw [← hs] at s0 s63 f1 f2 hlz
  clear hs
  have HLZ := Lib.hid hlz
  clear hlz
  have WR : ∀ x, IntKind.u64.wrap x = x % 18446744073709551616 := IntKind.wrap_u64
  obtain ⟨Y, hY⟩ : ∃ Y, Y = y * 2 ^ s.toNat := ⟨_, rfl⟩
  rw [← hY] at f1 f2
  have hcut := cut_ok (by omega) hhy hl hl2 s0 s63 hY f2
  obtain ⟨U, hU⟩ : ∃ U, U = hi * 2 ^ s.toNat + lo / 2 ^ (64 - s.toNat) := ⟨_, rfl⟩
  obtain ⟨L, hL⟩ : ∃ L, L = lo * 2 ^ s.toNat % 18446744073709551616 := ⟨_, rfl⟩
  rw [← hU, ← hL] at hcut
  have EB : bits .or .u64 (hi * 2 ^ s.toNat % 18446744073709551616) (lo / 2 ^ ((64 - s) % 18446744073709551616).toNat) = U := hcut.hiS
  have EL := hL.symm
  have l0 := hcut.l0
  have l1 := hcut.l1
  have u0 := hcut.u0
  have u1 := hcut.u1
  have ES : s % 18446744073709551616 = s := by omega
  have EY : y * 2 ^ s.toNat % 18446744073709551616 = Y := by rw [← hY]; omega
  have EYl : bits .and .u64 Y 4294967295 = Y % 4294967296 := and_low32 Y (by omega) f2
  have ELl : bits .and .u64 L 4294967295 = L % 4294967296 := and_low32 L l0 l1
  obtain ⟨Y1, hY1⟩ : ∃ Y1, Y1 = Y / 4294967296 := ⟨_, rfl⟩
  obtain ⟨Y0, hY0⟩ : ∃ Y0, Y0 = Y % 4294967296 := ⟨_, rfl⟩
  obtain ⟨c1, hc1⟩ : ∃ c1, c1 = L / 4294967296 := ⟨_, rfl⟩
  obtain ⟨c0, hc0⟩ : ∃ c0, c0 = L % 4294967296 := ⟨_, rfl⟩
  rw [← hY0] at EYl
  rw [← hc0] at ELl
  have EY1 := hY1.symm
  have Ec1 := hc1.symm
  have by1 : 2147483648 ≤ Y1 ∧ Y1 < 4294967296 := by omega
  have by0 : 0 ≤ Y0 ∧ Y0 < 4294967296 := by omega
  have bc1 : 0 ≤ c1 ∧ c1 < 4294967296 := by omega
  have bc0 : 0 ≤ c0 ∧ c0 < 4294967296 := by omega
  have hYs : Y1 * 4294967296 + Y0 = Y := by omega
  obtain ⟨D1, hD1⟩ : ∃ D1, D1 = (U * 4294967296 + c1) / Y := ⟨_, rfl⟩
  obtain ⟨R1, hR1⟩ : ∃ R1, R1 = U * 4294967296 + c1 - D1 * Y := ⟨_, rfl⟩
  obtain ⟨D0, hD0⟩ : ∃ D0, D0 = (R1 * 4294967296 + c0) / Y := ⟨_, rfl⟩
  obtain ⟨r0, r1⟩ := div_rest (by omega) hD1
  rw [← hR1] at r0 r1
  obtain ⟨v0, v1⟩ := div_rest (by omega) hD0
  obtain ⟨t1, t0⟩ := cut_end hY hcut hc1 hc0 (by omega) hD1 hR1 hD0
  have d11 : D1 < 4294967296 := by rw [hD1, ← hYs]; exact dig_small by1 by0 bc1 ⟨u0, by omega⟩
  have d10 : 0 ≤ D1 := by rw [hD1, ← hYs]; exact dig_pos by1 by0 bc1 ⟨u0, by omega⟩
  have d01 : D0 < 4294967296 := by rw [hD0, ← hYs]; exact dig_small by1 by0 bc0 ⟨r0, by omega⟩
  have d00 : 0 ≤ D0 := by rw [hD0, ← hYs]; exact dig_pos by1 by0 bc0 ⟨r0, by omega⟩
  have S1 := dig_start by1 by0 bc1 ⟨u0, by omega⟩
  have S0 := dig_start by1 by0 bc0 ⟨r0, by omega⟩
  have HC := Lib.hid (And.intro t1 t0)
  have HS := Lib.hid (And.intro S1 S0)
  have HV := Lib.hid (And.intro v0 v1)
  have HD := Lib.hid (And.intro hD1 (And.intro hR1 hD0))
  clear hcut hY hU hL hY1 hY0 hc1 hc0 hD1 hR1 hD0 t1 t0 S1 S0 v0 v1
  go_enter Try.func62, Try.ntmps62
  go_wp2_with fail
  refine (HLZ.out _).mono ?_
  rintro _ w1 ⟨rfl, hb1⟩
  go_wp2
  go_loopw [15, 16] (DvRel w1 U c1 Y1 Y0) lessM
  case atStart => exact dv_rel HS.out.1 u0
  case round =>
    obtain ⟨q, r, hd, rfl, rfl, rfl⟩ := hrel
    have hq0 := hd.q0
    have hq2 := hd.q2
    have hr0 := hd.r0
    have hr1 := hd.r1
    obtain ⟨hz0, hz1⟩ := dig_size by1 by0 bc1 ⟨u0, by omega⟩ hd
    have hX : (U * 4294967296 + c1 - D1 * Y) % 18446744073709551616 = R1 := by
      have := HD.out.2.1
      omega
    go_wp2
    · have hx : (q - 1) % 18446744073709551616 = D1 := by
        have hk := dig_break by1 by0 bc1 ⟨u0, by omega⟩ hd (show 4294967296 ≤ q ∨ 4294967296 * r + c1 < q * Y0 by omega) (by omega)
        rw [hYs, ← HD.out.1] at hk
        omega
      rename_i k1 k2 k3 K hK
      rw [hx, hX]
      clear k1 k2 k3 hx hd hq0 hq2 hr0 hr1 hz0 hz1
      go_loopw [18, 16] (DvRel wr R1 c0 Y1 Y0) lessM
      case atStart =>
        obtain ⟨da, db⟩ := dv_start HS.out.2 r0
        exact ⟨_, _, HS.out.2, by rw [da], by
          refine congrArg (Value.int .u64) ?_
          rw [← db]
          omega, rfl⟩
      case round =>
        obtain ⟨q, r, hd, rfl, rfl, rfl⟩ := hrel
        have hq0 := hd.q0
        have hq2 := hd.q2
        have hr0 := hd.r0
        have hr1 := hd.r1
        obtain ⟨hz0, hz1⟩ := dig_size by1 by0 bc0 ⟨r0, by omega⟩ hd
        go_wp2
        · have hx : (q - 1) % 18446744073709551616 = D0 := by
            have hk := dig_break by1 by0 bc0 ⟨r0, by omega⟩ hd (show 4294967296 ≤ q ∨ 4294967296 * r + c0 < q * Y0 by omega) (by omega)
            rw [hYs, ← HD.out.2.2] at hk
            omega
          go_ret2
          have hv0 := HV.out.1
          have hv1 := HV.out.2
          have ha : (D1 * 4294967296 + (q - 1)) % 18446744073709551616 = (hi * 18446744073709551616 + lo) / y := by
            rw [← HC.out.1]
            omega
          have hb : (R1 * 4294967296 + c0 - (q - 1) % 18446744073709551616 * Y) % 18446744073709551616 / 2 ^ s.toNat = (hi * 18446744073709551616 + lo) % y := by
            rw [hx, ← HC.out.2]
            have e : (R1 * 4294967296 + c0 - D0 * Y) % 18446744073709551616 = R1 * 4294967296 + c0 - D0 * Y := by omega
            rw [e]
          refine ⟨?_, (by repeat (first | exact Below.refl _ _ | apply keep_alloc | apply keep_drew | apply keep_drewN | refine keep_step (by assumption) ?_ (by rfl) | refine keep_set ?_ _ _ (by first | exact Nat.le_refl _ | (show _ ≤ _; simp; done) | (show _ ≤ _; simp; omega))))⟩
          show Ending.returned (Value.tuple #[.int .u64 ((D1 * 4294967296 + (q - 1)) % 18446744073709551616), .int .u64 ((R1 * 4294967296 + c0 - (q - 1) % 18446744073709551616 * Y) % 18446744073709551616 / 2 ^ s.toNat)]) = _
          rw [ha, hb]
        · have hl := dig_less by1 by0 bc0 ⟨r0, by omega⟩ hd (show 4294967296 ≤ q ∨ 4294967296 * r + c0 < q * Y0 by omega)
          have hp := dig_pos by1 by0 bc0 ⟨r0, by omega⟩
          have e1 : (q - 1) % 18446744073709551616 = q - 1 := by omega
          have e2 : (r + Y1) % 18446744073709551616 = r + Y1 := by omega
          refine ⟨⟨q - 1, r + Y1, dig_next by1 by0 bc0 ⟨r0, by omega⟩ hd (show 4294967296 ≤ q ∨ 4294967296 * r + c0 < q * Y0 by omega) (by omega), by rw [e1], by rw [e2], rfl⟩, ?_⟩
          rw [e1]
          simp [lessM, intOf]
          omega
        · obtain hx : q = D0 := by
            have hk := dig_exit by1 by0 bc0 ⟨r0, by omega⟩ hd (by omega) (by omega)
            rw [hYs, ← HD.out.2.2] at hk
            exact hk
          go_ret2
          have hv0 := HV.out.1
          have hv1 := HV.out.2
          have ha : (D1 * 4294967296 + q) % 18446744073709551616 = (hi * 18446744073709551616 + lo) / y := by
            rw [← HC.out.1]
            omega
          have hb : (R1 * 4294967296 + c0 - q * Y) % 18446744073709551616 / 2 ^ s.toNat = (hi * 18446744073709551616 + lo) % y := by
            rw [hx, ← HC.out.2]
            have e : (R1 * 4294967296 + c0 - D0 * Y) % 18446744073709551616 = R1 * 4294967296 + c0 - D0 * Y := by omega
            rw [e]
          refine ⟨?_, (by repeat (first | exact Below.refl _ _ | apply keep_alloc | apply keep_drew | apply keep_drewN | refine keep_step (by assumption) ?_ (by rfl) | refine keep_set ?_ _ _ (by first | exact Nat.le_refl _ | (show _ ≤ _; simp; done) | (show _ ≤ _; simp; omega))))⟩
          show Ending.returned (Value.tuple #[.int .u64 ((D1 * 4294967296 + q) % 18446744073709551616), .int .u64 ((R1 * 4294967296 + c0 - q * Y) % 18446744073709551616 / 2 ^ s.toNat)]) = _
          rw [ha, hb]
        · have hx : (q - 1) % 18446744073709551616 = D0 := by
            have hk := dig_break by1 by0 bc0 ⟨r0, by omega⟩ hd (show 4294967296 ≤ q ∨ 4294967296 * r + c0 < q * Y0 by omega) (by omega)
            rw [hYs, ← HD.out.2.2] at hk
            omega
          go_ret2
          have hv0 := HV.out.1
          have hv1 := HV.out.2
          have ha : (D1 * 4294967296 + (q - 1)) % 18446744073709551616 = (hi * 18446744073709551616 + lo) / y := by
            rw [← HC.out.1]
            omega
          have hb : (R1 * 4294967296 + c0 - (q - 1) % 18446744073709551616 * Y) % 18446744073709551616 / 2 ^ s.toNat = (hi * 18446744073709551616 + lo) % y := by
            rw [hx, ← HC.out.2]
            have e : (R1 * 4294967296 + c0 - D0 * Y) % 18446744073709551616 = R1 * 4294967296 + c0 - D0 * Y := by omega
            rw [e]
          refine ⟨?_, (by repeat (first | exact Below.refl _ _ | apply keep_alloc | apply keep_drew | apply keep_drewN | refine keep_step (by assumption) ?_ (by rfl) | refine keep_set ?_ _ _ (by first | exact Nat.le_refl _ | (show _ ≤ _; simp; done) | (show _ ≤ _; simp; omega))))⟩
          show Ending.returned (Value.tuple #[.int .u64 ((D1 * 4294967296 + (q - 1)) % 18446744073709551616), .int .u64 ((R1 * 4294967296 + c0 - (q - 1) % 18446744073709551616 * Y) % 18446744073709551616 / 2 ^ s.toNat)]) = _
          rw [ha, hb]
        · have hl := dig_less by1 by0 bc0 ⟨r0, by omega⟩ hd (show 4294967296 ≤ q ∨ 4294967296 * r + c0 < q * Y0 by omega)
          have hp := dig_pos by1 by0 bc0 ⟨r0, by omega⟩
          have e1 : (q - 1) % 18446744073709551616 = q - 1 := by omega
          have e2 : (r + Y1) % 18446744073709551616 = r + Y1 := by omega
          refine ⟨⟨q - 1, r + Y1, dig_next by1 by0 bc0 ⟨r0, by omega⟩ hd (show 4294967296 ≤ q ∨ 4294967296 * r + c0 < q * Y0 by omega) (by omega), by rw [e1], by rw [e2], rfl⟩, ?_⟩
          rw [e1]
          simp [lessM, intOf]
          omega
    · have hl := dig_less by1 by0 bc1 ⟨u0, by omega⟩ hd (show 4294967296 ≤ q ∨ 4294967296 * r + c1 < q * Y0 by omega)
      have hp := dig_pos by1 by0 bc1 ⟨u0, by omega⟩
      have e1 : (q - 1) % 18446744073709551616 = q - 1 := by omega
      have e2 : (r + Y1) % 18446744073709551616 = r + Y1 := by omega
      refine ⟨⟨q - 1, r + Y1, dig_next by1 by0 bc1 ⟨u0, by omega⟩ hd (show 4294967296 ≤ q ∨ 4294967296 * r + c1 < q * Y0 by omega) (by omega), by rw [e1], by rw [e2], rfl⟩, ?_⟩
      rw [e1]
      simp [lessM, intOf]
      omega
    · obtain hx : q = D1 := by
        have hk := dig_exit by1 by0 bc1 ⟨u0, by omega⟩ hd (by omega) (by omega)
        rw [hYs, ← HD.out.1] at hk
        exact hk
      rename_i k1 k2 K hK
      rw [hx, hX]
      clear k1 k2 hx hd hq0 hq2 hr0 hr1 hz0 hz1
      go_loopw [18, 16] (DvRel wr R1 c0 Y1 Y0) lessM
      case atStart =>
        obtain ⟨da, db⟩ := dv_start HS.out.2 r0
        exact ⟨_, _, HS.out.2, by rw [da], by
          refine congrArg (Value.int .u64) ?_
          rw [← db]
          omega, rfl⟩
      case round =>
        obtain ⟨q, r, hd, rfl, rfl, rfl⟩ := hrel
        have hq0 := hd.q0
        have hq2 := hd.q2
        have hr0 := hd.r0
        have hr1 := hd.r1
        obtain ⟨hz0, hz1⟩ := dig_size by1 by0 bc0 ⟨r0, by omega⟩ hd
        go_wp2
        · have hx : (q - 1) % 18446744073709551616 = D0 := by
            have hk := dig_break by1 by0 bc0 ⟨r0, by omega⟩ hd (show 4294967296 ≤ q ∨ 4294967296 * r + c0 < q * Y0 by omega) (by omega)
            rw [hYs, ← HD.out.2.2] at hk
            omega
          go_ret2
          have hv0 := HV.out.1
          have hv1 := HV.out.2
          have ha : (D1 * 4294967296 + (q - 1)) % 18446744073709551616 = (hi * 18446744073709551616 + lo) / y := by
            rw [← HC.out.1]
            omega
          have hb : (R1 * 4294967296 + c0 - (q - 1) % 18446744073709551616 * Y) % 18446744073709551616 / 2 ^ s.toNat = (hi * 18446744073709551616 + lo) % y := by
            rw [hx, ← HC.out.2]
            have e : (R1 * 4294967296 + c0 - D0 * Y) % 18446744073709551616 = R1 * 4294967296 + c0 - D0 * Y := by omega
            rw [e]
          refine ⟨?_, (by repeat (first | exact Below.refl _ _ | apply keep_alloc | apply keep_drew | apply keep_drewN | refine keep_step (by assumption) ?_ (by rfl) | refine keep_set ?_ _ _ (by first | exact Nat.le_refl _ | (show _ ≤ _; simp; done) | (show _ ≤ _; simp; omega))))⟩
          show Ending.returned (Value.tuple #[.int .u64 ((D1 * 4294967296 + (q - 1)) % 18446744073709551616), .int .u64 ((R1 * 4294967296 + c0 - (q - 1) % 18446744073709551616 * Y) % 18446744073709551616 / 2 ^ s.toNat)]) = _
          rw [ha, hb]
        · have hl := dig_less by1 by0 bc0 ⟨r0, by omega⟩ hd (show 4294967296 ≤ q ∨ 4294967296 * r + c0 < q * Y0 by omega)
          have hp := dig_pos by1 by0 bc0 ⟨r0, by omega⟩
          have e1 : (q - 1) % 18446744073709551616 = q - 1 := by omega
          have e2 : (r + Y1) % 18446744073709551616 = r + Y1 := by omega
          refine ⟨⟨q - 1, r + Y1, dig_next by1 by0 bc0 ⟨r0, by omega⟩ hd (show 4294967296 ≤ q ∨ 4294967296 * r + c0 < q * Y0 by omega) (by omega), by rw [e1], by rw [e2], rfl⟩, ?_⟩
          rw [e1]
          simp [lessM, intOf]
          omega
        · obtain hx : q = D0 := by
            have hk := dig_exit by1 by0 bc0 ⟨r0, by omega⟩ hd (by omega) (by omega)
            rw [hYs, ← HD.out.2.2] at hk
            exact hk
          go_ret2
          have hv0 := HV.out.1
          have hv1 := HV.out.2
          have ha : (D1 * 4294967296 + q) % 18446744073709551616 = (hi * 18446744073709551616 + lo) / y := by
            rw [← HC.out.1]
            omega
          have hb : (R1 * 4294967296 + c0 - q * Y) % 18446744073709551616 / 2 ^ s.toNat = (hi * 18446744073709551616 + lo) % y := by
            rw [hx, ← HC.out.2]
            have e : (R1 * 4294967296 + c0 - D0 * Y) % 18446744073709551616 = R1 * 4294967296 + c0 - D0 * Y := by omega
            rw [e]
          refine ⟨?_, (by repeat (first | exact Below.refl _ _ | apply keep_alloc | apply keep_drew | apply keep_drewN | refine keep_step (by assumption) ?_ (by rfl) | refine keep_set ?_ _ _ (by first | exact Nat.le_refl _ | (show _ ≤ _; simp; done) | (show _ ≤ _; simp; omega))))⟩
          show Ending.returned (Value.tuple #[.int .u64 ((D1 * 4294967296 + q) % 18446744073709551616), .int .u64 ((R1 * 4294967296 + c0 - q * Y) % 18446744073709551616 / 2 ^ s.toNat)]) = _
          rw [ha, hb]
        · have hx : (q - 1) % 18446744073709551616 = D0 := by
            have hk := dig_break by1 by0 bc0 ⟨r0, by omega⟩ hd (show 4294967296 ≤ q ∨ 4294967296 * r + c0 < q * Y0 by omega) (by omega)
            rw [hYs, ← HD.out.2.2] at hk
            omega
          go_ret2
          have hv0 := HV.out.1
          have hv1 := HV.out.2
          have ha : (D1 * 4294967296 + (q - 1)) % 18446744073709551616 = (hi * 18446744073709551616 + lo) / y := by
            rw [← HC.out.1]
            omega
          have hb : (R1 * 4294967296 + c0 - (q - 1) % 18446744073709551616 * Y) % 18446744073709551616 / 2 ^ s.toNat = (hi * 18446744073709551616 + lo) % y := by
            rw [hx, ← HC.out.2]
            have e : (R1 * 4294967296 + c0 - D0 * Y) % 18446744073709551616 = R1 * 4294967296 + c0 - D0 * Y := by omega
            rw [e]
          refine ⟨?_, (by repeat (first | exact Below.refl _ _ | apply keep_alloc | apply keep_drew | apply keep_drewN | refine keep_step (by assumption) ?_ (by rfl) | refine keep_set ?_ _ _ (by first | exact Nat.le_refl _ | (show _ ≤ _; simp; done) | (show _ ≤ _; simp; omega))))⟩
          show Ending.returned (Value.tuple #[.int .u64 ((D1 * 4294967296 + (q - 1)) % 18446744073709551616), .int .u64 ((R1 * 4294967296 + c0 - (q - 1) % 18446744073709551616 * Y) % 18446744073709551616 / 2 ^ s.toNat)]) = _
          rw [ha, hb]
        · have hl := dig_less by1 by0 bc0 ⟨r0, by omega⟩ hd (show 4294967296 ≤ q ∨ 4294967296 * r + c0 < q * Y0 by omega)
          have hp := dig_pos by1 by0 bc0 ⟨r0, by omega⟩
          have e1 : (q - 1) % 18446744073709551616 = q - 1 := by omega
          have e2 : (r + Y1) % 18446744073709551616 = r + Y1 := by omega
          refine ⟨⟨q - 1, r + Y1, dig_next by1 by0 bc0 ⟨r0, by omega⟩ hd (show 4294967296 ≤ q ∨ 4294967296 * r + c0 < q * Y0 by omega) (by omega), by rw [e1], by rw [e2], rfl⟩, ?_⟩
          rw [e1]
          simp [lessM, intOf]
          omega
    · have hx : (q - 1) % 18446744073709551616 = D1 := by
        have hk := dig_break by1 by0 bc1 ⟨u0, by omega⟩ hd (show 4294967296 ≤ q ∨ 4294967296 * r + c1 < q * Y0 by omega) (by omega)
        rw [hYs, ← HD.out.1] at hk
        omega
      rename_i k1 K hK k2
      rw [hx, hX]
      clear k1 k2 hx hd hq0 hq2 hr0 hr1 hz0 hz1
      go_loopw [18, 16] (DvRel wr R1 c0 Y1 Y0) lessM
      case atStart =>
        obtain ⟨da, db⟩ := dv_start HS.out.2 r0
        exact ⟨_, _, HS.out.2, by rw [da], by
          refine congrArg (Value.int .u64) ?_
          rw [← db]
          omega, rfl⟩
      case round =>
        obtain ⟨q, r, hd, rfl, rfl, rfl⟩ := hrel
        have hq0 := hd.q0
        have hq2 := hd.q2
        have hr0 := hd.r0
        have hr1 := hd.r1
        obtain ⟨hz0, hz1⟩ := dig_size by1 by0 bc0 ⟨r0, by omega⟩ hd
        go_wp2
        · have hx : (q - 1) % 18446744073709551616 = D0 := by
            have hk := dig_break by1 by0 bc0 ⟨r0, by omega⟩ hd (show 4294967296 ≤ q ∨ 4294967296 * r + c0 < q * Y0 by omega) (by omega)
            rw [hYs, ← HD.out.2.2] at hk
            omega
          go_ret2
          have hv0 := HV.out.1
          have hv1 := HV.out.2
          have ha : (D1 * 4294967296 + (q - 1)) % 18446744073709551616 = (hi * 18446744073709551616 + lo) / y := by
            rw [← HC.out.1]
            omega
          have hb : (R1 * 4294967296 + c0 - (q - 1) % 18446744073709551616 * Y) % 18446744073709551616 / 2 ^ s.toNat = (hi * 18446744073709551616 + lo) % y := by
            rw [hx, ← HC.out.2]
            have e : (R1 * 4294967296 + c0 - D0 * Y) % 18446744073709551616 = R1 * 4294967296 + c0 - D0 * Y := by omega
            rw [e]
          refine ⟨?_, (by repeat (first | exact Below.refl _ _ | apply keep_alloc | apply keep_drew | apply keep_drewN | refine keep_step (by assumption) ?_ (by rfl) | refine keep_set ?_ _ _ (by first | exact Nat.le_refl _ | (show _ ≤ _; simp; done) | (show _ ≤ _; simp; omega))))⟩
          show Ending.returned (Value.tuple #[.int .u64 ((D1 * 4294967296 + (q - 1)) % 18446744073709551616), .int .u64 ((R1 * 4294967296 + c0 - (q - 1) % 18446744073709551616 * Y) % 18446744073709551616 / 2 ^ s.toNat)]) = _
          rw [ha, hb]
        · have hl := dig_less by1 by0 bc0 ⟨r0, by omega⟩ hd (show 4294967296 ≤ q ∨ 4294967296 * r + c0 < q * Y0 by omega)
          have hp := dig_pos by1 by0 bc0 ⟨r0, by omega⟩
          have e1 : (q - 1) % 18446744073709551616 = q - 1 := by omega
          have e2 : (r + Y1) % 18446744073709551616 = r + Y1 := by omega
          refine ⟨⟨q - 1, r + Y1, dig_next by1 by0 bc0 ⟨r0, by omega⟩ hd (show 4294967296 ≤ q ∨ 4294967296 * r + c0 < q * Y0 by omega) (by omega), by rw [e1], by rw [e2], rfl⟩, ?_⟩
          rw [e1]
          simp [lessM, intOf]
          omega
        · obtain hx : q = D0 := by
            have hk := dig_exit by1 by0 bc0 ⟨r0, by omega⟩ hd (by omega) (by omega)
            rw [hYs, ← HD.out.2.2] at hk
            exact hk
          go_ret2
          have hv0 := HV.out.1
          have hv1 := HV.out.2
          have ha : (D1 * 4294967296 + q) % 18446744073709551616 = (hi * 18446744073709551616 + lo) / y := by
            rw [← HC.out.1]
            omega
          have hb : (R1 * 4294967296 + c0 - q * Y) % 18446744073709551616 / 2 ^ s.toNat = (hi * 18446744073709551616 + lo) % y := by
            rw [hx, ← HC.out.2]
            have e : (R1 * 4294967296 + c0 - D0 * Y) % 18446744073709551616 = R1 * 4294967296 + c0 - D0 * Y := by omega
            rw [e]
          refine ⟨?_, (by repeat (first | exact Below.refl _ _ | apply keep_alloc | apply keep_drew | apply keep_drewN | refine keep_step (by assumption) ?_ (by rfl) | refine keep_set ?_ _ _ (by first | exact Nat.le_refl _ | (show _ ≤ _; simp; done) | (show _ ≤ _; simp; omega))))⟩
          show Ending.returned (Value.tuple #[.int .u64 ((D1 * 4294967296 + q) % 18446744073709551616), .int .u64 ((R1 * 4294967296 + c0 - q * Y) % 18446744073709551616 / 2 ^ s.toNat)]) = _
          rw [ha, hb]
        · have hx : (q - 1) % 18446744073709551616 = D0 := by
            have hk := dig_break by1 by0 bc0 ⟨r0, by omega⟩ hd (show 4294967296 ≤ q ∨ 4294967296 * r + c0 < q * Y0 by omega) (by omega)
            rw [hYs, ← HD.out.2.2] at hk
            omega
          go_ret2
          have hv0 := HV.out.1
          have hv1 := HV.out.2
          have ha : (D1 * 4294967296 + (q - 1)) % 18446744073709551616 = (hi * 18446744073709551616 + lo) / y := by
            rw [← HC.out.1]
            omega
          have hb : (R1 * 4294967296 + c0 - (q - 1) % 18446744073709551616 * Y) % 18446744073709551616 / 2 ^ s.toNat = (hi * 18446744073709551616 + lo) % y := by
            rw [hx, ← HC.out.2]
            have e : (R1 * 4294967296 + c0 - D0 * Y) % 18446744073709551616 = R1 * 4294967296 + c0 - D0 * Y := by omega
            rw [e]
          refine ⟨?_, (by repeat (first | exact Below.refl _ _ | apply keep_alloc | apply keep_drew | apply keep_drewN | refine keep_step (by assumption) ?_ (by rfl) | refine keep_set ?_ _ _ (by first | exact Nat.le_refl _ | (show _ ≤ _; simp; done) | (show _ ≤ _; simp; omega))))⟩
          show Ending.returned (Value.tuple #[.int .u64 ((D1 * 4294967296 + (q - 1)) % 18446744073709551616), .int .u64 ((R1 * 4294967296 + c0 - (q - 1) % 18446744073709551616 * Y) % 18446744073709551616 / 2 ^ s.toNat)]) = _
          rw [ha, hb]
        · have hl := dig_less by1 by0 bc0 ⟨r0, by omega⟩ hd (show 4294967296 ≤ q ∨ 4294967296 * r + c0 < q * Y0 by omega)
          have hp := dig_pos by1 by0 bc0 ⟨r0, by omega⟩
          have e1 : (q - 1) % 18446744073709551616 = q - 1 := by omega
          have e2 : (r + Y1) % 18446744073709551616 = r + Y1 := by omega
          refine ⟨⟨q - 1, r + Y1, dig_next by1 by0 bc0 ⟨r0, by omega⟩ hd (show 4294967296 ≤ q ∨ 4294967296 * r + c0 < q * Y0 by omega) (by omega), by rw [e1], by rw [e2], rfl⟩, ?_⟩
          rw [e1]
          simp [lessM, intOf]
          omega
    · have hl := dig_less by1 by0 bc1 ⟨u0, by omega⟩ hd (show 4294967296 ≤ q ∨ 4294967296 * r + c1 < q * Y0 by omega)
      have hp := dig_pos by1 by0 bc1 ⟨u0, by omega⟩
      have e1 : (q - 1) % 18446744073709551616 = q - 1 := by omega
      have e2 : (r + Y1) % 18446744073709551616 = r + Y1 := by omega
      refine ⟨⟨q - 1, r + Y1, dig_next by1 by0 bc1 ⟨u0, by omega⟩ hd (show 4294967296 ≤ q ∨ 4294967296 * r + c1 < q * Y0 by omega) (by omega), by rw [e1], by rw [e2], rfl⟩, ?_⟩
      rw [e1]
      simp [lessM, intOf]
      omega
end Go.Proofs.Yteohnhjhdlcpiaa
