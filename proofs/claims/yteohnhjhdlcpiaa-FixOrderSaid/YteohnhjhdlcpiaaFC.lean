/- Layer 1: sizes, products. -/
import Derived.Test.YteohnhjhdlcpiaaFB
import Derived.Shelf.Bits.Mul64
namespace Go.Proofs.Yteohnhjhdlcpiaa
open Go.RowKit
set_option linter.unusedVariables false

theorem pmag (n : Int) (w : World) (h64 : In64 n) : Calls Try.prog 51 #[.int .i64 n] w fun e w' => e = .returned (.int .u64 (mag n)) ∧ Below w.heap.size w w' := by
  have HD := Lib.hid (mag_def n)
  obtain ⟨n1, n2⟩ := h64
  by_cases hneg : n < 0
  · go_enter Try.func51, Try.ntmps51
    go_wp2
    go_ret
    refine ⟨?_, (by repeat (first | exact Below.refl _ _ | apply keep_alloc | apply keep_drew | apply keep_drewN | refine keep_step (by assumption) ?_ (by rfl) | refine keep_set ?_ _ _ (by first | exact Nat.le_refl _ | (show _ ≤ _; simp; done) | (show _ ≤ _; simp; omega))))⟩
    refine ret_int ?_
    rw [HD.out, if_pos hneg]
    simp only [IntKind.wrap_u64]
    omega
  · have hp : 0 ≤ n := by omega
    go_enter Try.func51, Try.ntmps51
    go_wp2
    go_ret
    refine ⟨?_, (by repeat (first | exact Below.refl _ _ | apply keep_alloc | apply keep_drew | apply keep_drewN | refine keep_step (by assumption) ?_ (by rfl) | refine keep_set ?_ _ _ (by first | exact Nat.le_refl _ | (show _ ≤ _; simp; done) | (show _ ≤ _; simp; omega))))⟩
    refine ret_int ?_
    rw [HD.out, if_neg (by omega)]

set_option maxHeartbeats 1000000 in
theorem pmul64 (x y : Nat) (hx : x < 18446744073709551616) (hy : y < 18446744073709551616) (w : World) :
    Calls Try.prog 60 #[.int .u64 x, .int .u64 y] w fun e w' => e = .returned (.tuple #[.int .u64 ((x * y / 18446744073709551616 : Nat) : Int), .int .u64 ((x * y % 18446744073709551616 : Nat) : Int)]) ∧ w' = w := by
  obtain ⟨bd, bt, bw, hhi⟩ := Lib.mul64_hi x y hx hy
  have ba := Lib.half_mul_le (a := x / 4294967296) (b := y / 4294967296) (by omega) (by omega)
  have bb := Lib.half_mul_le (a := x / 4294967296) (b := y % 4294967296) (by omega) (by omega)
  have bc := Lib.half_mul_le (a := x % 4294967296) (b := y / 4294967296) (by omega) (by omega)
  have ba' : x / 4294967296 * (y / 4294967296) < 18446744073709551616 := by omega
  have bb' : x / 4294967296 * (y % 4294967296) < 18446744073709551616 := by omega
  have bc' : x % 4294967296 * (y / 4294967296) < 18446744073709551616 := by omega
  have bh1 : x / 4294967296 * (y / 4294967296) + (x / 4294967296 * (y % 4294967296) + x % 4294967296 * (y % 4294967296) / 4294967296) / 4294967296 < 18446744073709551616 := by omega
  have bh : x / 4294967296 * (y / 4294967296) + (x / 4294967296 * (y % 4294967296) + x % 4294967296 * (y % 4294967296) / 4294967296) / 4294967296 + ((x / 4294967296 * (y % 4294967296) + x % 4294967296 * (y % 4294967296) / 4294967296) % 4294967296 + x % 4294967296 * (y / 4294967296)) / 4294967296 < 18446744073709551616 := by omega
  go_enter Try.func60, Try.ntmps60
  go_wp2
  simp only [Mul64.maskN x hx, Mul64.maskN y hy, Mul64.divN, Mul64.mulN, Mul64.addN, Mul64.wrapN _ bd, Mul64.wrapN _ bb', Mul64.wrapN _ bt, Mul64.maskN _ bt, Mul64.wrapN _ bc', Mul64.wrapN _ bw, Mul64.wrapN _ ba', Mul64.wrapN _ bh1, Mul64.wrapN _ bh, Mul64.wrapM (x * y)]
  rw [hhi]
  go_ret2
  exact ⟨rfl, rfl⟩
/-- the product of two sizes, in two words -/
theorem pmul (x y : Int) (w : World) (hx : 0 ≤ x ∧ x ≤ 9223372036854775808) (hy : 0 ≤ y ∧ y ≤ 9223372036854775808) :
    Calls Try.prog 60 #[.int .u64 x, .int .u64 y] w fun e w' => e = .returned (.tuple #[.int .u64 (HI (x * y)), .int .u64 (LO (x * y))]) ∧ w' = w := by
  obtain ⟨a, rfl⟩ := Int.eq_ofNat_of_zero_le hx.1
  obtain ⟨b, rfl⟩ := Int.eq_ofNat_of_zero_le hy.1
  refine (pmul64 a b (by omega) (by omega) w).mono fun e w' ⟨he, hw⟩ => ⟨?_, hw⟩
  have hle : (a : Int) * (b : Int) ≤ 85070591730234615865843651857942052864 := by
    have h1 : (a : Int) * (b : Int) ≤ 9223372036854775808 * (b : Int) := Int.mul_le_mul_of_nonneg_right hx.2 hy.1
    omega
  rw [he]
  have e1 : ((a * b / 18446744073709551616 : Nat) : Int) = HI ((a : Int) * (b : Int)) := by
    rw [w_pos (Int.mul_nonneg hx.1 hy.1) (by unfold Is127; have := Int.mul_nonneg hx.1 hy.1; omega), Int.natCast_ediv, Int.natCast_mul]; rfl
  have e2 : ((a * b % 18446744073709551616 : Nat) : Int) = LO ((a : Int) * (b : Int)) := by
    unfold LO; rw [Int.natCast_emod, Int.natCast_mul]; rfl
  rw [e1, e2]

set_option maxHeartbeats 4000000 in
theorem pproduct (a b : Int) (w : World) (ha : In64 a) (hb : In64 b) : Calls Try.prog 48 #[.int .i64 a, .int .i64 b] w fun e w' => e = .returned (.agg #[.int .u64 (HI (a * b)), .int .u64 (LO (a * b))]) ∧ Below w.heap.size w w' := by
  have MS := Lib.hid (mag_sign a b)
  have y0 := ((((show Below ((w.alloc (.cells #[.int .u64 0, .int .u64 0] 53))).heap.size ((w.alloc (.cells #[.int .u64 0, .int .u64 0] 53))) (w.alloc (.cells #[.int .u64 0, .int .u64 0] 53)) from (by repeat (first | exact Below.refl _ _ | apply keep_alloc | apply keep_drew | apply keep_drewN | refine keep_step (by assumption) ?_ (by rfl) | refine keep_set ?_ _ _ (by first | exact Nat.le_refl _ | (show _ ≤ _; simp; done) | (show _ ≤ _; simp; omega))))).cell (p := ⟨w.heap.size, 0, none⟩) (by simp <;> omega)).trans (by simp [go_sem])) : ((w.alloc (.cells #[.int .u64 0, .int .u64 0] 53))).cell? ⟨w.heap.size, 0, none⟩ = some (.int .u64 0))
  have y1 := ((((show Below ((w.alloc (.cells #[.int .u64 0, .int .u64 0] 53))).heap.size ((w.alloc (.cells #[.int .u64 0, .int .u64 0] 53))) (w.alloc (.cells #[.int .u64 0, .int .u64 0] 53)) from (by repeat (first | exact Below.refl _ _ | apply keep_alloc | apply keep_drew | apply keep_drewN | refine keep_step (by assumption) ?_ (by rfl) | refine keep_set ?_ _ _ (by first | exact Nat.le_refl _ | (show _ ≤ _; simp; done) | (show _ ≤ _; simp; omega))))).cell (p := ⟨w.heap.size, 1, none⟩) (by simp <;> omega)).trans (by simp [go_sem])) : ((w.alloc (.cells #[.int .u64 0, .int .u64 0] 53))).cell? ⟨w.heap.size, 1, none⟩ = some (.int .u64 0))
  obtain ⟨r, hr⟩ : ∃ r, r = w.heap.size := ⟨_, rfl⟩
  obtain ⟨w1, hw1⟩ : ∃ w1, w1 = (w.alloc (.cells #[.int .u64 0, .int .u64 0] 53)) := ⟨_, rfl⟩
  have hr1 : Wd w1 r 0 0 := by rw [hw1, hr]; exact Wd.made _ _ _ _
  have hb1 : Below w.heap.size w w1 := by rw [hw1]; exact (by repeat (first | exact Below.refl _ _ | apply keep_alloc | apply keep_drew | apply keep_drewN | refine keep_step (by assumption) ?_ (by rfl) | refine keep_set ?_ _ _ (by first | exact Nat.le_refl _ | (show _ ≤ _; simp; done) | (show _ ≤ _; simp; omega))))
  have hrw : w.heap.size ≤ r := by omega
  have hrl := hr1.lt
  clear y0 y1
  go_enter Try.func48, Try.ntmps48
  go_wp2_with fail
  rw [← hw1, ← hr]
  clear hw1 hr
  refine (pmag a _ ha).mono ?_
  rintro _ w2 ⟨rfl, hb2⟩
  go_wp2_with fail
  refine (pmag b _ hb).mono ?_
  rintro _ w3 ⟨rfl, hb3⟩
  go_wp2_with fail
  refine (pmul (mag a) (mag b) _ (mag_rng ha) (mag_rng hb)).mono ?_
  rintro _ w4 ⟨rfl, rfl⟩
  obtain ⟨p, hp⟩ : ∃ p, p = mag a * mag b := ⟨_, rfl⟩
  rw [← hp] at MS ⊢
  clear hp
  have hr3 : Wd w4 r 0 0 := (hr1.below hb2 hrl).below hb3 (hr1.below hb2 hrl).lt
  obtain ⟨g, hg⟩ : ∃ g, g = w4.heap.size := ⟨_, rfl⟩
  obtain ⟨w5, hw5⟩ : ∃ w5, w5 = w4.alloc (.cells #[.int .u64 (HI p), .int .u64 (LO p)] 53) := ⟨_, rfl⟩
  have hn5 : Num w5 g p := by rw [hw5, hg]; exact Wd.made _ _ _ _
  have hr5 : Wd w5 r 0 0 := by rw [hw5]; exact hr3.below (B := w4.heap.size) ((Below.refl _ _).alloc (Nat.le_refl _) _) hr3.lt
  have hb5 : Below w.heap.size w w5 := by rw [hw5]; exact (by repeat (first | exact Below.refl _ _ | apply keep_alloc | apply keep_drew | apply keep_drewN | refine keep_step (by assumption) ?_ (by rfl) | refine keep_set ?_ _ _ (by first | exact Nat.le_refl _ | (show _ ≤ _; simp; done) | (show _ ≤ _; simp; omega))))
  have hgr : r ≠ g := by rw [hg]; have := hr3.lt; omega
  have hgw : w.heap.size ≤ g := by rw [hg]; have := hr3.lt; omega
  have hcase : ((decide (a < 0) = true ∧ decide (b < 0) = true) ∨ (decide (a < 0) = false ∧ decide (b < 0) = false)) ∧ a * b = p ∨ ((decide (a < 0) = true ∧ decide (b < 0) = false) ∨ (decide (a < 0) = false ∧ decide (b < 0) = true)) ∧ a * b = -p := by
    rw [MS.out]
    cases h1 : decide (a < 0) <;> cases h2 : decide (b < 0) <;> simp
  clear MS
  rcases hcase with ⟨hsg, hm⟩ | ⟨hsg, hm⟩
  · have MS2 := Lib.hid hm
    clear hm
    rw [hw5, hg] at hn5
    rw [hw5] at hr5
    obtain ⟨⟨x0, x1⟩, x2, x3⟩ := id hn5
    obtain ⟨⟨z0, z1⟩, z2, z3⟩ := id hr5
    clear hw5 hg
    rcases hsg with ⟨g1, g2⟩ | ⟨g1, g2⟩
    all_goals
      go_wp2
      refine bodyPost_ret (v := (.agg #[.int .u64 (HI p), .int .u64 (LO p)])) (by simp [results, Try.results48, go_sem, set2 z0 z1]) rfl ?_
      exact ⟨by rw [MS2.out], (by repeat (first | exact Below.refl _ _ | apply keep_alloc | apply keep_drew | apply keep_drewN | refine keep_step (by assumption) ?_ (by rfl) | refine keep_set ?_ _ _ (by first | exact Nat.le_refl _ | (show _ ≤ _; simp; done) | (show _ ≤ _; simp; omega))))⟩
  · have MS2 := Lib.hid hm
    clear hm
    rcases hsg with ⟨g1, g2⟩ | ⟨g1, g2⟩
    all_goals
      go_wp2_with fail
      rw [← hw5, ← hg]
      refine (pnegate g p _ hn5).mono ?_
      rintro _ w6 ⟨rfl, hn6, ht6⟩
      have hr6 := hr5.turn ht6 hgr
      clear hw5 hg
      obtain ⟨⟨x0, x1⟩, x2, x3⟩ := id hn6
      obtain ⟨⟨z0, z1⟩, z2, z3⟩ := id hr6
      have hb6 : Below w.heap.size w w6 := keep_turn ht6 hb5 hgw
      go_wp2
      refine bodyPost_ret (v := (.agg #[.int .u64 (HI (-p)), .int .u64 (LO (-p))])) (by simp [results, Try.results48, go_sem, set2 z0 z1]) rfl ?_
      exact ⟨by rw [MS2.out], (by repeat (first | exact Below.refl _ _ | apply keep_alloc | apply keep_drew | apply keep_drewN | refine keep_step (by assumption) ?_ (by rfl) | refine keep_set ?_ _ _ (by first | exact Nat.le_refl _ | (show _ ≤ _; simp; done) | (show _ ≤ _; simp; omega))))⟩

theorem w_wrap {v : Int} (h : Is127 v) : (In64 (LO v) → True) := fun _ => trivial
/-- limits, and what lies within them -/
def okV (lo hi v : Int) : Int := if lo ≤ v ∧ v ≤ hi then v else 0
def okE (lo hi v : Int) : Int := if lo ≤ v ∧ v ≤ hi then 0 else 14

set_option maxHeartbeats 4000000 in
theorem pwithin (v lo hi : Int) (w : World) (hv : Is127 v) (hlo : In64 lo) (hhi : In64 hi) :
    Calls Try.prog 54 #[(.agg #[.int .u64 (HI v), .int .u64 (LO v)]), .agg #[.int .i64 lo, .int .i64 hi]] w (Out2 (okV lo hi v) (okE lo hi v) w) := by
  obtain ⟨w1, hw1⟩ : ∃ w1, w1 = (w.alloc (.cells #[.int .u64 (HI v), .int .u64 (LO v)] 53)).alloc (.cells #[.int .i64 lo, .int .i64 hi] 23) := ⟨_, rfl⟩
  obtain ⟨g, hg⟩ : ∃ g, g = w.heap.size + 1 := ⟨_, rfl⟩
  have hb1 : Below w.heap.size w w1 := by rw [hw1]; exact (by repeat (first | exact Below.refl _ _ | apply keep_alloc | apply keep_drew | apply keep_drewN | refine keep_step (by assumption) ?_ (by rfl) | refine keep_set ?_ _ _ (by first | exact Nat.le_refl _ | (show _ ≤ _; simp; done) | (show _ ≤ _; simp; omega))))
  have hm1 : Wd w1 w.heap.size (HI v) (LO v) := by
    rw [hw1]
    exact (Wd.made w (HI v) (LO v) 53).below (B := (w.alloc (.cells #[.int .u64 (HI v), .int .u64 (LO v)] 53)).heap.size) ((Below.refl _ _).alloc (Nat.le_refl _) _) (by simp)
  have z0 : w1.cell? ⟨g, 0, none⟩ = some (.int .i64 lo) := by rw [hw1, hg, World.cell?_alloc_at _ _ _ _ (by simp)]; rfl
  have z1 : w1.cell? ⟨g, 1, none⟩ = some (.int .i64 hi) := by rw [hw1, hg, World.cell?_alloc_at _ _ _ _ (by simp)]; rfl
  obtain ⟨⟨x0, x1⟩, x2, x3⟩ := id hm1
  have hlt1 := hm1.lt
  have hlt2 : g < w1.heap.size := World.block_lt_of_cell? w1 _ z0
  obtain ⟨l0, l1⟩ := lo_rng v
  go_enter Try.func54, Try.ntmps54
  go_wp2
  rw [← hw1, ← hg]
  clear hw1 hg
  by_cases h64 : In64 v
  · have e0 : wrap64 (LO v) = v := by unfold In64 at h64; unfold wrap64 LO; omega
    rw [e0]
    by_cases hin : lo ≤ v ∧ v ≤ hi
    · have K1 : Hid (okV lo hi v = v) := Lib.hid (by unfold okV; rw [if_pos hin])
      have K2 : Hid (okE lo hi v = 0) := Lib.hid (by unfold okE; rw [if_pos hin])
      have d0 : decide (v < lo) = false := by simp; omega
      have d1 : decide (hi < v) = false := by simp; omega
      clear hin l0 l1 e0
      (refine wp_region_calm (C := fun x => ∃ y : Later w1, x = y.w) (by kernel_rfl) (by kernel_rfl) (later_start w1) ?_; have hlat := later_cell w1; (repeat (go_big_quiet_step ((first | (go_at_call 44; apply later_of; (first | (with_reducible exact pwiden) | (apply pwiden <;> first | (with_reducible assumption) | (first | omega | (subst_vars; omega) | (simp only [Bool.not_eq_true', Bool.not_eq_false', beq_iff_eq, beq_eq_false_iff_ne, ne_eq, bne_iff_ne, bne_eq_false_iff_eq, Bool.not_eq_true, Bool.not_eq_false, decide_eq_true_eq, decide_eq_false_iff_not, Bool.and_eq_true, Bool.or_eq_true] at *; first | omega | (subst_vars; omega)) | (simp only [Bool.not_eq_true', Bool.not_eq_false', beq_iff_eq, beq_eq_false_iff_ne, ne_eq, bne_iff_ne, bne_eq_false_iff_eq, Bool.not_eq_true, Bool.not_eq_false, decide_eq_true_eq, decide_eq_false_iff_not, Bool.and_eq_true, Bool.or_eq_true, wrap64] at *; first | omega | (subst_vars; omega)))))))))); refine wpQuiet_nil ?_; rintro w' ⟨⟨xq, hb⟩, hxq⟩; have hxq2 : w' = xq := hxq; clear hxq; subst hxq2; clear hlat)
      go_wp2
      go_ret2
      exact out2 K1.out.symm K2.out.symm (by repeat (first | exact Below.refl _ _ | apply keep_alloc | apply keep_drew | apply keep_drewN | refine keep_step (by assumption) ?_ (by rfl) | refine keep_set ?_ _ _ (by first | exact Nat.le_refl _ | (show _ ≤ _; simp; done) | (show _ ≤ _; simp; omega))))
    · have K1 : Hid (okV lo hi v = 0) := Lib.hid (by unfold okV; rw [if_neg hin])
      have K2 : Hid (okE lo hi v = 14) := Lib.hid (by unfold okE; rw [if_neg hin])
      rcases (show (decide (v < lo) = true) ∨ (decide (v < lo) = false ∧ decide (hi < v) = true) by simp; omega) with d0 | ⟨d0, d1⟩
      all_goals
        clear hin l0 l1 e0
        (refine wp_region_calm (C := fun x => ∃ y : Later w1, x = y.w) (by kernel_rfl) (by kernel_rfl) (later_start w1) ?_; have hlat := later_cell w1; (repeat (go_big_quiet_step ((first | (go_at_call 44; apply later_of; (first | (with_reducible exact pwiden) | (apply pwiden <;> first | (with_reducible assumption) | (first | omega | (subst_vars; omega) | (simp only [Bool.not_eq_true', Bool.not_eq_false', beq_iff_eq, beq_eq_false_iff_ne, ne_eq, bne_iff_ne, bne_eq_false_iff_eq, Bool.not_eq_true, Bool.not_eq_false, decide_eq_true_eq, decide_eq_false_iff_not, Bool.and_eq_true, Bool.or_eq_true] at *; first | omega | (subst_vars; omega)) | (simp only [Bool.not_eq_true', Bool.not_eq_false', beq_iff_eq, beq_eq_false_iff_ne, ne_eq, bne_iff_ne, bne_eq_false_iff_eq, Bool.not_eq_true, Bool.not_eq_false, decide_eq_true_eq, decide_eq_false_iff_not, Bool.and_eq_true, Bool.or_eq_true, wrap64] at *; first | omega | (subst_vars; omega)))))))))); refine wpQuiet_nil ?_; rintro w' ⟨⟨xq, hb⟩, hxq⟩; have hxq2 : w' = xq := hxq; clear hxq; subst hxq2; clear hlat)
        go_wp2
        go_ret2
        exact out2 K1.out.symm K2.out.symm (by repeat (first | exact Below.refl _ _ | apply keep_alloc | apply keep_drew | apply keep_drewN | refine keep_step (by assumption) ?_ (by rfl) | refine keep_set ?_ _ _ (by first | exact Nat.le_refl _ | (show _ ≤ _; simp; done) | (show _ ≤ _; simp; omega))))
  · obtain ⟨m, hm⟩ : ∃ m, m = wrap64 (LO v) := ⟨_, rfl⟩
    have hm64 : In64 m := by rw [hm]; unfold In64 wrap64; omega
    have hlo2 : LO m = LO v := by rw [hm]; unfold LO wrap64; omega
    have hhi2 : ¬ HI m = HI v := fun e => h64 (by rw [← w_eq (by unfold In64 at hm64; unfold Is127; omega) hv e hlo2]; exact hm64)
    have hb0 : (HI m == HI v) = false := by simp [hhi2]
    have hout : ¬ (lo ≤ v ∧ v ≤ hi) := fun h => h64 (by unfold In64 at hlo hhi ⊢; omega)
    have K1 : Hid (okV lo hi v = 0) := Lib.hid (by unfold okV; rw [if_neg hout])
    have K2 : Hid (okE lo hi v = 14) := Lib.hid (by unfold okE; rw [if_neg hout])
    rw [← hm]
    clear hm hout hhi2 h64 l0 l1
    (refine wp_region_calm (C := fun x => ∃ y : Later w1, x = y.w) (by kernel_rfl) (by kernel_rfl) (later_start w1) ?_; have hlat := later_cell w1; (repeat (go_big_quiet_step ((first | (go_at_call 44; apply later_of; (first | (with_reducible exact pwiden) | (apply pwiden <;> first | (with_reducible assumption) | (first | omega | (subst_vars; omega) | (simp only [Bool.not_eq_true', Bool.not_eq_false', beq_iff_eq, beq_eq_false_iff_ne, ne_eq, bne_iff_ne, bne_eq_false_iff_eq, Bool.not_eq_true, Bool.not_eq_false, decide_eq_true_eq, decide_eq_false_iff_not, Bool.and_eq_true, Bool.or_eq_true] at *; first | omega | (subst_vars; omega)) | (simp only [Bool.not_eq_true', Bool.not_eq_false', beq_iff_eq, beq_eq_false_iff_ne, ne_eq, bne_iff_ne, bne_eq_false_iff_eq, Bool.not_eq_true, Bool.not_eq_false, decide_eq_true_eq, decide_eq_false_iff_not, Bool.and_eq_true, Bool.or_eq_true, wrap64] at *; first | omega | (subst_vars; omega)))))))))); refine wpQuiet_nil ?_; rintro w' ⟨⟨xq, hb⟩, hxq⟩; have hxq2 : w' = xq := hxq; clear hxq; subst hxq2; clear hlat)
    go_wp2
    go_ret2
    exact out2 K1.out.symm K2.out.symm (by repeat (first | exact Below.refl _ _ | apply keep_alloc | apply keep_drew | apply keep_drewN | refine keep_step (by assumption) ?_ (by rfl) | refine keep_set ?_ _ _ (by first | exact Nat.le_refl _ | (show _ ≤ _; simp; done) | (show _ ≤ _; simp; omega))))
end Go.Proofs.Yteohnhjhdlcpiaa
