/- Layer 1: one division of two words by one: the chapter's. -/
import Derived.Test.YteohnhjhdlcpiaaFG
namespace Go.Proofs.Yteohnhjhdlcpiaa
open Go.RowKit
set_option linter.unusedVariables false

set_option maxRecDepth 100000 in
set_option maxHeartbeats 4000000 in
theorem plen (w : World) : Calls Try.prog 65 #[.int .u64 9223372036854775807] w fun e w' => e = .returned (.int .i64 63) ∧ Below w.heap.size w w' := by
  go_enter Try.func65, Try.ntmps65
  go_wp2
  go_ret
  refine ⟨?_, (by repeat (first | exact Below.refl _ _ | apply keep_alloc | apply keep_drew | apply keep_drewN | refine keep_step (by assumption) ?_ (by rfl) | refine keep_set ?_ _ _ (by first | exact Nat.le_refl _ | (show _ ≤ _; simp; done) | (show _ ≤ _; simp; omega))))⟩
  refine ret_int ?_
  first | decide | kernel_rfl | (simp [wrap64]; done)

theorem plz (w : World) : Calls Try.prog 64 #[.int .u64 9223372036854775807] w fun e w' => e = .returned (.int .i64 1) ∧ Below w.heap.size w w' := by
  go_enter Try.func64, Try.ntmps64
  go_wp2_with fail
  refine (plen _).mono ?_
  rintro _ w1 ⟨rfl, hb1⟩
  go_wp2
  go_ret
  exact ⟨rfl, (by repeat (first | exact Below.refl _ _ | apply keep_alloc | apply keep_drew | apply keep_drewN | refine keep_step (by assumption) ?_ (by rfl) | refine keep_set ?_ _ _ (by first | exact Nat.le_refl _ | (show _ ≤ _; simp; done) | (show _ ≤ _; simp; omega))))⟩

def DcRel (w : World) (v15 v16 : Value) (wr : World) : Prop := v15 = .int .u64 2147483648 ∧ v16 = .int .u64 2147483646 ∧ wr = w
def DdRel (w : World) (v18 v16 : Value) (wr : World) : Prop := v18 = .int .u64 4294967295 ∧ v16 = .int .u64 4294967293 ∧ wr = w
set_option maxRecDepth 20000 in
set_option maxHeartbeats 4000000 in
theorem pdivC (w : World) : Calls Try.prog 62 #[.int .u64 4611686018427387903, .int .u64 1, .int .u64 9223372036854775807] w fun e w' => e = .returned (.tuple #[.int .u64 9223372036854775807, .int .u64 0]) ∧ Below w.heap.size w w' := by
  go_enter Try.func62, Try.ntmps62
  go_wp2_with fail
  refine (plz _).mono ?_
  rintro _ w1 ⟨rfl, hb1⟩
  have B1 : bits .and .u64 18446744073709551614 4294967295 = 4294967294 := by decide
  have B2 : bits .or .u64 9223372036854775806 0 = 9223372036854775806 := by decide
  have B3 : bits .and .u64 2 4294967295 = 2 := by decide
  have WR : ∀ x, IntKind.u64.wrap x = x % 18446744073709551616 := IntKind.wrap_u64
  have E1 : IntKind.u64.wrap (Int.tdiv 9223372036854775806 4294967295) = 2147483648 := by decide
  go_wp2
  go_loopw [15, 16] (DcRel w1) (fun _ _ _ => 0)
  case atStart => exact ⟨rfl, rfl, rfl⟩
  case round =>
    obtain ⟨rfl, rfl, rfl⟩ := hrel
    go_wp2
    go_loopw [18, 16] (DdRel wr) (fun _ _ _ => 0)
    case atStart => exact ⟨rfl, rfl, rfl⟩
    case round =>
      obtain ⟨rfl, rfl, rfl⟩ := hrel
      go_wp2
      go_ret2
      exact ⟨rfl, (by repeat (first | exact Below.refl _ _ | apply keep_alloc | apply keep_drew | apply keep_drewN | refine keep_step (by assumption) ?_ (by rfl) | refine keep_set ?_ _ _ (by first | exact Nat.le_refl _ | (show _ ≤ _; simp; done) | (show _ ≤ _; simp; omega))))⟩

/-- the split that the chapter's example wants -/
theorem split_big : SplitOK 85070591730234615847396907784232501249 9223372036854775807 := by
  refine psplit _ _ (by decide) (by unfold Is127; decide) (by decide) (by decide) fun W => ?_
  have e0 : HI 85070591730234615847396907784232501249 % 9223372036854775807 = 4611686018427387903 := by decide
  have e1 : LO 85070591730234615847396907784232501249 = 1 := by decide
  have e2 : LO (85070591730234615847396907784232501249 / 9223372036854775807) = 9223372036854775807 := by decide
  have e3 : (85070591730234615847396907784232501249 : Int) % 9223372036854775807 = 0 := by decide
  rw [e0, e1, e2, e3]
  exact pdivC W

/-- with one as the second number -/
theorem pDiv (lo hi a c how : Int) (w : World) (hlo : In64 lo) (hhi : In64 hi) (ha : In64 a) (hc : In64 c) (hlh : lo ≤ hi) (hhow : how = 1 ∨ how = 2 ∨ how = 3) (hc0 : c ≠ 0) :
    Calls Try.prog 21 #[.agg #[.int .i64 lo, .int .i64 hi], .int .i64 a, .int .i64 c, .int .i64 how] w (Out2 (okV lo hi (scl a c how)) (okE lo hi (scl a c how)) w) := by
  obtain ⟨y0, y1⟩ := mag_rng hc
  obtain ⟨a0, a1⟩ := mag_rng ha
  have y2 : 1 ≤ mag c := by unfold mag; split <;> omega
  have hS : SplitOK (mag (a * 1)) (mag c) := split_small (by rw [Int.mul_one]; exact a0) (by rw [Int.mul_one]; omega) y2 y1
  have H := fun W => pScale lo hi a 1 c how W hlo hhi ha (by unfold In64; omega) hc hlh hhow hc0 hS
  rw [Int.mul_one] at H
  have HH := Lib.hid H
  clear H hS
  go_enter Try.func21, Try.ntmps21
  go_wp2_with fail
  refine (HH.out _).mono ?_
  rintro _ w1 ⟨rfl, hb1⟩
  go_wp2
  go_ret2
  exact out2 rfl rfl (by repeat (first | exact Below.refl _ _ | apply keep_alloc | apply keep_drew | apply keep_drewN | refine keep_step (by assumption) ?_ (by rfl) | refine keep_set ?_ _ _ (by first | exact Nat.le_refl _ | (show _ ≤ _; simp; done) | (show _ ≤ _; simp; omega))))
/-- what Div refuses -/
theorem pScaleK (lo hi a b c how : Int) (w : World) (hlh : lo ≤ hi) (hhow : how < 1 ∨ 3 < how) :
    Calls Try.prog 23 #[.agg #[.int .i64 lo, .int .i64 hi], .int .i64 a, .int .i64 b, .int .i64 c, .int .i64 how] w (Out2 0 11 w) := by
  have CW := Lib.hid (chkW_ok (show ¬ hi < lo by omega))
  rcases (show how < 1 ∨ (1 ≤ how ∧ 3 < how) by omega) with h1 | ⟨h1, h2⟩
  all_goals
    clear hhow
    go_enter Try.func23, Try.ntmps23
    go_wp2_with fail
    refine (pfixCheck lo hi _).mono ?_
    rintro _ w2 ⟨rfl, hb2⟩
    rw [CW.out]
    go_wp2
    go_ret2
    exact out2 rfl rfl (by repeat (first | exact Below.refl _ _ | apply keep_alloc | apply keep_drew | apply keep_drewN | refine keep_step (by assumption) ?_ (by rfl) | refine keep_set ?_ _ _ (by first | exact Nat.le_refl _ | (show _ ≤ _; simp; done) | (show _ ≤ _; simp; omega))))
theorem pScaleZ (lo hi a b how : Int) (w : World) (hlh : lo ≤ hi) (h1 : 1 ≤ how) (h3 : how ≤ 3) :
    Calls Try.prog 23 #[.agg #[.int .i64 lo, .int .i64 hi], .int .i64 a, .int .i64 b, .int .i64 0, .int .i64 how] w (Out2 0 2 w) := by
  have CW := Lib.hid (chkW_ok (show ¬ hi < lo by omega))
  go_enter Try.func23, Try.ntmps23
  go_wp2_with fail
  refine (pfixCheck lo hi _).mono ?_
  rintro _ w2 ⟨rfl, hb2⟩
  rw [CW.out]
  go_wp2
  go_ret2
  exact out2 rfl rfl (by repeat (first | exact Below.refl _ _ | apply keep_alloc | apply keep_drew | apply keep_drewN | refine keep_step (by assumption) ?_ (by rfl) | refine keep_set ?_ _ _ (by first | exact Nat.le_refl _ | (show _ ≤ _; simp; done) | (show _ ≤ _; simp; omega))))
theorem pDivK (lo hi a c how : Int) (w : World) (hlh : lo ≤ hi) (hhow : how < 1 ∨ 3 < how) :
    Calls Try.prog 21 #[.agg #[.int .i64 lo, .int .i64 hi], .int .i64 a, .int .i64 c, .int .i64 how] w (Out2 0 11 w) := by
  have HW := Lib.hid hhow
  clear hhow
  go_enter Try.func21, Try.ntmps21
  go_wp2_with fail
  refine (pScaleK lo hi a 1 c how _ hlh HW.out).mono ?_
  rintro _ w1 ⟨rfl, hb1⟩
  go_wp2
  go_ret2
  exact out2 rfl rfl (by repeat (first | exact Below.refl _ _ | apply keep_alloc | apply keep_drew | apply keep_drewN | refine keep_step (by assumption) ?_ (by rfl) | refine keep_set ?_ _ _ (by first | exact Nat.le_refl _ | (show _ ≤ _; simp; done) | (show _ ≤ _; simp; omega))))
theorem pDivZ (lo hi a how : Int) (w : World) (hlh : lo ≤ hi) (h1 : 1 ≤ how) (h3 : how ≤ 3) :
    Calls Try.prog 21 #[.agg #[.int .i64 lo, .int .i64 hi], .int .i64 a, .int .i64 0, .int .i64 how] w (Out2 0 2 w) := by
  go_enter Try.func21, Try.ntmps21
  go_wp2_with fail
  refine (pScaleZ lo hi a 1 how _ hlh h1 h3).mono ?_
  rintro _ w1 ⟨rfl, hb1⟩
  go_wp2
  go_ret2
  exact out2 rfl rfl (by repeat (first | exact Below.refl _ _ | apply keep_alloc | apply keep_drew | apply keep_drewN | refine keep_step (by assumption) ?_ (by rfl) | refine keep_set ?_ _ _ (by first | exact Nat.le_refl _ | (show _ ≤ _; simp; done) | (show _ ≤ _; simp; omega))))
end Go.Proofs.Yteohnhjhdlcpiaa
