/- Layer 23: ModeFirst, continued. -/
import Derived.Test.YtokpimghaladjaaOgC
import Derived.ProofKit
import Derived.IntWalk
namespace Go.Proofs.Ytokpimghaladjaa
open Go Go.RowKit
set_option linter.unusedVariables false
set_option linter.unusedSimpArgs false
set_option linter.unnecessarySimpa false
set_option maxHeartbeats 8000000 in
theorem lawFirst (n t u : Int)  : Known Try.prog [] 9 [.int .i64 n, .int .i64 t, .int .i64 u] (.bool (lawFirst_c0 n t u)) := by
  rcases Bool.eq_false_or_eq_true (((u % (8 : Int)).fdiv (1 : Int)).tmod (2 : Int) == (1 : Int)) with hq0 | hq0
  ·
    rcases Bool.eq_false_or_eq_true (((u % (8 : Int)).fdiv (2 : Int)).tmod (2 : Int) == (1 : Int)) with hq1 | hq1
    ·
      rcases Bool.eq_false_or_eq_true (((u % (8 : Int)).fdiv (4 : Int)).tmod (2 : Int) == (1 : Int)) with hq2 | hq2
      ·
        have hq3 : (decide (n % (4 : Int) ≥ (0 : Int))) = true := by
          rcases Bool.eq_false_or_eq_true (decide (n % (4 : Int) ≥ (0 : Int))) with h | h
          · exact h
          · exfalso; (simp only [decide_eq_true_eq, decide_eq_false_iff_not, beqI, beqIf, bneI, bneIf, beqB, beqBf, bneB, bneBf, Bool.false_eq_true, Bool.true_eq_false, true_iff, iff_true, false_iff, iff_false, true_and, and_true, false_and, and_false, true_or, or_true, false_or, or_false, ne_eq, eq_self, Bool.not_eq_true', Bool.not_eq_false', Bool.and_eq_true, Bool.or_eq_true, Bool.and_eq_false_iff, Bool.or_eq_false_iff, not_true_eq_false, not_false_eq_true, IntKind.wrap_i64, wrapU64, tdivP, tmodP, fdivP, Int.reduceLT, Int.not_lt, Int.not_le, gt_iff_lt, ge_iff_le] at * <;> first | contradiction | omega)
        have hq4 : (!decide (n % (4 : Int) ≤ (3 : Int))) = false := by
          rcases Bool.eq_false_or_eq_true (!decide (n % (4 : Int) ≤ (3 : Int))) with h | h
          · exfalso; (simp only [decide_eq_true_eq, decide_eq_false_iff_not, beqI, beqIf, bneI, bneIf, beqB, beqBf, bneB, bneBf, Bool.false_eq_true, Bool.true_eq_false, true_iff, iff_true, false_iff, iff_false, true_and, and_true, false_and, and_false, true_or, or_true, false_or, or_false, ne_eq, eq_self, Bool.not_eq_true', Bool.not_eq_false', Bool.and_eq_true, Bool.or_eq_true, Bool.and_eq_false_iff, Bool.or_eq_false_iff, not_true_eq_false, not_false_eq_true, IntKind.wrap_i64, wrapU64, tdivP, tmodP, fdivP, Int.reduceLT, Int.not_lt, Int.not_le, gt_iff_lt, ge_iff_le] at * <;> first | contradiction | omega)
          · exact h
        have hq5 : (decide (t % (15 : Int) < (0 : Int))) = false := by
          rcases Bool.eq_false_or_eq_true (decide (t % (15 : Int) < (0 : Int))) with h | h
          · exfalso; (simp only [decide_eq_true_eq, decide_eq_false_iff_not, beqI, beqIf, bneI, bneIf, beqB, beqBf, bneB, bneBf, Bool.false_eq_true, Bool.true_eq_false, true_iff, iff_true, false_iff, iff_false, true_and, and_true, false_and, and_false, true_or, or_true, false_or, or_false, ne_eq, eq_self, Bool.not_eq_true', Bool.not_eq_false', Bool.and_eq_true, Bool.or_eq_true, Bool.and_eq_false_iff, Bool.or_eq_false_iff, not_true_eq_false, not_false_eq_true, IntKind.wrap_i64, wrapU64, tdivP, tmodP, fdivP, Int.reduceLT, Int.not_lt, Int.not_le, gt_iff_lt, ge_iff_le] at * <;> first | contradiction | omega)
          · exact h
        have hq6 : (decide (t % (15 : Int) ≥ (16 : Int))) = false := by
          rcases Bool.eq_false_or_eq_true (decide (t % (15 : Int) ≥ (16 : Int))) with h | h
          · exfalso; (simp only [decide_eq_true_eq, decide_eq_false_iff_not, beqI, beqIf, bneI, bneIf, beqB, beqBf, bneB, bneBf, Bool.false_eq_true, Bool.true_eq_false, true_iff, iff_true, false_iff, iff_false, true_and, and_true, false_and, and_false, true_or, or_true, false_or, or_false, ne_eq, eq_self, Bool.not_eq_true', Bool.not_eq_false', Bool.and_eq_true, Bool.or_eq_true, Bool.and_eq_false_iff, Bool.or_eq_false_iff, not_true_eq_false, not_false_eq_true, IntKind.wrap_i64, wrapU64, tdivP, tmodP, fdivP, Int.reduceLT, Int.not_lt, Int.not_le, gt_iff_lt, ge_iff_le] at * <;> first | contradiction | omega)
          · exact h
        rcases Bool.eq_false_or_eq_true (n % (4 : Int) == (0 : Int)) with hq7 | hq7
        ·
          rcases Bool.eq_false_or_eq_true ((t % (15 : Int)).tmod (2 : Int) == (0 : Int)) with hq8 | hq8
          ·
            have hq9 : (decide (IntKind.i64.wrap (t % (15 : Int) + (1 : Int)) < (0 : Int))) = false := by
              rcases Bool.eq_false_or_eq_true (decide (IntKind.i64.wrap (t % (15 : Int) + (1 : Int)) < (0 : Int))) with h | h
              · exfalso; (simp only [decide_eq_true_eq, decide_eq_false_iff_not, beqI, beqIf, bneI, bneIf, beqB, beqBf, bneB, bneBf, Bool.false_eq_true, Bool.true_eq_false, true_iff, iff_true, false_iff, iff_false, true_and, and_true, false_and, and_false, true_or, or_true, false_or, or_false, ne_eq, eq_self, Bool.not_eq_true', Bool.not_eq_false', Bool.and_eq_true, Bool.or_eq_true, Bool.and_eq_false_iff, Bool.or_eq_false_iff, not_true_eq_false, not_false_eq_true, IntKind.wrap_i64, wrapU64, tdivP, tmodP, fdivP, Int.reduceLT, Int.not_lt, Int.not_le, gt_iff_lt, ge_iff_le] at * <;> first | contradiction | omega)
              · exact h
            have hq10 : (decide (IntKind.i64.wrap (t % (15 : Int) + (1 : Int)) ≥ (16 : Int))) = false := by
              rcases Bool.eq_false_or_eq_true (decide (IntKind.i64.wrap (t % (15 : Int) + (1 : Int)) ≥ (16 : Int))) with h | h
              · exfalso; (simp only [decide_eq_true_eq, decide_eq_false_iff_not, beqI, beqIf, bneI, bneIf, beqB, beqBf, bneB, bneBf, Bool.false_eq_true, Bool.true_eq_false, true_iff, iff_true, false_iff, iff_false, true_and, and_true, false_and, and_false, true_or, or_true, false_or, or_false, ne_eq, eq_self, Bool.not_eq_true', Bool.not_eq_false', Bool.and_eq_true, Bool.or_eq_true, Bool.and_eq_false_iff, Bool.or_eq_false_iff, not_true_eq_false, not_false_eq_true, IntKind.wrap_i64, wrapU64, tdivP, tmodP, fdivP, Int.reduceLT, Int.not_lt, Int.not_le, gt_iff_lt, ge_iff_le] at * <;> first | contradiction | omega)
              · exact h
            have hq11 : ((IntKind.i64.wrap (t % (15 : Int) + (1 : Int))).tmod (2 : Int) == (0 : Int)) = false := by
              rcases Bool.eq_false_or_eq_true ((IntKind.i64.wrap (t % (15 : Int) + (1 : Int))).tmod (2 : Int) == (0 : Int)) with h | h
              · exfalso; (simp only [decide_eq_true_eq, decide_eq_false_iff_not, beqI, beqIf, bneI, bneIf, beqB, beqBf, bneB, bneBf, Bool.false_eq_true, Bool.true_eq_false, true_iff, iff_true, false_iff, iff_false, true_and, and_true, false_and, and_false, true_or, or_true, false_or, or_false, ne_eq, eq_self, Bool.not_eq_true', Bool.not_eq_false', Bool.and_eq_true, Bool.or_eq_true, Bool.and_eq_false_iff, Bool.or_eq_false_iff, not_true_eq_false, not_false_eq_true, IntKind.wrap_i64, wrapU64, tdivP, tmodP, fdivP, Int.reduceLT, Int.not_lt, Int.not_le, gt_iff_lt, ge_iff_le] at * <;> first | contradiction | omega)
              · exact h
            have e0 : lawFirst_c0 n t u = ((2 : Int) == (2 : Int)) := ((bif_t hq8 _ _).trans rfl); rw [e0]; exact lawFirst_p0 n t u hq0 hq1 hq2 hq3 hq4 hq5 hq6 hq7 hq8 hq9 hq10 hq11
          ·
            have hq9 : (decide (IntKind.i64.wrap (t % (15 : Int) + (1 : Int)) < (0 : Int))) = false := by
              rcases Bool.eq_false_or_eq_true (decide (IntKind.i64.wrap (t % (15 : Int) + (1 : Int)) < (0 : Int))) with h | h
              · exfalso; (simp only [decide_eq_true_eq, decide_eq_false_iff_not, beqI, beqIf, bneI, bneIf, beqB, beqBf, bneB, bneBf, Bool.false_eq_true, Bool.true_eq_false, true_iff, iff_true, false_iff, iff_false, true_and, and_true, false_and, and_false, true_or, or_true, false_or, or_false, ne_eq, eq_self, Bool.not_eq_true', Bool.not_eq_false', Bool.and_eq_true, Bool.or_eq_true, Bool.and_eq_false_iff, Bool.or_eq_false_iff, not_true_eq_false, not_false_eq_true, IntKind.wrap_i64, wrapU64, tdivP, tmodP, fdivP, Int.reduceLT, Int.not_lt, Int.not_le, gt_iff_lt, ge_iff_le] at * <;> first | contradiction | omega)
              · exact h
            have hq10 : (decide (IntKind.i64.wrap (t % (15 : Int) + (1 : Int)) ≥ (16 : Int))) = false := by
              rcases Bool.eq_false_or_eq_true (decide (IntKind.i64.wrap (t % (15 : Int) + (1 : Int)) ≥ (16 : Int))) with h | h
              · exfalso; (simp only [decide_eq_true_eq, decide_eq_false_iff_not, beqI, beqIf, bneI, bneIf, beqB, beqBf, bneB, bneBf, Bool.false_eq_true, Bool.true_eq_false, true_iff, iff_true, false_iff, iff_false, true_and, and_true, false_and, and_false, true_or, or_true, false_or, or_false, ne_eq, eq_self, Bool.not_eq_true', Bool.not_eq_false', Bool.and_eq_true, Bool.or_eq_true, Bool.and_eq_false_iff, Bool.or_eq_false_iff, not_true_eq_false, not_false_eq_true, IntKind.wrap_i64, wrapU64, tdivP, tmodP, fdivP, Int.reduceLT, Int.not_lt, Int.not_le, gt_iff_lt, ge_iff_le] at * <;> first | contradiction | omega)
              · exact h
            have hq11 : ((IntKind.i64.wrap (t % (15 : Int) + (1 : Int))).tmod (2 : Int) == (0 : Int)) = true := by
              rcases Bool.eq_false_or_eq_true ((IntKind.i64.wrap (t % (15 : Int) + (1 : Int))).tmod (2 : Int) == (0 : Int)) with h | h
              · exact h
              · exfalso; (simp only [decide_eq_true_eq, decide_eq_false_iff_not, beqI, beqIf, bneI, bneIf, beqB, beqBf, bneB, bneBf, Bool.false_eq_true, Bool.true_eq_false, true_iff, iff_true, false_iff, iff_false, true_and, and_true, false_and, and_false, true_or, or_true, false_or, or_false, ne_eq, eq_self, Bool.not_eq_true', Bool.not_eq_false', Bool.and_eq_true, Bool.or_eq_true, Bool.and_eq_false_iff, Bool.or_eq_false_iff, not_true_eq_false, not_false_eq_true, IntKind.wrap_i64, wrapU64, tdivP, tmodP, fdivP, Int.reduceLT, Int.not_lt, Int.not_le, gt_iff_lt, ge_iff_le] at * <;> first | contradiction | omega)
            have e0 : lawFirst_c0 n t u = ((1 : Int) == (1 : Int)) := ((bif_f hq8 _ _).trans rfl); rw [e0]; exact lawFirst_p1 n t u hq0 hq1 hq2 hq3 hq4 hq5 hq6 hq7 hq8 hq9 hq10 hq11
        ·
          rcases Bool.eq_false_or_eq_true (n % (4 : Int) == (1 : Int)) with hq12 | hq12
          ·
            rcases Bool.eq_false_or_eq_true ((t % (15 : Int)).tmod (2 : Int) == (0 : Int)) with hq8 | hq8
            ·
              have hq9 : (decide (IntKind.i64.wrap (t % (15 : Int) + (1 : Int)) < (0 : Int))) = false := by
                rcases Bool.eq_false_or_eq_true (decide (IntKind.i64.wrap (t % (15 : Int) + (1 : Int)) < (0 : Int))) with h | h
                · exfalso; (simp only [decide_eq_true_eq, decide_eq_false_iff_not, beqI, beqIf, bneI, bneIf, beqB, beqBf, bneB, bneBf, Bool.false_eq_true, Bool.true_eq_false, true_iff, iff_true, false_iff, iff_false, true_and, and_true, false_and, and_false, true_or, or_true, false_or, or_false, ne_eq, eq_self, Bool.not_eq_true', Bool.not_eq_false', Bool.and_eq_true, Bool.or_eq_true, Bool.and_eq_false_iff, Bool.or_eq_false_iff, not_true_eq_false, not_false_eq_true, IntKind.wrap_i64, wrapU64, tdivP, tmodP, fdivP, Int.reduceLT, Int.not_lt, Int.not_le, gt_iff_lt, ge_iff_le] at * <;> first | contradiction | omega)
                · exact h
              have hq10 : (decide (IntKind.i64.wrap (t % (15 : Int) + (1 : Int)) ≥ (16 : Int))) = false := by
                rcases Bool.eq_false_or_eq_true (decide (IntKind.i64.wrap (t % (15 : Int) + (1 : Int)) ≥ (16 : Int))) with h | h
                · exfalso; (simp only [decide_eq_true_eq, decide_eq_false_iff_not, beqI, beqIf, bneI, bneIf, beqB, beqBf, bneB, bneBf, Bool.false_eq_true, Bool.true_eq_false, true_iff, iff_true, false_iff, iff_false, true_and, and_true, false_and, and_false, true_or, or_true, false_or, or_false, ne_eq, eq_self, Bool.not_eq_true', Bool.not_eq_false', Bool.and_eq_true, Bool.or_eq_true, Bool.and_eq_false_iff, Bool.or_eq_false_iff, not_true_eq_false, not_false_eq_true, IntKind.wrap_i64, wrapU64, tdivP, tmodP, fdivP, Int.reduceLT, Int.not_lt, Int.not_le, gt_iff_lt, ge_iff_le] at * <;> first | contradiction | omega)
                · exact h
              have hq11 : ((IntKind.i64.wrap (t % (15 : Int) + (1 : Int))).tmod (2 : Int) == (0 : Int)) = false := by
                rcases Bool.eq_false_or_eq_true ((IntKind.i64.wrap (t % (15 : Int) + (1 : Int))).tmod (2 : Int) == (0 : Int)) with h | h
                · exfalso; (simp only [decide_eq_true_eq, decide_eq_false_iff_not, beqI, beqIf, bneI, bneIf, beqB, beqBf, bneB, bneBf, Bool.false_eq_true, Bool.true_eq_false, true_iff, iff_true, false_iff, iff_false, true_and, and_true, false_and, and_false, true_or, or_true, false_or, or_false, ne_eq, eq_self, Bool.not_eq_true', Bool.not_eq_false', Bool.and_eq_true, Bool.or_eq_true, Bool.and_eq_false_iff, Bool.or_eq_false_iff, not_true_eq_false, not_false_eq_true, IntKind.wrap_i64, wrapU64, tdivP, tmodP, fdivP, Int.reduceLT, Int.not_lt, Int.not_le, gt_iff_lt, ge_iff_le] at * <;> first | contradiction | omega)
                · exact h
              have e0 : lawFirst_c0 n t u = ((2 : Int) == (2 : Int)) := ((bif_t hq8 _ _).trans rfl); rw [e0]; exact lawFirst_p2 n t u hq0 hq1 hq2 hq3 hq4 hq5 hq6 hq7 hq12 hq8 hq9 hq10 hq11
            ·
              have hq9 : (decide (IntKind.i64.wrap (t % (15 : Int) + (1 : Int)) < (0 : Int))) = false := by
                rcases Bool.eq_false_or_eq_true (decide (IntKind.i64.wrap (t % (15 : Int) + (1 : Int)) < (0 : Int))) with h | h
                · exfalso; (simp only [decide_eq_true_eq, decide_eq_false_iff_not, beqI, beqIf, bneI, bneIf, beqB, beqBf, bneB, bneBf, Bool.false_eq_true, Bool.true_eq_false, true_iff, iff_true, false_iff, iff_false, true_and, and_true, false_and, and_false, true_or, or_true, false_or, or_false, ne_eq, eq_self, Bool.not_eq_true', Bool.not_eq_false', Bool.and_eq_true, Bool.or_eq_true, Bool.and_eq_false_iff, Bool.or_eq_false_iff, not_true_eq_false, not_false_eq_true, IntKind.wrap_i64, wrapU64, tdivP, tmodP, fdivP, Int.reduceLT, Int.not_lt, Int.not_le, gt_iff_lt, ge_iff_le] at * <;> first | contradiction | omega)
                · exact h
              have hq10 : (decide (IntKind.i64.wrap (t % (15 : Int) + (1 : Int)) ≥ (16 : Int))) = false := by
                rcases Bool.eq_false_or_eq_true (decide (IntKind.i64.wrap (t % (15 : Int) + (1 : Int)) ≥ (16 : Int))) with h | h
                · exfalso; (simp only [decide_eq_true_eq, decide_eq_false_iff_not, beqI, beqIf, bneI, bneIf, beqB, beqBf, bneB, bneBf, Bool.false_eq_true, Bool.true_eq_false, true_iff, iff_true, false_iff, iff_false, true_and, and_true, false_and, and_false, true_or, or_true, false_or, or_false, ne_eq, eq_self, Bool.not_eq_true', Bool.not_eq_false', Bool.and_eq_true, Bool.or_eq_true, Bool.and_eq_false_iff, Bool.or_eq_false_iff, not_true_eq_false, not_false_eq_true, IntKind.wrap_i64, wrapU64, tdivP, tmodP, fdivP, Int.reduceLT, Int.not_lt, Int.not_le, gt_iff_lt, ge_iff_le] at * <;> first | contradiction | omega)
                · exact h
              have hq11 : ((IntKind.i64.wrap (t % (15 : Int) + (1 : Int))).tmod (2 : Int) == (0 : Int)) = true := by
                rcases Bool.eq_false_or_eq_true ((IntKind.i64.wrap (t % (15 : Int) + (1 : Int))).tmod (2 : Int) == (0 : Int)) with h | h
                · exact h
                · exfalso; (simp only [decide_eq_true_eq, decide_eq_false_iff_not, beqI, beqIf, bneI, bneIf, beqB, beqBf, bneB, bneBf, Bool.false_eq_true, Bool.true_eq_false, true_iff, iff_true, false_iff, iff_false, true_and, and_true, false_and, and_false, true_or, or_true, false_or, or_false, ne_eq, eq_self, Bool.not_eq_true', Bool.not_eq_false', Bool.and_eq_true, Bool.or_eq_true, Bool.and_eq_false_iff, Bool.or_eq_false_iff, not_true_eq_false, not_false_eq_true, IntKind.wrap_i64, wrapU64, tdivP, tmodP, fdivP, Int.reduceLT, Int.not_lt, Int.not_le, gt_iff_lt, ge_iff_le] at * <;> first | contradiction | omega)
              have e0 : lawFirst_c0 n t u = ((1 : Int) == (1 : Int)) := ((bif_f hq8 _ _).trans rfl); rw [e0]; exact lawFirst_p3 n t u hq0 hq1 hq2 hq3 hq4 hq5 hq6 hq7 hq12 hq8 hq9 hq10 hq11
          ·
            rcases Bool.eq_false_or_eq_true (n % (4 : Int) == (3 : Int)) with hq13 | hq13
            ·
              rcases Bool.eq_false_or_eq_true ((t % (15 : Int)).tmod (2 : Int) == (0 : Int)) with hq8 | hq8
              ·
                have hq9 : (decide (IntKind.i64.wrap (t % (15 : Int) + (1 : Int)) < (0 : Int))) = false := by
                  rcases Bool.eq_false_or_eq_true (decide (IntKind.i64.wrap (t % (15 : Int) + (1 : Int)) < (0 : Int))) with h | h
                  · exfalso; (simp only [decide_eq_true_eq, decide_eq_false_iff_not, beqI, beqIf, bneI, bneIf, beqB, beqBf, bneB, bneBf, Bool.false_eq_true, Bool.true_eq_false, true_iff, iff_true, false_iff, iff_false, true_and, and_true, false_and, and_false, true_or, or_true, false_or, or_false, ne_eq, eq_self, Bool.not_eq_true', Bool.not_eq_false', Bool.and_eq_true, Bool.or_eq_true, Bool.and_eq_false_iff, Bool.or_eq_false_iff, not_true_eq_false, not_false_eq_true, IntKind.wrap_i64, wrapU64, tdivP, tmodP, fdivP, Int.reduceLT, Int.not_lt, Int.not_le, gt_iff_lt, ge_iff_le] at * <;> first | contradiction | omega)
                  · exact h
                have hq10 : (decide (IntKind.i64.wrap (t % (15 : Int) + (1 : Int)) ≥ (16 : Int))) = false := by
                  rcases Bool.eq_false_or_eq_true (decide (IntKind.i64.wrap (t % (15 : Int) + (1 : Int)) ≥ (16 : Int))) with h | h
                  · exfalso; (simp only [decide_eq_true_eq, decide_eq_false_iff_not, beqI, beqIf, bneI, bneIf, beqB, beqBf, bneB, bneBf, Bool.false_eq_true, Bool.true_eq_false, true_iff, iff_true, false_iff, iff_false, true_and, and_true, false_and, and_false, true_or, or_true, false_or, or_false, ne_eq, eq_self, Bool.not_eq_true', Bool.not_eq_false', Bool.and_eq_true, Bool.or_eq_true, Bool.and_eq_false_iff, Bool.or_eq_false_iff, not_true_eq_false, not_false_eq_true, IntKind.wrap_i64, wrapU64, tdivP, tmodP, fdivP, Int.reduceLT, Int.not_lt, Int.not_le, gt_iff_lt, ge_iff_le] at * <;> first | contradiction | omega)
                  · exact h
                have hq11 : ((IntKind.i64.wrap (t % (15 : Int) + (1 : Int))).tmod (2 : Int) == (0 : Int)) = false := by
                  rcases Bool.eq_false_or_eq_true ((IntKind.i64.wrap (t % (15 : Int) + (1 : Int))).tmod (2 : Int) == (0 : Int)) with h | h
                  · exfalso; (simp only [decide_eq_true_eq, decide_eq_false_iff_not, beqI, beqIf, bneI, bneIf, beqB, beqBf, bneB, bneBf, Bool.false_eq_true, Bool.true_eq_false, true_iff, iff_true, false_iff, iff_false, true_and, and_true, false_and, and_false, true_or, or_true, false_or, or_false, ne_eq, eq_self, Bool.not_eq_true', Bool.not_eq_false', Bool.and_eq_true, Bool.or_eq_true, Bool.and_eq_false_iff, Bool.or_eq_false_iff, not_true_eq_false, not_false_eq_true, IntKind.wrap_i64, wrapU64, tdivP, tmodP, fdivP, Int.reduceLT, Int.not_lt, Int.not_le, gt_iff_lt, ge_iff_le] at * <;> first | contradiction | omega)
                  · exact h
                have e0 : lawFirst_c0 n t u = ((2 : Int) == (2 : Int)) := ((bif_t hq8 _ _).trans rfl); rw [e0]; exact lawFirst_p4 n t u hq0 hq1 hq2 hq3 hq4 hq5 hq6 hq7 hq12 hq13 hq8 hq9 hq10 hq11
              ·
                have hq9 : (decide (IntKind.i64.wrap (t % (15 : Int) + (1 : Int)) < (0 : Int))) = false := by
                  rcases Bool.eq_false_or_eq_true (decide (IntKind.i64.wrap (t % (15 : Int) + (1 : Int)) < (0 : Int))) with h | h
                  · exfalso; (simp only [decide_eq_true_eq, decide_eq_false_iff_not, beqI, beqIf, bneI, bneIf, beqB, beqBf, bneB, bneBf, Bool.false_eq_true, Bool.true_eq_false, true_iff, iff_true, false_iff, iff_false, true_and, and_true, false_and, and_false, true_or, or_true, false_or, or_false, ne_eq, eq_self, Bool.not_eq_true', Bool.not_eq_false', Bool.and_eq_true, Bool.or_eq_true, Bool.and_eq_false_iff, Bool.or_eq_false_iff, not_true_eq_false, not_false_eq_true, IntKind.wrap_i64, wrapU64, tdivP, tmodP, fdivP, Int.reduceLT, Int.not_lt, Int.not_le, gt_iff_lt, ge_iff_le] at * <;> first | contradiction | omega)
                  · exact h
                have hq10 : (decide (IntKind.i64.wrap (t % (15 : Int) + (1 : Int)) ≥ (16 : Int))) = false := by
                  rcases Bool.eq_false_or_eq_true (decide (IntKind.i64.wrap (t % (15 : Int) + (1 : Int)) ≥ (16 : Int))) with h | h
                  · exfalso; (simp only [decide_eq_true_eq, decide_eq_false_iff_not, beqI, beqIf, bneI, bneIf, beqB, beqBf, bneB, bneBf, Bool.false_eq_true, Bool.true_eq_false, true_iff, iff_true, false_iff, iff_false, true_and, and_true, false_and, and_false, true_or, or_true, false_or, or_false, ne_eq, eq_self, Bool.not_eq_true', Bool.not_eq_false', Bool.and_eq_true, Bool.or_eq_true, Bool.and_eq_false_iff, Bool.or_eq_false_iff, not_true_eq_false, not_false_eq_true, IntKind.wrap_i64, wrapU64, tdivP, tmodP, fdivP, Int.reduceLT, Int.not_lt, Int.not_le, gt_iff_lt, ge_iff_le] at * <;> first | contradiction | omega)
                  · exact h
                have hq11 : ((IntKind.i64.wrap (t % (15 : Int) + (1 : Int))).tmod (2 : Int) == (0 : Int)) = true := by
                  rcases Bool.eq_false_or_eq_true ((IntKind.i64.wrap (t % (15 : Int) + (1 : Int))).tmod (2 : Int) == (0 : Int)) with h | h
                  · exact h
                  · exfalso; (simp only [decide_eq_true_eq, decide_eq_false_iff_not, beqI, beqIf, bneI, bneIf, beqB, beqBf, bneB, bneBf, Bool.false_eq_true, Bool.true_eq_false, true_iff, iff_true, false_iff, iff_false, true_and, and_true, false_and, and_false, true_or, or_true, false_or, or_false, ne_eq, eq_self, Bool.not_eq_true', Bool.not_eq_false', Bool.and_eq_true, Bool.or_eq_true, Bool.and_eq_false_iff, Bool.or_eq_false_iff, not_true_eq_false, not_false_eq_true, IntKind.wrap_i64, wrapU64, tdivP, tmodP, fdivP, Int.reduceLT, Int.not_lt, Int.not_le, gt_iff_lt, ge_iff_le] at * <;> first | contradiction | omega)
                have e0 : lawFirst_c0 n t u = ((1 : Int) == (1 : Int)) := ((bif_f hq8 _ _).trans rfl); rw [e0]; exact lawFirst_p5 n t u hq0 hq1 hq2 hq3 hq4 hq5 hq6 hq7 hq12 hq13 hq8 hq9 hq10 hq11
            ·
              rcases Bool.eq_false_or_eq_true ((t % (15 : Int)).tmod (2 : Int) == (0 : Int)) with hq8 | hq8
              ·
                have hq9 : (decide (IntKind.i64.wrap (t % (15 : Int) + (1 : Int)) < (0 : Int))) = false := by
                  rcases Bool.eq_false_or_eq_true (decide (IntKind.i64.wrap (t % (15 : Int) + (1 : Int)) < (0 : Int))) with h | h
                  · exfalso; (simp only [decide_eq_true_eq, decide_eq_false_iff_not, beqI, beqIf, bneI, bneIf, beqB, beqBf, bneB, bneBf, Bool.false_eq_true, Bool.true_eq_false, true_iff, iff_true, false_iff, iff_false, true_and, and_true, false_and, and_false, true_or, or_true, false_or, or_false, ne_eq, eq_self, Bool.not_eq_true', Bool.not_eq_false', Bool.and_eq_true, Bool.or_eq_true, Bool.and_eq_false_iff, Bool.or_eq_false_iff, not_true_eq_false, not_false_eq_true, IntKind.wrap_i64, wrapU64, tdivP, tmodP, fdivP, Int.reduceLT, Int.not_lt, Int.not_le, gt_iff_lt, ge_iff_le] at * <;> first | contradiction | omega)
                  · exact h
                have hq10 : (decide (IntKind.i64.wrap (t % (15 : Int) + (1 : Int)) ≥ (16 : Int))) = false := by
                  rcases Bool.eq_false_or_eq_true (decide (IntKind.i64.wrap (t % (15 : Int) + (1 : Int)) ≥ (16 : Int))) with h | h
                  · exfalso; (simp only [decide_eq_true_eq, decide_eq_false_iff_not, beqI, beqIf, bneI, bneIf, beqB, beqBf, bneB, bneBf, Bool.false_eq_true, Bool.true_eq_false, true_iff, iff_true, false_iff, iff_false, true_and, and_true, false_and, and_false, true_or, or_true, false_or, or_false, ne_eq, eq_self, Bool.not_eq_true', Bool.not_eq_false', Bool.and_eq_true, Bool.or_eq_true, Bool.and_eq_false_iff, Bool.or_eq_false_iff, not_true_eq_false, not_false_eq_true, IntKind.wrap_i64, wrapU64, tdivP, tmodP, fdivP, Int.reduceLT, Int.not_lt, Int.not_le, gt_iff_lt, ge_iff_le] at * <;> first | contradiction | omega)
                  · exact h
                have hq11 : ((IntKind.i64.wrap (t % (15 : Int) + (1 : Int))).tmod (2 : Int) == (0 : Int)) = false := by
                  rcases Bool.eq_false_or_eq_true ((IntKind.i64.wrap (t % (15 : Int) + (1 : Int))).tmod (2 : Int) == (0 : Int)) with h | h
                  · exfalso; (simp only [decide_eq_true_eq, decide_eq_false_iff_not, beqI, beqIf, bneI, bneIf, beqB, beqBf, bneB, bneBf, Bool.false_eq_true, Bool.true_eq_false, true_iff, iff_true, false_iff, iff_false, true_and, and_true, false_and, and_false, true_or, or_true, false_or, or_false, ne_eq, eq_self, Bool.not_eq_true', Bool.not_eq_false', Bool.and_eq_true, Bool.or_eq_true, Bool.and_eq_false_iff, Bool.or_eq_false_iff, not_true_eq_false, not_false_eq_true, IntKind.wrap_i64, wrapU64, tdivP, tmodP, fdivP, Int.reduceLT, Int.not_lt, Int.not_le, gt_iff_lt, ge_iff_le] at * <;> first | contradiction | omega)
                  · exact h
                have e0 : lawFirst_c0 n t u = ((2 : Int) == (2 : Int)) := ((bif_t hq8 _ _).trans rfl); rw [e0]; exact lawFirst_p6 n t u hq0 hq1 hq2 hq3 hq4 hq5 hq6 hq7 hq12 hq13 hq8 hq9 hq10 hq11
              ·
                have hq9 : (decide (IntKind.i64.wrap (t % (15 : Int) + (1 : Int)) < (0 : Int))) = false := by
                  rcases Bool.eq_false_or_eq_true (decide (IntKind.i64.wrap (t % (15 : Int) + (1 : Int)) < (0 : Int))) with h | h
                  · exfalso; (simp only [decide_eq_true_eq, decide_eq_false_iff_not, beqI, beqIf, bneI, bneIf, beqB, beqBf, bneB, bneBf, Bool.false_eq_true, Bool.true_eq_false, true_iff, iff_true, false_iff, iff_false, true_and, and_true, false_and, and_false, true_or, or_true, false_or, or_false, ne_eq, eq_self, Bool.not_eq_true', Bool.not_eq_false', Bool.and_eq_true, Bool.or_eq_true, Bool.and_eq_false_iff, Bool.or_eq_false_iff, not_true_eq_false, not_false_eq_true, IntKind.wrap_i64, wrapU64, tdivP, tmodP, fdivP, Int.reduceLT, Int.not_lt, Int.not_le, gt_iff_lt, ge_iff_le] at * <;> first | contradiction | omega)
                  · exact h
                have hq10 : (decide (IntKind.i64.wrap (t % (15 : Int) + (1 : Int)) ≥ (16 : Int))) = false := by
                  rcases Bool.eq_false_or_eq_true (decide (IntKind.i64.wrap (t % (15 : Int) + (1 : Int)) ≥ (16 : Int))) with h | h
                  · exfalso; (simp only [decide_eq_true_eq, decide_eq_false_iff_not, beqI, beqIf, bneI, bneIf, beqB, beqBf, bneB, bneBf, Bool.false_eq_true, Bool.true_eq_false, true_iff, iff_true, false_iff, iff_false, true_and, and_true, false_and, and_false, true_or, or_true, false_or, or_false, ne_eq, eq_self, Bool.not_eq_true', Bool.not_eq_false', Bool.and_eq_true, Bool.or_eq_true, Bool.and_eq_false_iff, Bool.or_eq_false_iff, not_true_eq_false, not_false_eq_true, IntKind.wrap_i64, wrapU64, tdivP, tmodP, fdivP, Int.reduceLT, Int.not_lt, Int.not_le, gt_iff_lt, ge_iff_le] at * <;> first | contradiction | omega)
                  · exact h
                have hq11 : ((IntKind.i64.wrap (t % (15 : Int) + (1 : Int))).tmod (2 : Int) == (0 : Int)) = true := by
                  rcases Bool.eq_false_or_eq_true ((IntKind.i64.wrap (t % (15 : Int) + (1 : Int))).tmod (2 : Int) == (0 : Int)) with h | h
                  · exact h
                  · exfalso; (simp only [decide_eq_true_eq, decide_eq_false_iff_not, beqI, beqIf, bneI, bneIf, beqB, beqBf, bneB, bneBf, Bool.false_eq_true, Bool.true_eq_false, true_iff, iff_true, false_iff, iff_false, true_and, and_true, false_and, and_false, true_or, or_true, false_or, or_false, ne_eq, eq_self, Bool.not_eq_true', Bool.not_eq_false', Bool.and_eq_true, Bool.or_eq_true, Bool.and_eq_false_iff, Bool.or_eq_false_iff, not_true_eq_false, not_false_eq_true, IntKind.wrap_i64, wrapU64, tdivP, tmodP, fdivP, Int.reduceLT, Int.not_lt, Int.not_le, gt_iff_lt, ge_iff_le] at * <;> first | contradiction | omega)
                have e0 : lawFirst_c0 n t u = ((1 : Int) == (1 : Int)) := ((bif_f hq8 _ _).trans rfl); rw [e0]; exact lawFirst_p7 n t u hq0 hq1 hq2 hq3 hq4 hq5 hq6 hq7 hq12 hq13 hq8 hq9 hq10 hq11
      ·
        have hq3 : (decide (n % (4 : Int) ≥ (0 : Int))) = true := by
          rcases Bool.eq_false_or_eq_true (decide (n % (4 : Int) ≥ (0 : Int))) with h | h
          · exact h
          · exfalso; (simp only [decide_eq_true_eq, decide_eq_false_iff_not, beqI, beqIf, bneI, bneIf, beqB, beqBf, bneB, bneBf, Bool.false_eq_true, Bool.true_eq_false, true_iff, iff_true, false_iff, iff_false, true_and, and_true, false_and, and_false, true_or, or_true, false_or, or_false, ne_eq, eq_self, Bool.not_eq_true', Bool.not_eq_false', Bool.and_eq_true, Bool.or_eq_true, Bool.and_eq_false_iff, Bool.or_eq_false_iff, not_true_eq_false, not_false_eq_true, IntKind.wrap_i64, wrapU64, tdivP, tmodP, fdivP, Int.reduceLT, Int.not_lt, Int.not_le, gt_iff_lt, ge_iff_le] at * <;> first | contradiction | omega)
        have hq4 : (!decide (n % (4 : Int) ≤ (3 : Int))) = false := by
          rcases Bool.eq_false_or_eq_true (!decide (n % (4 : Int) ≤ (3 : Int))) with h | h
          · exfalso; (simp only [decide_eq_true_eq, decide_eq_false_iff_not, beqI, beqIf, bneI, bneIf, beqB, beqBf, bneB, bneBf, Bool.false_eq_true, Bool.true_eq_false, true_iff, iff_true, false_iff, iff_false, true_and, and_true, false_and, and_false, true_or, or_true, false_or, or_false, ne_eq, eq_self, Bool.not_eq_true', Bool.not_eq_false', Bool.and_eq_true, Bool.or_eq_true, Bool.and_eq_false_iff, Bool.or_eq_false_iff, not_true_eq_false, not_false_eq_true, IntKind.wrap_i64, wrapU64, tdivP, tmodP, fdivP, Int.reduceLT, Int.not_lt, Int.not_le, gt_iff_lt, ge_iff_le] at * <;> first | contradiction | omega)
          · exact h
        have hq5 : (decide (t % (15 : Int) < (0 : Int))) = false := by
          rcases Bool.eq_false_or_eq_true (decide (t % (15 : Int) < (0 : Int))) with h | h
          · exfalso; (simp only [decide_eq_true_eq, decide_eq_false_iff_not, beqI, beqIf, bneI, bneIf, beqB, beqBf, bneB, bneBf, Bool.false_eq_true, Bool.true_eq_false, true_iff, iff_true, false_iff, iff_false, true_and, and_true, false_and, and_false, true_or, or_true, false_or, or_false, ne_eq, eq_self, Bool.not_eq_true', Bool.not_eq_false', Bool.and_eq_true, Bool.or_eq_true, Bool.and_eq_false_iff, Bool.or_eq_false_iff, not_true_eq_false, not_false_eq_true, IntKind.wrap_i64, wrapU64, tdivP, tmodP, fdivP, Int.reduceLT, Int.not_lt, Int.not_le, gt_iff_lt, ge_iff_le] at * <;> first | contradiction | omega)
          · exact h
        have hq6 : (decide (t % (15 : Int) ≥ (16 : Int))) = false := by
          rcases Bool.eq_false_or_eq_true (decide (t % (15 : Int) ≥ (16 : Int))) with h | h
          · exfalso; (simp only [decide_eq_true_eq, decide_eq_false_iff_not, beqI, beqIf, bneI, bneIf, beqB, beqBf, bneB, bneBf, Bool.false_eq_true, Bool.true_eq_false, true_iff, iff_true, false_iff, iff_false, true_and, and_true, false_and, and_false, true_or, or_true, false_or, or_false, ne_eq, eq_self, Bool.not_eq_true', Bool.not_eq_false', Bool.and_eq_true, Bool.or_eq_true, Bool.and_eq_false_iff, Bool.or_eq_false_iff, not_true_eq_false, not_false_eq_true, IntKind.wrap_i64, wrapU64, tdivP, tmodP, fdivP, Int.reduceLT, Int.not_lt, Int.not_le, gt_iff_lt, ge_iff_le] at * <;> first | contradiction | omega)
          · exact h
        rcases Bool.eq_false_or_eq_true (n % (4 : Int) == (0 : Int)) with hq7 | hq7
        ·
          rcases Bool.eq_false_or_eq_true ((t % (15 : Int)).tmod (2 : Int) == (0 : Int)) with hq8 | hq8
          ·
            have hq9 : (decide (IntKind.i64.wrap (t % (15 : Int) + (1 : Int)) < (0 : Int))) = false := by
              rcases Bool.eq_false_or_eq_true (decide (IntKind.i64.wrap (t % (15 : Int) + (1 : Int)) < (0 : Int))) with h | h
              · exfalso; (simp only [decide_eq_true_eq, decide_eq_false_iff_not, beqI, beqIf, bneI, bneIf, beqB, beqBf, bneB, bneBf, Bool.false_eq_true, Bool.true_eq_false, true_iff, iff_true, false_iff, iff_false, true_and, and_true, false_and, and_false, true_or, or_true, false_or, or_false, ne_eq, eq_self, Bool.not_eq_true', Bool.not_eq_false', Bool.and_eq_true, Bool.or_eq_true, Bool.and_eq_false_iff, Bool.or_eq_false_iff, not_true_eq_false, not_false_eq_true, IntKind.wrap_i64, wrapU64, tdivP, tmodP, fdivP, Int.reduceLT, Int.not_lt, Int.not_le, gt_iff_lt, ge_iff_le] at * <;> first | contradiction | omega)
              · exact h
            have hq10 : (decide (IntKind.i64.wrap (t % (15 : Int) + (1 : Int)) ≥ (16 : Int))) = false := by
              rcases Bool.eq_false_or_eq_true (decide (IntKind.i64.wrap (t % (15 : Int) + (1 : Int)) ≥ (16 : Int))) with h | h
              · exfalso; (simp only [decide_eq_true_eq, decide_eq_false_iff_not, beqI, beqIf, bneI, bneIf, beqB, beqBf, bneB, bneBf, Bool.false_eq_true, Bool.true_eq_false, true_iff, iff_true, false_iff, iff_false, true_and, and_true, false_and, and_false, true_or, or_true, false_or, or_false, ne_eq, eq_self, Bool.not_eq_true', Bool.not_eq_false', Bool.and_eq_true, Bool.or_eq_true, Bool.and_eq_false_iff, Bool.or_eq_false_iff, not_true_eq_false, not_false_eq_true, IntKind.wrap_i64, wrapU64, tdivP, tmodP, fdivP, Int.reduceLT, Int.not_lt, Int.not_le, gt_iff_lt, ge_iff_le] at * <;> first | contradiction | omega)
              · exact h
            have hq11 : ((IntKind.i64.wrap (t % (15 : Int) + (1 : Int))).tmod (2 : Int) == (0 : Int)) = false := by
              rcases Bool.eq_false_or_eq_true ((IntKind.i64.wrap (t % (15 : Int) + (1 : Int))).tmod (2 : Int) == (0 : Int)) with h | h
              · exfalso; (simp only [decide_eq_true_eq, decide_eq_false_iff_not, beqI, beqIf, bneI, bneIf, beqB, beqBf, bneB, bneBf, Bool.false_eq_true, Bool.true_eq_false, true_iff, iff_true, false_iff, iff_false, true_and, and_true, false_and, and_false, true_or, or_true, false_or, or_false, ne_eq, eq_self, Bool.not_eq_true', Bool.not_eq_false', Bool.and_eq_true, Bool.or_eq_true, Bool.and_eq_false_iff, Bool.or_eq_false_iff, not_true_eq_false, not_false_eq_true, IntKind.wrap_i64, wrapU64, tdivP, tmodP, fdivP, Int.reduceLT, Int.not_lt, Int.not_le, gt_iff_lt, ge_iff_le] at * <;> first | contradiction | omega)
              · exact h
            have e0 : lawFirst_c0 n t u = ((2 : Int) == (2 : Int)) := ((bif_t hq8 _ _).trans rfl); rw [e0]; exact lawFirst_p8 n t u hq0 hq1 hq2 hq3 hq4 hq5 hq6 hq7 hq8 hq9 hq10 hq11
          ·
            have hq9 : (decide (IntKind.i64.wrap (t % (15 : Int) + (1 : Int)) < (0 : Int))) = false := by
              rcases Bool.eq_false_or_eq_true (decide (IntKind.i64.wrap (t % (15 : Int) + (1 : Int)) < (0 : Int))) with h | h
              · exfalso; (simp only [decide_eq_true_eq, decide_eq_false_iff_not, beqI, beqIf, bneI, bneIf, beqB, beqBf, bneB, bneBf, Bool.false_eq_true, Bool.true_eq_false, true_iff, iff_true, false_iff, iff_false, true_and, and_true, false_and, and_false, true_or, or_true, false_or, or_false, ne_eq, eq_self, Bool.not_eq_true', Bool.not_eq_false', Bool.and_eq_true, Bool.or_eq_true, Bool.and_eq_false_iff, Bool.or_eq_false_iff, not_true_eq_false, not_false_eq_true, IntKind.wrap_i64, wrapU64, tdivP, tmodP, fdivP, Int.reduceLT, Int.not_lt, Int.not_le, gt_iff_lt, ge_iff_le] at * <;> first | contradiction | omega)
              · exact h
            have hq10 : (decide (IntKind.i64.wrap (t % (15 : Int) + (1 : Int)) ≥ (16 : Int))) = false := by
              rcases Bool.eq_false_or_eq_true (decide (IntKind.i64.wrap (t % (15 : Int) + (1 : Int)) ≥ (16 : Int))) with h | h
              · exfalso; (simp only [decide_eq_true_eq, decide_eq_false_iff_not, beqI, beqIf, bneI, bneIf, beqB, beqBf, bneB, bneBf, Bool.false_eq_true, Bool.true_eq_false, true_iff, iff_true, false_iff, iff_false, true_and, and_true, false_and, and_false, true_or, or_true, false_or, or_false, ne_eq, eq_self, Bool.not_eq_true', Bool.not_eq_false', Bool.and_eq_true, Bool.or_eq_true, Bool.and_eq_false_iff, Bool.or_eq_false_iff, not_true_eq_false, not_false_eq_true, IntKind.wrap_i64, wrapU64, tdivP, tmodP, fdivP, Int.reduceLT, Int.not_lt, Int.not_le, gt_iff_lt, ge_iff_le] at * <;> first | contradiction | omega)
              · exact h
            have hq11 : ((IntKind.i64.wrap (t % (15 : Int) + (1 : Int))).tmod (2 : Int) == (0 : Int)) = true := by
              rcases Bool.eq_false_or_eq_true ((IntKind.i64.wrap (t % (15 : Int) + (1 : Int))).tmod (2 : Int) == (0 : Int)) with h | h
              · exact h
              · exfalso; (simp only [decide_eq_true_eq, decide_eq_false_iff_not, beqI, beqIf, bneI, bneIf, beqB, beqBf, bneB, bneBf, Bool.false_eq_true, Bool.true_eq_false, true_iff, iff_true, false_iff, iff_false, true_and, and_true, false_and, and_false, true_or, or_true, false_or, or_false, ne_eq, eq_self, Bool.not_eq_true', Bool.not_eq_false', Bool.and_eq_true, Bool.or_eq_true, Bool.and_eq_false_iff, Bool.or_eq_false_iff, not_true_eq_false, not_false_eq_true, IntKind.wrap_i64, wrapU64, tdivP, tmodP, fdivP, Int.reduceLT, Int.not_lt, Int.not_le, gt_iff_lt, ge_iff_le] at * <;> first | contradiction | omega)
            have e0 : lawFirst_c0 n t u = ((1 : Int) == (1 : Int)) := ((bif_f hq8 _ _).trans rfl); rw [e0]; exact lawFirst_p9 n t u hq0 hq1 hq2 hq3 hq4 hq5 hq6 hq7 hq8 hq9 hq10 hq11
        ·
          rcases Bool.eq_false_or_eq_true (n % (4 : Int) == (1 : Int)) with hq12 | hq12
          ·
            rcases Bool.eq_false_or_eq_true ((t % (15 : Int)).tmod (2 : Int) == (0 : Int)) with hq8 | hq8
            ·
              have hq9 : (decide (IntKind.i64.wrap (t % (15 : Int) + (1 : Int)) < (0 : Int))) = false := by
                rcases Bool.eq_false_or_eq_true (decide (IntKind.i64.wrap (t % (15 : Int) + (1 : Int)) < (0 : Int))) with h | h
                · exfalso; (simp only [decide_eq_true_eq, decide_eq_false_iff_not, beqI, beqIf, bneI, bneIf, beqB, beqBf, bneB, bneBf, Bool.false_eq_true, Bool.true_eq_false, true_iff, iff_true, false_iff, iff_false, true_and, and_true, false_and, and_false, true_or, or_true, false_or, or_false, ne_eq, eq_self, Bool.not_eq_true', Bool.not_eq_false', Bool.and_eq_true, Bool.or_eq_true, Bool.and_eq_false_iff, Bool.or_eq_false_iff, not_true_eq_false, not_false_eq_true, IntKind.wrap_i64, wrapU64, tdivP, tmodP, fdivP, Int.reduceLT, Int.not_lt, Int.not_le, gt_iff_lt, ge_iff_le] at * <;> first | contradiction | omega)
                · exact h
              have hq10 : (decide (IntKind.i64.wrap (t % (15 : Int) + (1 : Int)) ≥ (16 : Int))) = false := by
                rcases Bool.eq_false_or_eq_true (decide (IntKind.i64.wrap (t % (15 : Int) + (1 : Int)) ≥ (16 : Int))) with h | h
                · exfalso; (simp only [decide_eq_true_eq, decide_eq_false_iff_not, beqI, beqIf, bneI, bneIf, beqB, beqBf, bneB, bneBf, Bool.false_eq_true, Bool.true_eq_false, true_iff, iff_true, false_iff, iff_false, true_and, and_true, false_and, and_false, true_or, or_true, false_or, or_false, ne_eq, eq_self, Bool.not_eq_true', Bool.not_eq_false', Bool.and_eq_true, Bool.or_eq_true, Bool.and_eq_false_iff, Bool.or_eq_false_iff, not_true_eq_false, not_false_eq_true, IntKind.wrap_i64, wrapU64, tdivP, tmodP, fdivP, Int.reduceLT, Int.not_lt, Int.not_le, gt_iff_lt, ge_iff_le] at * <;> first | contradiction | omega)
                · exact h
              have hq11 : ((IntKind.i64.wrap (t % (15 : Int) + (1 : Int))).tmod (2 : Int) == (0 : Int)) = false := by
                rcases Bool.eq_false_or_eq_true ((IntKind.i64.wrap (t % (15 : Int) + (1 : Int))).tmod (2 : Int) == (0 : Int)) with h | h
                · exfalso; (simp only [decide_eq_true_eq, decide_eq_false_iff_not, beqI, beqIf, bneI, bneIf, beqB, beqBf, bneB, bneBf, Bool.false_eq_true, Bool.true_eq_false, true_iff, iff_true, false_iff, iff_false, true_and, and_true, false_and, and_false, true_or, or_true, false_or, or_false, ne_eq, eq_self, Bool.not_eq_true', Bool.not_eq_false', Bool.and_eq_true, Bool.or_eq_true, Bool.and_eq_false_iff, Bool.or_eq_false_iff, not_true_eq_false, not_false_eq_true, IntKind.wrap_i64, wrapU64, tdivP, tmodP, fdivP, Int.reduceLT, Int.not_lt, Int.not_le, gt_iff_lt, ge_iff_le] at * <;> first | contradiction | omega)
                · exact h
              have e0 : lawFirst_c0 n t u = ((2 : Int) == (2 : Int)) := ((bif_t hq8 _ _).trans rfl); rw [e0]; exact lawFirst_p10 n t u hq0 hq1 hq2 hq3 hq4 hq5 hq6 hq7 hq12 hq8 hq9 hq10 hq11
            ·
              have hq9 : (decide (IntKind.i64.wrap (t % (15 : Int) + (1 : Int)) < (0 : Int))) = false := by
                rcases Bool.eq_false_or_eq_true (decide (IntKind.i64.wrap (t % (15 : Int) + (1 : Int)) < (0 : Int))) with h | h
                · exfalso; (simp only [decide_eq_true_eq, decide_eq_false_iff_not, beqI, beqIf, bneI, bneIf, beqB, beqBf, bneB, bneBf, Bool.false_eq_true, Bool.true_eq_false, true_iff, iff_true, false_iff, iff_false, true_and, and_true, false_and, and_false, true_or, or_true, false_or, or_false, ne_eq, eq_self, Bool.not_eq_true', Bool.not_eq_false', Bool.and_eq_true, Bool.or_eq_true, Bool.and_eq_false_iff, Bool.or_eq_false_iff, not_true_eq_false, not_false_eq_true, IntKind.wrap_i64, wrapU64, tdivP, tmodP, fdivP, Int.reduceLT, Int.not_lt, Int.not_le, gt_iff_lt, ge_iff_le] at * <;> first | contradiction | omega)
                · exact h
              have hq10 : (decide (IntKind.i64.wrap (t % (15 : Int) + (1 : Int)) ≥ (16 : Int))) = false := by
                rcases Bool.eq_false_or_eq_true (decide (IntKind.i64.wrap (t % (15 : Int) + (1 : Int)) ≥ (16 : Int))) with h | h
                · exfalso; (simp only [decide_eq_true_eq, decide_eq_false_iff_not, beqI, beqIf, bneI, bneIf, beqB, beqBf, bneB, bneBf, Bool.false_eq_true, Bool.true_eq_false, true_iff, iff_true, false_iff, iff_false, true_and, and_true, false_and, and_false, true_or, or_true, false_or, or_false, ne_eq, eq_self, Bool.not_eq_true', Bool.not_eq_false', Bool.and_eq_true, Bool.or_eq_true, Bool.and_eq_false_iff, Bool.or_eq_false_iff, not_true_eq_false, not_false_eq_true, IntKind.wrap_i64, wrapU64, tdivP, tmodP, fdivP, Int.reduceLT, Int.not_lt, Int.not_le, gt_iff_lt, ge_iff_le] at * <;> first | contradiction | omega)
                · exact h
              have hq11 : ((IntKind.i64.wrap (t % (15 : Int) + (1 : Int))).tmod (2 : Int) == (0 : Int)) = true := by
                rcases Bool.eq_false_or_eq_true ((IntKind.i64.wrap (t % (15 : Int) + (1 : Int))).tmod (2 : Int) == (0 : Int)) with h | h
                · exact h
                · exfalso; (simp only [decide_eq_true_eq, decide_eq_false_iff_not, beqI, beqIf, bneI, bneIf, beqB, beqBf, bneB, bneBf, Bool.false_eq_true, Bool.true_eq_false, true_iff, iff_true, false_iff, iff_false, true_and, and_true, false_and, and_false, true_or, or_true, false_or, or_false, ne_eq, eq_self, Bool.not_eq_true', Bool.not_eq_false', Bool.and_eq_true, Bool.or_eq_true, Bool.and_eq_false_iff, Bool.or_eq_false_iff, not_true_eq_false, not_false_eq_true, IntKind.wrap_i64, wrapU64, tdivP, tmodP, fdivP, Int.reduceLT, Int.not_lt, Int.not_le, gt_iff_lt, ge_iff_le] at * <;> first | contradiction | omega)
              have e0 : lawFirst_c0 n t u = ((1 : Int) == (1 : Int)) := ((bif_f hq8 _ _).trans rfl); rw [e0]; exact lawFirst_p11 n t u hq0 hq1 hq2 hq3 hq4 hq5 hq6 hq7 hq12 hq8 hq9 hq10 hq11
          ·
            rcases Bool.eq_false_or_eq_true (n % (4 : Int) == (3 : Int)) with hq13 | hq13
            ·
              rcases Bool.eq_false_or_eq_true ((t % (15 : Int)).tmod (2 : Int) == (0 : Int)) with hq8 | hq8
              ·
                have hq9 : (decide (IntKind.i64.wrap (t % (15 : Int) + (1 : Int)) < (0 : Int))) = false := by
                  rcases Bool.eq_false_or_eq_true (decide (IntKind.i64.wrap (t % (15 : Int) + (1 : Int)) < (0 : Int))) with h | h
                  · exfalso; (simp only [decide_eq_true_eq, decide_eq_false_iff_not, beqI, beqIf, bneI, bneIf, beqB, beqBf, bneB, bneBf, Bool.false_eq_true, Bool.true_eq_false, true_iff, iff_true, false_iff, iff_false, true_and, and_true, false_and, and_false, true_or, or_true, false_or, or_false, ne_eq, eq_self, Bool.not_eq_true', Bool.not_eq_false', Bool.and_eq_true, Bool.or_eq_true, Bool.and_eq_false_iff, Bool.or_eq_false_iff, not_true_eq_false, not_false_eq_true, IntKind.wrap_i64, wrapU64, tdivP, tmodP, fdivP, Int.reduceLT, Int.not_lt, Int.not_le, gt_iff_lt, ge_iff_le] at * <;> first | contradiction | omega)
                  · exact h
                have hq10 : (decide (IntKind.i64.wrap (t % (15 : Int) + (1 : Int)) ≥ (16 : Int))) = false := by
                  rcases Bool.eq_false_or_eq_true (decide (IntKind.i64.wrap (t % (15 : Int) + (1 : Int)) ≥ (16 : Int))) with h | h
                  · exfalso; (simp only [decide_eq_true_eq, decide_eq_false_iff_not, beqI, beqIf, bneI, bneIf, beqB, beqBf, bneB, bneBf, Bool.false_eq_true, Bool.true_eq_false, true_iff, iff_true, false_iff, iff_false, true_and, and_true, false_and, and_false, true_or, or_true, false_or, or_false, ne_eq, eq_self, Bool.not_eq_true', Bool.not_eq_false', Bool.and_eq_true, Bool.or_eq_true, Bool.and_eq_false_iff, Bool.or_eq_false_iff, not_true_eq_false, not_false_eq_true, IntKind.wrap_i64, wrapU64, tdivP, tmodP, fdivP, Int.reduceLT, Int.not_lt, Int.not_le, gt_iff_lt, ge_iff_le] at * <;> first | contradiction | omega)
                  · exact h
                have hq11 : ((IntKind.i64.wrap (t % (15 : Int) + (1 : Int))).tmod (2 : Int) == (0 : Int)) = false := by
                  rcases Bool.eq_false_or_eq_true ((IntKind.i64.wrap (t % (15 : Int) + (1 : Int))).tmod (2 : Int) == (0 : Int)) with h | h
                  · exfalso; (simp only [decide_eq_true_eq, decide_eq_false_iff_not, beqI, beqIf, bneI, bneIf, beqB, beqBf, bneB, bneBf, Bool.false_eq_true, Bool.true_eq_false, true_iff, iff_true, false_iff, iff_false, true_and, and_true, false_and, and_false, true_or, or_true, false_or, or_false, ne_eq, eq_self, Bool.not_eq_true', Bool.not_eq_false', Bool.and_eq_true, Bool.or_eq_true, Bool.and_eq_false_iff, Bool.or_eq_false_iff, not_true_eq_false, not_false_eq_true, IntKind.wrap_i64, wrapU64, tdivP, tmodP, fdivP, Int.reduceLT, Int.not_lt, Int.not_le, gt_iff_lt, ge_iff_le] at * <;> first | contradiction | omega)
                  · exact h
                have e0 : lawFirst_c0 n t u = ((2 : Int) == (2 : Int)) := ((bif_t hq8 _ _).trans rfl); rw [e0]; exact lawFirst_p12 n t u hq0 hq1 hq2 hq3 hq4 hq5 hq6 hq7 hq12 hq13 hq8 hq9 hq10 hq11
              ·
                have hq9 : (decide (IntKind.i64.wrap (t % (15 : Int) + (1 : Int)) < (0 : Int))) = false := by
                  rcases Bool.eq_false_or_eq_true (decide (IntKind.i64.wrap (t % (15 : Int) + (1 : Int)) < (0 : Int))) with h | h
                  · exfalso; (simp only [decide_eq_true_eq, decide_eq_false_iff_not, beqI, beqIf, bneI, bneIf, beqB, beqBf, bneB, bneBf, Bool.false_eq_true, Bool.true_eq_false, true_iff, iff_true, false_iff, iff_false, true_and, and_true, false_and, and_false, true_or, or_true, false_or, or_false, ne_eq, eq_self, Bool.not_eq_true', Bool.not_eq_false', Bool.and_eq_true, Bool.or_eq_true, Bool.and_eq_false_iff, Bool.or_eq_false_iff, not_true_eq_false, not_false_eq_true, IntKind.wrap_i64, wrapU64, tdivP, tmodP, fdivP, Int.reduceLT, Int.not_lt, Int.not_le, gt_iff_lt, ge_iff_le] at * <;> first | contradiction | omega)
                  · exact h
                have hq10 : (decide (IntKind.i64.wrap (t % (15 : Int) + (1 : Int)) ≥ (16 : Int))) = false := by
                  rcases Bool.eq_false_or_eq_true (decide (IntKind.i64.wrap (t % (15 : Int) + (1 : Int)) ≥ (16 : Int))) with h | h
                  · exfalso; (simp only [decide_eq_true_eq, decide_eq_false_iff_not, beqI, beqIf, bneI, bneIf, beqB, beqBf, bneB, bneBf, Bool.false_eq_true, Bool.true_eq_false, true_iff, iff_true, false_iff, iff_false, true_and, and_true, false_and, and_false, true_or, or_true, false_or, or_false, ne_eq, eq_self, Bool.not_eq_true', Bool.not_eq_false', Bool.and_eq_true, Bool.or_eq_true, Bool.and_eq_false_iff, Bool.or_eq_false_iff, not_true_eq_false, not_false_eq_true, IntKind.wrap_i64, wrapU64, tdivP, tmodP, fdivP, Int.reduceLT, Int.not_lt, Int.not_le, gt_iff_lt, ge_iff_le] at * <;> first | contradiction | omega)
                  · exact h
                have hq11 : ((IntKind.i64.wrap (t % (15 : Int) + (1 : Int))).tmod (2 : Int) == (0 : Int)) = true := by
                  rcases Bool.eq_false_or_eq_true ((IntKind.i64.wrap (t % (15 : Int) + (1 : Int))).tmod (2 : Int) == (0 : Int)) with h | h
                  · exact h
                  · exfalso; (simp only [decide_eq_true_eq, decide_eq_false_iff_not, beqI, beqIf, bneI, bneIf, beqB, beqBf, bneB, bneBf, Bool.false_eq_true, Bool.true_eq_false, true_iff, iff_true, false_iff, iff_false, true_and, and_true, false_and, and_false, true_or, or_true, false_or, or_false, ne_eq, eq_self, Bool.not_eq_true', Bool.not_eq_false', Bool.and_eq_true, Bool.or_eq_true, Bool.and_eq_false_iff, Bool.or_eq_false_iff, not_true_eq_false, not_false_eq_true, IntKind.wrap_i64, wrapU64, tdivP, tmodP, fdivP, Int.reduceLT, Int.not_lt, Int.not_le, gt_iff_lt, ge_iff_le] at * <;> first | contradiction | omega)
                have e0 : lawFirst_c0 n t u = ((1 : Int) == (1 : Int)) := ((bif_f hq8 _ _).trans rfl); rw [e0]; exact lawFirst_p13 n t u hq0 hq1 hq2 hq3 hq4 hq5 hq6 hq7 hq12 hq13 hq8 hq9 hq10 hq11
            ·
              rcases Bool.eq_false_or_eq_true ((t % (15 : Int)).tmod (2 : Int) == (0 : Int)) with hq8 | hq8
              ·
                have hq9 : (decide (IntKind.i64.wrap (t % (15 : Int) + (1 : Int)) < (0 : Int))) = false := by
                  rcases Bool.eq_false_or_eq_true (decide (IntKind.i64.wrap (t % (15 : Int) + (1 : Int)) < (0 : Int))) with h | h
                  · exfalso; (simp only [decide_eq_true_eq, decide_eq_false_iff_not, beqI, beqIf, bneI, bneIf, beqB, beqBf, bneB, bneBf, Bool.false_eq_true, Bool.true_eq_false, true_iff, iff_true, false_iff, iff_false, true_and, and_true, false_and, and_false, true_or, or_true, false_or, or_false, ne_eq, eq_self, Bool.not_eq_true', Bool.not_eq_false', Bool.and_eq_true, Bool.or_eq_true, Bool.and_eq_false_iff, Bool.or_eq_false_iff, not_true_eq_false, not_false_eq_true, IntKind.wrap_i64, wrapU64, tdivP, tmodP, fdivP, Int.reduceLT, Int.not_lt, Int.not_le, gt_iff_lt, ge_iff_le] at * <;> first | contradiction | omega)
                  · exact h
                have hq10 : (decide (IntKind.i64.wrap (t % (15 : Int) + (1 : Int)) ≥ (16 : Int))) = false := by
                  rcases Bool.eq_false_or_eq_true (decide (IntKind.i64.wrap (t % (15 : Int) + (1 : Int)) ≥ (16 : Int))) with h | h
                  · exfalso; (simp only [decide_eq_true_eq, decide_eq_false_iff_not, beqI, beqIf, bneI, bneIf, beqB, beqBf, bneB, bneBf, Bool.false_eq_true, Bool.true_eq_false, true_iff, iff_true, false_iff, iff_false, true_and, and_true, false_and, and_false, true_or, or_true, false_or, or_false, ne_eq, eq_self, Bool.not_eq_true', Bool.not_eq_false', Bool.and_eq_true, Bool.or_eq_true, Bool.and_eq_false_iff, Bool.or_eq_false_iff, not_true_eq_false, not_false_eq_true, IntKind.wrap_i64, wrapU64, tdivP, tmodP, fdivP, Int.reduceLT, Int.not_lt, Int.not_le, gt_iff_lt, ge_iff_le] at * <;> first | contradiction | omega)
                  · exact h
                have hq11 : ((IntKind.i64.wrap (t % (15 : Int) + (1 : Int))).tmod (2 : Int) == (0 : Int)) = false := by
                  rcases Bool.eq_false_or_eq_true ((IntKind.i64.wrap (t % (15 : Int) + (1 : Int))).tmod (2 : Int) == (0 : Int)) with h | h
                  · exfalso; (simp only [decide_eq_true_eq, decide_eq_false_iff_not, beqI, beqIf, bneI, bneIf, beqB, beqBf, bneB, bneBf, Bool.false_eq_true, Bool.true_eq_false, true_iff, iff_true, false_iff, iff_false, true_and, and_true, false_and, and_false, true_or, or_true, false_or, or_false, ne_eq, eq_self, Bool.not_eq_true', Bool.not_eq_false', Bool.and_eq_true, Bool.or_eq_true, Bool.and_eq_false_iff, Bool.or_eq_false_iff, not_true_eq_false, not_false_eq_true, IntKind.wrap_i64, wrapU64, tdivP, tmodP, fdivP, Int.reduceLT, Int.not_lt, Int.not_le, gt_iff_lt, ge_iff_le] at * <;> first | contradiction | omega)
                  · exact h
                have e0 : lawFirst_c0 n t u = ((2 : Int) == (2 : Int)) := ((bif_t hq8 _ _).trans rfl); rw [e0]; exact lawFirst_p14 n t u hq0 hq1 hq2 hq3 hq4 hq5 hq6 hq7 hq12 hq13 hq8 hq9 hq10 hq11
              ·
                have hq9 : (decide (IntKind.i64.wrap (t % (15 : Int) + (1 : Int)) < (0 : Int))) = false := by
                  rcases Bool.eq_false_or_eq_true (decide (IntKind.i64.wrap (t % (15 : Int) + (1 : Int)) < (0 : Int))) with h | h
                  · exfalso; (simp only [decide_eq_true_eq, decide_eq_false_iff_not, beqI, beqIf, bneI, bneIf, beqB, beqBf, bneB, bneBf, Bool.false_eq_true, Bool.true_eq_false, true_iff, iff_true, false_iff, iff_false, true_and, and_true, false_and, and_false, true_or, or_true, false_or, or_false, ne_eq, eq_self, Bool.not_eq_true', Bool.not_eq_false', Bool.and_eq_true, Bool.or_eq_true, Bool.and_eq_false_iff, Bool.or_eq_false_iff, not_true_eq_false, not_false_eq_true, IntKind.wrap_i64, wrapU64, tdivP, tmodP, fdivP, Int.reduceLT, Int.not_lt, Int.not_le, gt_iff_lt, ge_iff_le] at * <;> first | contradiction | omega)
                  · exact h
                have hq10 : (decide (IntKind.i64.wrap (t % (15 : Int) + (1 : Int)) ≥ (16 : Int))) = false := by
                  rcases Bool.eq_false_or_eq_true (decide (IntKind.i64.wrap (t % (15 : Int) + (1 : Int)) ≥ (16 : Int))) with h | h
                  · exfalso; (simp only [decide_eq_true_eq, decide_eq_false_iff_not, beqI, beqIf, bneI, bneIf, beqB, beqBf, bneB, bneBf, Bool.false_eq_true, Bool.true_eq_false, true_iff, iff_true, false_iff, iff_false, true_and, and_true, false_and, and_false, true_or, or_true, false_or, or_false, ne_eq, eq_self, Bool.not_eq_true', Bool.not_eq_false', Bool.and_eq_true, Bool.or_eq_true, Bool.and_eq_false_iff, Bool.or_eq_false_iff, not_true_eq_false, not_false_eq_true, IntKind.wrap_i64, wrapU64, tdivP, tmodP, fdivP, Int.reduceLT, Int.not_lt, Int.not_le, gt_iff_lt, ge_iff_le] at * <;> first | contradiction | omega)
                  · exact h
                have hq11 : ((IntKind.i64.wrap (t % (15 : Int) + (1 : Int))).tmod (2 : Int) == (0 : Int)) = true := by
                  rcases Bool.eq_false_or_eq_true ((IntKind.i64.wrap (t % (15 : Int) + (1 : Int))).tmod (2 : Int) == (0 : Int)) with h | h
                  · exact h
                  · exfalso; (simp only [decide_eq_true_eq, decide_eq_false_iff_not, beqI, beqIf, bneI, bneIf, beqB, beqBf, bneB, bneBf, Bool.false_eq_true, Bool.true_eq_false, true_iff, iff_true, false_iff, iff_false, true_and, and_true, false_and, and_false, true_or, or_true, false_or, or_false, ne_eq, eq_self, Bool.not_eq_true', Bool.not_eq_false', Bool.and_eq_true, Bool.or_eq_true, Bool.and_eq_false_iff, Bool.or_eq_false_iff, not_true_eq_false, not_false_eq_true, IntKind.wrap_i64, wrapU64, tdivP, tmodP, fdivP, Int.reduceLT, Int.not_lt, Int.not_le, gt_iff_lt, ge_iff_le] at * <;> first | contradiction | omega)
                have e0 : lawFirst_c0 n t u = ((1 : Int) == (1 : Int)) := ((bif_f hq8 _ _).trans rfl); rw [e0]; exact lawFirst_p15 n t u hq0 hq1 hq2 hq3 hq4 hq5 hq6 hq7 hq12 hq13 hq8 hq9 hq10 hq11
    ·
      rcases Bool.eq_false_or_eq_true (((u % (8 : Int)).fdiv (4 : Int)).tmod (2 : Int) == (1 : Int)) with hq2 | hq2
      ·
        have hq3 : (decide (n % (4 : Int) ≥ (0 : Int))) = true := by
          rcases Bool.eq_false_or_eq_true (decide (n % (4 : Int) ≥ (0 : Int))) with h | h
          · exact h
          · exfalso; (simp only [decide_eq_true_eq, decide_eq_false_iff_not, beqI, beqIf, bneI, bneIf, beqB, beqBf, bneB, bneBf, Bool.false_eq_true, Bool.true_eq_false, true_iff, iff_true, false_iff, iff_false, true_and, and_true, false_and, and_false, true_or, or_true, false_or, or_false, ne_eq, eq_self, Bool.not_eq_true', Bool.not_eq_false', Bool.and_eq_true, Bool.or_eq_true, Bool.and_eq_false_iff, Bool.or_eq_false_iff, not_true_eq_false, not_false_eq_true, IntKind.wrap_i64, wrapU64, tdivP, tmodP, fdivP, Int.reduceLT, Int.not_lt, Int.not_le, gt_iff_lt, ge_iff_le] at * <;> first | contradiction | omega)
        have hq4 : (!decide (n % (4 : Int) ≤ (3 : Int))) = false := by
          rcases Bool.eq_false_or_eq_true (!decide (n % (4 : Int) ≤ (3 : Int))) with h | h
          · exfalso; (simp only [decide_eq_true_eq, decide_eq_false_iff_not, beqI, beqIf, bneI, bneIf, beqB, beqBf, bneB, bneBf, Bool.false_eq_true, Bool.true_eq_false, true_iff, iff_true, false_iff, iff_false, true_and, and_true, false_and, and_false, true_or, or_true, false_or, or_false, ne_eq, eq_self, Bool.not_eq_true', Bool.not_eq_false', Bool.and_eq_true, Bool.or_eq_true, Bool.and_eq_false_iff, Bool.or_eq_false_iff, not_true_eq_false, not_false_eq_true, IntKind.wrap_i64, wrapU64, tdivP, tmodP, fdivP, Int.reduceLT, Int.not_lt, Int.not_le, gt_iff_lt, ge_iff_le] at * <;> first | contradiction | omega)
          · exact h
        have hq5 : (decide (t % (15 : Int) < (0 : Int))) = false := by
          rcases Bool.eq_false_or_eq_true (decide (t % (15 : Int) < (0 : Int))) with h | h
          · exfalso; (simp only [decide_eq_true_eq, decide_eq_false_iff_not, beqI, beqIf, bneI, bneIf, beqB, beqBf, bneB, bneBf, Bool.false_eq_true, Bool.true_eq_false, true_iff, iff_true, false_iff, iff_false, true_and, and_true, false_and, and_false, true_or, or_true, false_or, or_false, ne_eq, eq_self, Bool.not_eq_true', Bool.not_eq_false', Bool.and_eq_true, Bool.or_eq_true, Bool.and_eq_false_iff, Bool.or_eq_false_iff, not_true_eq_false, not_false_eq_true, IntKind.wrap_i64, wrapU64, tdivP, tmodP, fdivP, Int.reduceLT, Int.not_lt, Int.not_le, gt_iff_lt, ge_iff_le] at * <;> first | contradiction | omega)
          · exact h
        have hq6 : (decide (t % (15 : Int) ≥ (16 : Int))) = false := by
          rcases Bool.eq_false_or_eq_true (decide (t % (15 : Int) ≥ (16 : Int))) with h | h
          · exfalso; (simp only [decide_eq_true_eq, decide_eq_false_iff_not, beqI, beqIf, bneI, bneIf, beqB, beqBf, bneB, bneBf, Bool.false_eq_true, Bool.true_eq_false, true_iff, iff_true, false_iff, iff_false, true_and, and_true, false_and, and_false, true_or, or_true, false_or, or_false, ne_eq, eq_self, Bool.not_eq_true', Bool.not_eq_false', Bool.and_eq_true, Bool.or_eq_true, Bool.and_eq_false_iff, Bool.or_eq_false_iff, not_true_eq_false, not_false_eq_true, IntKind.wrap_i64, wrapU64, tdivP, tmodP, fdivP, Int.reduceLT, Int.not_lt, Int.not_le, gt_iff_lt, ge_iff_le] at * <;> first | contradiction | omega)
          · exact h
        rcases Bool.eq_false_or_eq_true (n % (4 : Int) == (0 : Int)) with hq7 | hq7
        ·
          rcases Bool.eq_false_or_eq_true ((t % (15 : Int)).tmod (2 : Int) == (0 : Int)) with hq8 | hq8
          ·
            have hq9 : (decide (IntKind.i64.wrap (t % (15 : Int) + (1 : Int)) < (0 : Int))) = false := by
              rcases Bool.eq_false_or_eq_true (decide (IntKind.i64.wrap (t % (15 : Int) + (1 : Int)) < (0 : Int))) with h | h
              · exfalso; (simp only [decide_eq_true_eq, decide_eq_false_iff_not, beqI, beqIf, bneI, bneIf, beqB, beqBf, bneB, bneBf, Bool.false_eq_true, Bool.true_eq_false, true_iff, iff_true, false_iff, iff_false, true_and, and_true, false_and, and_false, true_or, or_true, false_or, or_false, ne_eq, eq_self, Bool.not_eq_true', Bool.not_eq_false', Bool.and_eq_true, Bool.or_eq_true, Bool.and_eq_false_iff, Bool.or_eq_false_iff, not_true_eq_false, not_false_eq_true, IntKind.wrap_i64, wrapU64, tdivP, tmodP, fdivP, Int.reduceLT, Int.not_lt, Int.not_le, gt_iff_lt, ge_iff_le] at * <;> first | contradiction | omega)
              · exact h
            have hq10 : (decide (IntKind.i64.wrap (t % (15 : Int) + (1 : Int)) ≥ (16 : Int))) = false := by
              rcases Bool.eq_false_or_eq_true (decide (IntKind.i64.wrap (t % (15 : Int) + (1 : Int)) ≥ (16 : Int))) with h | h
              · exfalso; (simp only [decide_eq_true_eq, decide_eq_false_iff_not, beqI, beqIf, bneI, bneIf, beqB, beqBf, bneB, bneBf, Bool.false_eq_true, Bool.true_eq_false, true_iff, iff_true, false_iff, iff_false, true_and, and_true, false_and, and_false, true_or, or_true, false_or, or_false, ne_eq, eq_self, Bool.not_eq_true', Bool.not_eq_false', Bool.and_eq_true, Bool.or_eq_true, Bool.and_eq_false_iff, Bool.or_eq_false_iff, not_true_eq_false, not_false_eq_true, IntKind.wrap_i64, wrapU64, tdivP, tmodP, fdivP, Int.reduceLT, Int.not_lt, Int.not_le, gt_iff_lt, ge_iff_le] at * <;> first | contradiction | omega)
              · exact h
            have hq11 : ((IntKind.i64.wrap (t % (15 : Int) + (1 : Int))).tmod (2 : Int) == (0 : Int)) = false := by
              rcases Bool.eq_false_or_eq_true ((IntKind.i64.wrap (t % (15 : Int) + (1 : Int))).tmod (2 : Int) == (0 : Int)) with h | h
              · exfalso; (simp only [decide_eq_true_eq, decide_eq_false_iff_not, beqI, beqIf, bneI, bneIf, beqB, beqBf, bneB, bneBf, Bool.false_eq_true, Bool.true_eq_false, true_iff, iff_true, false_iff, iff_false, true_and, and_true, false_and, and_false, true_or, or_true, false_or, or_false, ne_eq, eq_self, Bool.not_eq_true', Bool.not_eq_false', Bool.and_eq_true, Bool.or_eq_true, Bool.and_eq_false_iff, Bool.or_eq_false_iff, not_true_eq_false, not_false_eq_true, IntKind.wrap_i64, wrapU64, tdivP, tmodP, fdivP, Int.reduceLT, Int.not_lt, Int.not_le, gt_iff_lt, ge_iff_le] at * <;> first | contradiction | omega)
              · exact h
            have e0 : lawFirst_c0 n t u = ((2 : Int) == (2 : Int)) := ((bif_t hq8 _ _).trans rfl); rw [e0]; exact lawFirst_p16 n t u hq0 hq1 hq2 hq3 hq4 hq5 hq6 hq7 hq8 hq9 hq10 hq11
          ·
            have hq9 : (decide (IntKind.i64.wrap (t % (15 : Int) + (1 : Int)) < (0 : Int))) = false := by
              rcases Bool.eq_false_or_eq_true (decide (IntKind.i64.wrap (t % (15 : Int) + (1 : Int)) < (0 : Int))) with h | h
              · exfalso; (simp only [decide_eq_true_eq, decide_eq_false_iff_not, beqI, beqIf, bneI, bneIf, beqB, beqBf, bneB, bneBf, Bool.false_eq_true, Bool.true_eq_false, true_iff, iff_true, false_iff, iff_false, true_and, and_true, false_and, and_false, true_or, or_true, false_or, or_false, ne_eq, eq_self, Bool.not_eq_true', Bool.not_eq_false', Bool.and_eq_true, Bool.or_eq_true, Bool.and_eq_false_iff, Bool.or_eq_false_iff, not_true_eq_false, not_false_eq_true, IntKind.wrap_i64, wrapU64, tdivP, tmodP, fdivP, Int.reduceLT, Int.not_lt, Int.not_le, gt_iff_lt, ge_iff_le] at * <;> first | contradiction | omega)
              · exact h
            have hq10 : (decide (IntKind.i64.wrap (t % (15 : Int) + (1 : Int)) ≥ (16 : Int))) = false := by
              rcases Bool.eq_false_or_eq_true (decide (IntKind.i64.wrap (t % (15 : Int) + (1 : Int)) ≥ (16 : Int))) with h | h
              · exfalso; (simp only [decide_eq_true_eq, decide_eq_false_iff_not, beqI, beqIf, bneI, bneIf, beqB, beqBf, bneB, bneBf, Bool.false_eq_true, Bool.true_eq_false, true_iff, iff_true, false_iff, iff_false, true_and, and_true, false_and, and_false, true_or, or_true, false_or, or_false, ne_eq, eq_self, Bool.not_eq_true', Bool.not_eq_false', Bool.and_eq_true, Bool.or_eq_true, Bool.and_eq_false_iff, Bool.or_eq_false_iff, not_true_eq_false, not_false_eq_true, IntKind.wrap_i64, wrapU64, tdivP, tmodP, fdivP, Int.reduceLT, Int.not_lt, Int.not_le, gt_iff_lt, ge_iff_le] at * <;> first | contradiction | omega)
              · exact h
            have hq11 : ((IntKind.i64.wrap (t % (15 : Int) + (1 : Int))).tmod (2 : Int) == (0 : Int)) = true := by
              rcases Bool.eq_false_or_eq_true ((IntKind.i64.wrap (t % (15 : Int) + (1 : Int))).tmod (2 : Int) == (0 : Int)) with h | h
              · exact h
              · exfalso; (simp only [decide_eq_true_eq, decide_eq_false_iff_not, beqI, beqIf, bneI, bneIf, beqB, beqBf, bneB, bneBf, Bool.false_eq_true, Bool.true_eq_false, true_iff, iff_true, false_iff, iff_false, true_and, and_true, false_and, and_false, true_or, or_true, false_or, or_false, ne_eq, eq_self, Bool.not_eq_true', Bool.not_eq_false', Bool.and_eq_true, Bool.or_eq_true, Bool.and_eq_false_iff, Bool.or_eq_false_iff, not_true_eq_false, not_false_eq_true, IntKind.wrap_i64, wrapU64, tdivP, tmodP, fdivP, Int.reduceLT, Int.not_lt, Int.not_le, gt_iff_lt, ge_iff_le] at * <;> first | contradiction | omega)
            have e0 : lawFirst_c0 n t u = ((1 : Int) == (1 : Int)) := ((bif_f hq8 _ _).trans rfl); rw [e0]; exact lawFirst_p17 n t u hq0 hq1 hq2 hq3 hq4 hq5 hq6 hq7 hq8 hq9 hq10 hq11
        ·
          rcases Bool.eq_false_or_eq_true (n % (4 : Int) == (1 : Int)) with hq12 | hq12
          ·
            rcases Bool.eq_false_or_eq_true ((t % (15 : Int)).tmod (2 : Int) == (0 : Int)) with hq8 | hq8
            ·
              have hq9 : (decide (IntKind.i64.wrap (t % (15 : Int) + (1 : Int)) < (0 : Int))) = false := by
                rcases Bool.eq_false_or_eq_true (decide (IntKind.i64.wrap (t % (15 : Int) + (1 : Int)) < (0 : Int))) with h | h
                · exfalso; (simp only [decide_eq_true_eq, decide_eq_false_iff_not, beqI, beqIf, bneI, bneIf, beqB, beqBf, bneB, bneBf, Bool.false_eq_true, Bool.true_eq_false, true_iff, iff_true, false_iff, iff_false, true_and, and_true, false_and, and_false, true_or, or_true, false_or, or_false, ne_eq, eq_self, Bool.not_eq_true', Bool.not_eq_false', Bool.and_eq_true, Bool.or_eq_true, Bool.and_eq_false_iff, Bool.or_eq_false_iff, not_true_eq_false, not_false_eq_true, IntKind.wrap_i64, wrapU64, tdivP, tmodP, fdivP, Int.reduceLT, Int.not_lt, Int.not_le, gt_iff_lt, ge_iff_le] at * <;> first | contradiction | omega)
                · exact h
              have hq10 : (decide (IntKind.i64.wrap (t % (15 : Int) + (1 : Int)) ≥ (16 : Int))) = false := by
                rcases Bool.eq_false_or_eq_true (decide (IntKind.i64.wrap (t % (15 : Int) + (1 : Int)) ≥ (16 : Int))) with h | h
                · exfalso; (simp only [decide_eq_true_eq, decide_eq_false_iff_not, beqI, beqIf, bneI, bneIf, beqB, beqBf, bneB, bneBf, Bool.false_eq_true, Bool.true_eq_false, true_iff, iff_true, false_iff, iff_false, true_and, and_true, false_and, and_false, true_or, or_true, false_or, or_false, ne_eq, eq_self, Bool.not_eq_true', Bool.not_eq_false', Bool.and_eq_true, Bool.or_eq_true, Bool.and_eq_false_iff, Bool.or_eq_false_iff, not_true_eq_false, not_false_eq_true, IntKind.wrap_i64, wrapU64, tdivP, tmodP, fdivP, Int.reduceLT, Int.not_lt, Int.not_le, gt_iff_lt, ge_iff_le] at * <;> first | contradiction | omega)
                · exact h
              have hq11 : ((IntKind.i64.wrap (t % (15 : Int) + (1 : Int))).tmod (2 : Int) == (0 : Int)) = false := by
                rcases Bool.eq_false_or_eq_true ((IntKind.i64.wrap (t % (15 : Int) + (1 : Int))).tmod (2 : Int) == (0 : Int)) with h | h
                · exfalso; (simp only [decide_eq_true_eq, decide_eq_false_iff_not, beqI, beqIf, bneI, bneIf, beqB, beqBf, bneB, bneBf, Bool.false_eq_true, Bool.true_eq_false, true_iff, iff_true, false_iff, iff_false, true_and, and_true, false_and, and_false, true_or, or_true, false_or, or_false, ne_eq, eq_self, Bool.not_eq_true', Bool.not_eq_false', Bool.and_eq_true, Bool.or_eq_true, Bool.and_eq_false_iff, Bool.or_eq_false_iff, not_true_eq_false, not_false_eq_true, IntKind.wrap_i64, wrapU64, tdivP, tmodP, fdivP, Int.reduceLT, Int.not_lt, Int.not_le, gt_iff_lt, ge_iff_le] at * <;> first | contradiction | omega)
                · exact h
              have e0 : lawFirst_c0 n t u = ((2 : Int) == (2 : Int)) := ((bif_t hq8 _ _).trans rfl); rw [e0]; exact lawFirst_p18 n t u hq0 hq1 hq2 hq3 hq4 hq5 hq6 hq7 hq12 hq8 hq9 hq10 hq11
            ·
              have hq9 : (decide (IntKind.i64.wrap (t % (15 : Int) + (1 : Int)) < (0 : Int))) = false := by
                rcases Bool.eq_false_or_eq_true (decide (IntKind.i64.wrap (t % (15 : Int) + (1 : Int)) < (0 : Int))) with h | h
                · exfalso; (simp only [decide_eq_true_eq, decide_eq_false_iff_not, beqI, beqIf, bneI, bneIf, beqB, beqBf, bneB, bneBf, Bool.false_eq_true, Bool.true_eq_false, true_iff, iff_true, false_iff, iff_false, true_and, and_true, false_and, and_false, true_or, or_true, false_or, or_false, ne_eq, eq_self, Bool.not_eq_true', Bool.not_eq_false', Bool.and_eq_true, Bool.or_eq_true, Bool.and_eq_false_iff, Bool.or_eq_false_iff, not_true_eq_false, not_false_eq_true, IntKind.wrap_i64, wrapU64, tdivP, tmodP, fdivP, Int.reduceLT, Int.not_lt, Int.not_le, gt_iff_lt, ge_iff_le] at * <;> first | contradiction | omega)
                · exact h
              have hq10 : (decide (IntKind.i64.wrap (t % (15 : Int) + (1 : Int)) ≥ (16 : Int))) = false := by
                rcases Bool.eq_false_or_eq_true (decide (IntKind.i64.wrap (t % (15 : Int) + (1 : Int)) ≥ (16 : Int))) with h | h
                · exfalso; (simp only [decide_eq_true_eq, decide_eq_false_iff_not, beqI, beqIf, bneI, bneIf, beqB, beqBf, bneB, bneBf, Bool.false_eq_true, Bool.true_eq_false, true_iff, iff_true, false_iff, iff_false, true_and, and_true, false_and, and_false, true_or, or_true, false_or, or_false, ne_eq, eq_self, Bool.not_eq_true', Bool.not_eq_false', Bool.and_eq_true, Bool.or_eq_true, Bool.and_eq_false_iff, Bool.or_eq_false_iff, not_true_eq_false, not_false_eq_true, IntKind.wrap_i64, wrapU64, tdivP, tmodP, fdivP, Int.reduceLT, Int.not_lt, Int.not_le, gt_iff_lt, ge_iff_le] at * <;> first | contradiction | omega)
                · exact h
              have hq11 : ((IntKind.i64.wrap (t % (15 : Int) + (1 : Int))).tmod (2 : Int) == (0 : Int)) = true := by
                rcases Bool.eq_false_or_eq_true ((IntKind.i64.wrap (t % (15 : Int) + (1 : Int))).tmod (2 : Int) == (0 : Int)) with h | h
                · exact h
                · exfalso; (simp only [decide_eq_true_eq, decide_eq_false_iff_not, beqI, beqIf, bneI, bneIf, beqB, beqBf, bneB, bneBf, Bool.false_eq_true, Bool.true_eq_false, true_iff, iff_true, false_iff, iff_false, true_and, and_true, false_and, and_false, true_or, or_true, false_or, or_false, ne_eq, eq_self, Bool.not_eq_true', Bool.not_eq_false', Bool.and_eq_true, Bool.or_eq_true, Bool.and_eq_false_iff, Bool.or_eq_false_iff, not_true_eq_false, not_false_eq_true, IntKind.wrap_i64, wrapU64, tdivP, tmodP, fdivP, Int.reduceLT, Int.not_lt, Int.not_le, gt_iff_lt, ge_iff_le] at * <;> first | contradiction | omega)
              have e0 : lawFirst_c0 n t u = ((1 : Int) == (1 : Int)) := ((bif_f hq8 _ _).trans rfl); rw [e0]; exact lawFirst_p19 n t u hq0 hq1 hq2 hq3 hq4 hq5 hq6 hq7 hq12 hq8 hq9 hq10 hq11
          ·
            rcases Bool.eq_false_or_eq_true (n % (4 : Int) == (3 : Int)) with hq13 | hq13
            ·
              rcases Bool.eq_false_or_eq_true ((t % (15 : Int)).tmod (2 : Int) == (0 : Int)) with hq8 | hq8
              ·
                have hq9 : (decide (IntKind.i64.wrap (t % (15 : Int) + (1 : Int)) < (0 : Int))) = false := by
                  rcases Bool.eq_false_or_eq_true (decide (IntKind.i64.wrap (t % (15 : Int) + (1 : Int)) < (0 : Int))) with h | h
                  · exfalso; (simp only [decide_eq_true_eq, decide_eq_false_iff_not, beqI, beqIf, bneI, bneIf, beqB, beqBf, bneB, bneBf, Bool.false_eq_true, Bool.true_eq_false, true_iff, iff_true, false_iff, iff_false, true_and, and_true, false_and, and_false, true_or, or_true, false_or, or_false, ne_eq, eq_self, Bool.not_eq_true', Bool.not_eq_false', Bool.and_eq_true, Bool.or_eq_true, Bool.and_eq_false_iff, Bool.or_eq_false_iff, not_true_eq_false, not_false_eq_true, IntKind.wrap_i64, wrapU64, tdivP, tmodP, fdivP, Int.reduceLT, Int.not_lt, Int.not_le, gt_iff_lt, ge_iff_le] at * <;> first | contradiction | omega)
                  · exact h
                have hq10 : (decide (IntKind.i64.wrap (t % (15 : Int) + (1 : Int)) ≥ (16 : Int))) = false := by
                  rcases Bool.eq_false_or_eq_true (decide (IntKind.i64.wrap (t % (15 : Int) + (1 : Int)) ≥ (16 : Int))) with h | h
                  · exfalso; (simp only [decide_eq_true_eq, decide_eq_false_iff_not, beqI, beqIf, bneI, bneIf, beqB, beqBf, bneB, bneBf, Bool.false_eq_true, Bool.true_eq_false, true_iff, iff_true, false_iff, iff_false, true_and, and_true, false_and, and_false, true_or, or_true, false_or, or_false, ne_eq, eq_self, Bool.not_eq_true', Bool.not_eq_false', Bool.and_eq_true, Bool.or_eq_true, Bool.and_eq_false_iff, Bool.or_eq_false_iff, not_true_eq_false, not_false_eq_true, IntKind.wrap_i64, wrapU64, tdivP, tmodP, fdivP, Int.reduceLT, Int.not_lt, Int.not_le, gt_iff_lt, ge_iff_le] at * <;> first | contradiction | omega)
                  · exact h
                have hq11 : ((IntKind.i64.wrap (t % (15 : Int) + (1 : Int))).tmod (2 : Int) == (0 : Int)) = false := by
                  rcases Bool.eq_false_or_eq_true ((IntKind.i64.wrap (t % (15 : Int) + (1 : Int))).tmod (2 : Int) == (0 : Int)) with h | h
                  · exfalso; (simp only [decide_eq_true_eq, decide_eq_false_iff_not, beqI, beqIf, bneI, bneIf, beqB, beqBf, bneB, bneBf, Bool.false_eq_true, Bool.true_eq_false, true_iff, iff_true, false_iff, iff_false, true_and, and_true, false_and, and_false, true_or, or_true, false_or, or_false, ne_eq, eq_self, Bool.not_eq_true', Bool.not_eq_false', Bool.and_eq_true, Bool.or_eq_true, Bool.and_eq_false_iff, Bool.or_eq_false_iff, not_true_eq_false, not_false_eq_true, IntKind.wrap_i64, wrapU64, tdivP, tmodP, fdivP, Int.reduceLT, Int.not_lt, Int.not_le, gt_iff_lt, ge_iff_le] at * <;> first | contradiction | omega)
                  · exact h
                have e0 : lawFirst_c0 n t u = ((2 : Int) == (2 : Int)) := ((bif_t hq8 _ _).trans rfl); rw [e0]; exact lawFirst_p20 n t u hq0 hq1 hq2 hq3 hq4 hq5 hq6 hq7 hq12 hq13 hq8 hq9 hq10 hq11
              ·
                have hq9 : (decide (IntKind.i64.wrap (t % (15 : Int) + (1 : Int)) < (0 : Int))) = false := by
                  rcases Bool.eq_false_or_eq_true (decide (IntKind.i64.wrap (t % (15 : Int) + (1 : Int)) < (0 : Int))) with h | h
                  · exfalso; (simp only [decide_eq_true_eq, decide_eq_false_iff_not, beqI, beqIf, bneI, bneIf, beqB, beqBf, bneB, bneBf, Bool.false_eq_true, Bool.true_eq_false, true_iff, iff_true, false_iff, iff_false, true_and, and_true, false_and, and_false, true_or, or_true, false_or, or_false, ne_eq, eq_self, Bool.not_eq_true', Bool.not_eq_false', Bool.and_eq_true, Bool.or_eq_true, Bool.and_eq_false_iff, Bool.or_eq_false_iff, not_true_eq_false, not_false_eq_true, IntKind.wrap_i64, wrapU64, tdivP, tmodP, fdivP, Int.reduceLT, Int.not_lt, Int.not_le, gt_iff_lt, ge_iff_le] at * <;> first | contradiction | omega)
                  · exact h
                have hq10 : (decide (IntKind.i64.wrap (t % (15 : Int) + (1 : Int)) ≥ (16 : Int))) = false := by
                  rcases Bool.eq_false_or_eq_true (decide (IntKind.i64.wrap (t % (15 : Int) + (1 : Int)) ≥ (16 : Int))) with h | h
                  · exfalso; (simp only [decide_eq_true_eq, decide_eq_false_iff_not, beqI, beqIf, bneI, bneIf, beqB, beqBf, bneB, bneBf, Bool.false_eq_true, Bool.true_eq_false, true_iff, iff_true, false_iff, iff_false, true_and, and_true, false_and, and_false, true_or, or_true, false_or, or_false, ne_eq, eq_self, Bool.not_eq_true', Bool.not_eq_false', Bool.and_eq_true, Bool.or_eq_true, Bool.and_eq_false_iff, Bool.or_eq_false_iff, not_true_eq_false, not_false_eq_true, IntKind.wrap_i64, wrapU64, tdivP, tmodP, fdivP, Int.reduceLT, Int.not_lt, Int.not_le, gt_iff_lt, ge_iff_le] at * <;> first | contradiction | omega)
                  · exact h
                have hq11 : ((IntKind.i64.wrap (t % (15 : Int) + (1 : Int))).tmod (2 : Int) == (0 : Int)) = true := by
                  rcases Bool.eq_false_or_eq_true ((IntKind.i64.wrap (t % (15 : Int) + (1 : Int))).tmod (2 : Int) == (0 : Int)) with h | h
                  · exact h
                  · exfalso; (simp only [decide_eq_true_eq, decide_eq_false_iff_not, beqI, beqIf, bneI, bneIf, beqB, beqBf, bneB, bneBf, Bool.false_eq_true, Bool.true_eq_false, true_iff, iff_true, false_iff, iff_false, true_and, and_true, false_and, and_false, true_or, or_true, false_or, or_false, ne_eq, eq_self, Bool.not_eq_true', Bool.not_eq_false', Bool.and_eq_true, Bool.or_eq_true, Bool.and_eq_false_iff, Bool.or_eq_false_iff, not_true_eq_false, not_false_eq_true, IntKind.wrap_i64, wrapU64, tdivP, tmodP, fdivP, Int.reduceLT, Int.not_lt, Int.not_le, gt_iff_lt, ge_iff_le] at * <;> first | contradiction | omega)
                have e0 : lawFirst_c0 n t u = ((1 : Int) == (1 : Int)) := ((bif_f hq8 _ _).trans rfl); rw [e0]; exact lawFirst_p21 n t u hq0 hq1 hq2 hq3 hq4 hq5 hq6 hq7 hq12 hq13 hq8 hq9 hq10 hq11
            ·
              rcases Bool.eq_false_or_eq_true ((t % (15 : Int)).tmod (2 : Int) == (0 : Int)) with hq8 | hq8
              ·
                have hq9 : (decide (IntKind.i64.wrap (t % (15 : Int) + (1 : Int)) < (0 : Int))) = false := by
                  rcases Bool.eq_false_or_eq_true (decide (IntKind.i64.wrap (t % (15 : Int) + (1 : Int)) < (0 : Int))) with h | h
                  · exfalso; (simp only [decide_eq_true_eq, decide_eq_false_iff_not, beqI, beqIf, bneI, bneIf, beqB, beqBf, bneB, bneBf, Bool.false_eq_true, Bool.true_eq_false, true_iff, iff_true, false_iff, iff_false, true_and, and_true, false_and, and_false, true_or, or_true, false_or, or_false, ne_eq, eq_self, Bool.not_eq_true', Bool.not_eq_false', Bool.and_eq_true, Bool.or_eq_true, Bool.and_eq_false_iff, Bool.or_eq_false_iff, not_true_eq_false, not_false_eq_true, IntKind.wrap_i64, wrapU64, tdivP, tmodP, fdivP, Int.reduceLT, Int.not_lt, Int.not_le, gt_iff_lt, ge_iff_le] at * <;> first | contradiction | omega)
                  · exact h
                have hq10 : (decide (IntKind.i64.wrap (t % (15 : Int) + (1 : Int)) ≥ (16 : Int))) = false := by
                  rcases Bool.eq_false_or_eq_true (decide (IntKind.i64.wrap (t % (15 : Int) + (1 : Int)) ≥ (16 : Int))) with h | h
                  · exfalso; (simp only [decide_eq_true_eq, decide_eq_false_iff_not, beqI, beqIf, bneI, bneIf, beqB, beqBf, bneB, bneBf, Bool.false_eq_true, Bool.true_eq_false, true_iff, iff_true, false_iff, iff_false, true_and, and_true, false_and, and_false, true_or, or_true, false_or, or_false, ne_eq, eq_self, Bool.not_eq_true', Bool.not_eq_false', Bool.and_eq_true, Bool.or_eq_true, Bool.and_eq_false_iff, Bool.or_eq_false_iff, not_true_eq_false, not_false_eq_true, IntKind.wrap_i64, wrapU64, tdivP, tmodP, fdivP, Int.reduceLT, Int.not_lt, Int.not_le, gt_iff_lt, ge_iff_le] at * <;> first | contradiction | omega)
                  · exact h
                have hq11 : ((IntKind.i64.wrap (t % (15 : Int) + (1 : Int))).tmod (2 : Int) == (0 : Int)) = false := by
                  rcases Bool.eq_false_or_eq_true ((IntKind.i64.wrap (t % (15 : Int) + (1 : Int))).tmod (2 : Int) == (0 : Int)) with h | h
                  · exfalso; (simp only [decide_eq_true_eq, decide_eq_false_iff_not, beqI, beqIf, bneI, bneIf, beqB, beqBf, bneB, bneBf, Bool.false_eq_true, Bool.true_eq_false, true_iff, iff_true, false_iff, iff_false, true_and, and_true, false_and, and_false, true_or, or_true, false_or, or_false, ne_eq, eq_self, Bool.not_eq_true', Bool.not_eq_false', Bool.and_eq_true, Bool.or_eq_true, Bool.and_eq_false_iff, Bool.or_eq_false_iff, not_true_eq_false, not_false_eq_true, IntKind.wrap_i64, wrapU64, tdivP, tmodP, fdivP, Int.reduceLT, Int.not_lt, Int.not_le, gt_iff_lt, ge_iff_le] at * <;> first | contradiction | omega)
                  · exact h
                have e0 : lawFirst_c0 n t u = ((2 : Int) == (2 : Int)) := ((bif_t hq8 _ _).trans rfl); rw [e0]; exact lawFirst_p22 n t u hq0 hq1 hq2 hq3 hq4 hq5 hq6 hq7 hq12 hq13 hq8 hq9 hq10 hq11
              ·
                have hq9 : (decide (IntKind.i64.wrap (t % (15 : Int) + (1 : Int)) < (0 : Int))) = false := by
                  rcases Bool.eq_false_or_eq_true (decide (IntKind.i64.wrap (t % (15 : Int) + (1 : Int)) < (0 : Int))) with h | h
                  · exfalso; (simp only [decide_eq_true_eq, decide_eq_false_iff_not, beqI, beqIf, bneI, bneIf, beqB, beqBf, bneB, bneBf, Bool.false_eq_true, Bool.true_eq_false, true_iff, iff_true, false_iff, iff_false, true_and, and_true, false_and, and_false, true_or, or_true, false_or, or_false, ne_eq, eq_self, Bool.not_eq_true', Bool.not_eq_false', Bool.and_eq_true, Bool.or_eq_true, Bool.and_eq_false_iff, Bool.or_eq_false_iff, not_true_eq_false, not_false_eq_true, IntKind.wrap_i64, wrapU64, tdivP, tmodP, fdivP, Int.reduceLT, Int.not_lt, Int.not_le, gt_iff_lt, ge_iff_le] at * <;> first | contradiction | omega)
                  · exact h
                have hq10 : (decide (IntKind.i64.wrap (t % (15 : Int) + (1 : Int)) ≥ (16 : Int))) = false := by
                  rcases Bool.eq_false_or_eq_true (decide (IntKind.i64.wrap (t % (15 : Int) + (1 : Int)) ≥ (16 : Int))) with h | h
                  · exfalso; (simp only [decide_eq_true_eq, decide_eq_false_iff_not, beqI, beqIf, bneI, bneIf, beqB, beqBf, bneB, bneBf, Bool.false_eq_true, Bool.true_eq_false, true_iff, iff_true, false_iff, iff_false, true_and, and_true, false_and, and_false, true_or, or_true, false_or, or_false, ne_eq, eq_self, Bool.not_eq_true', Bool.not_eq_false', Bool.and_eq_true, Bool.or_eq_true, Bool.and_eq_false_iff, Bool.or_eq_false_iff, not_true_eq_false, not_false_eq_true, IntKind.wrap_i64, wrapU64, tdivP, tmodP, fdivP, Int.reduceLT, Int.not_lt, Int.not_le, gt_iff_lt, ge_iff_le] at * <;> first | contradiction | omega)
                  · exact h
                have hq11 : ((IntKind.i64.wrap (t % (15 : Int) + (1 : Int))).tmod (2 : Int) == (0 : Int)) = true := by
                  rcases Bool.eq_false_or_eq_true ((IntKind.i64.wrap (t % (15 : Int) + (1 : Int))).tmod (2 : Int) == (0 : Int)) with h | h
                  · exact h
                  · exfalso; (simp only [decide_eq_true_eq, decide_eq_false_iff_not, beqI, beqIf, bneI, bneIf, beqB, beqBf, bneB, bneBf, Bool.false_eq_true, Bool.true_eq_false, true_iff, iff_true, false_iff, iff_false, true_and, and_true, false_and, and_false, true_or, or_true, false_or, or_false, ne_eq, eq_self, Bool.not_eq_true', Bool.not_eq_false', Bool.and_eq_true, Bool.or_eq_true, Bool.and_eq_false_iff, Bool.or_eq_false_iff, not_true_eq_false, not_false_eq_true, IntKind.wrap_i64, wrapU64, tdivP, tmodP, fdivP, Int.reduceLT, Int.not_lt, Int.not_le, gt_iff_lt, ge_iff_le] at * <;> first | contradiction | omega)
                have e0 : lawFirst_c0 n t u = ((1 : Int) == (1 : Int)) := ((bif_f hq8 _ _).trans rfl); rw [e0]; exact lawFirst_p23 n t u hq0 hq1 hq2 hq3 hq4 hq5 hq6 hq7 hq12 hq13 hq8 hq9 hq10 hq11
      ·
        have hq3 : (decide (n % (4 : Int) ≥ (0 : Int))) = true := by
          rcases Bool.eq_false_or_eq_true (decide (n % (4 : Int) ≥ (0 : Int))) with h | h
          · exact h
          · exfalso; (simp only [decide_eq_true_eq, decide_eq_false_iff_not, beqI, beqIf, bneI, bneIf, beqB, beqBf, bneB, bneBf, Bool.false_eq_true, Bool.true_eq_false, true_iff, iff_true, false_iff, iff_false, true_and, and_true, false_and, and_false, true_or, or_true, false_or, or_false, ne_eq, eq_self, Bool.not_eq_true', Bool.not_eq_false', Bool.and_eq_true, Bool.or_eq_true, Bool.and_eq_false_iff, Bool.or_eq_false_iff, not_true_eq_false, not_false_eq_true, IntKind.wrap_i64, wrapU64, tdivP, tmodP, fdivP, Int.reduceLT, Int.not_lt, Int.not_le, gt_iff_lt, ge_iff_le] at * <;> first | contradiction | omega)
        have hq4 : (!decide (n % (4 : Int) ≤ (3 : Int))) = false := by
          rcases Bool.eq_false_or_eq_true (!decide (n % (4 : Int) ≤ (3 : Int))) with h | h
          · exfalso; (simp only [decide_eq_true_eq, decide_eq_false_iff_not, beqI, beqIf, bneI, bneIf, beqB, beqBf, bneB, bneBf, Bool.false_eq_true, Bool.true_eq_false, true_iff, iff_true, false_iff, iff_false, true_and, and_true, false_and, and_false, true_or, or_true, false_or, or_false, ne_eq, eq_self, Bool.not_eq_true', Bool.not_eq_false', Bool.and_eq_true, Bool.or_eq_true, Bool.and_eq_false_iff, Bool.or_eq_false_iff, not_true_eq_false, not_false_eq_true, IntKind.wrap_i64, wrapU64, tdivP, tmodP, fdivP, Int.reduceLT, Int.not_lt, Int.not_le, gt_iff_lt, ge_iff_le] at * <;> first | contradiction | omega)
          · exact h
        have hq5 : (decide (t % (15 : Int) < (0 : Int))) = false := by
          rcases Bool.eq_false_or_eq_true (decide (t % (15 : Int) < (0 : Int))) with h | h
          · exfalso; (simp only [decide_eq_true_eq, decide_eq_false_iff_not, beqI, beqIf, bneI, bneIf, beqB, beqBf, bneB, bneBf, Bool.false_eq_true, Bool.true_eq_false, true_iff, iff_true, false_iff, iff_false, true_and, and_true, false_and, and_false, true_or, or_true, false_or, or_false, ne_eq, eq_self, Bool.not_eq_true', Bool.not_eq_false', Bool.and_eq_true, Bool.or_eq_true, Bool.and_eq_false_iff, Bool.or_eq_false_iff, not_true_eq_false, not_false_eq_true, IntKind.wrap_i64, wrapU64, tdivP, tmodP, fdivP, Int.reduceLT, Int.not_lt, Int.not_le, gt_iff_lt, ge_iff_le] at * <;> first | contradiction | omega)
          · exact h
        have hq6 : (decide (t % (15 : Int) ≥ (16 : Int))) = false := by
          rcases Bool.eq_false_or_eq_true (decide (t % (15 : Int) ≥ (16 : Int))) with h | h
          · exfalso; (simp only [decide_eq_true_eq, decide_eq_false_iff_not, beqI, beqIf, bneI, bneIf, beqB, beqBf, bneB, bneBf, Bool.false_eq_true, Bool.true_eq_false, true_iff, iff_true, false_iff, iff_false, true_and, and_true, false_and, and_false, true_or, or_true, false_or, or_false, ne_eq, eq_self, Bool.not_eq_true', Bool.not_eq_false', Bool.and_eq_true, Bool.or_eq_true, Bool.and_eq_false_iff, Bool.or_eq_false_iff, not_true_eq_false, not_false_eq_true, IntKind.wrap_i64, wrapU64, tdivP, tmodP, fdivP, Int.reduceLT, Int.not_lt, Int.not_le, gt_iff_lt, ge_iff_le] at * <;> first | contradiction | omega)
          · exact h
        rcases Bool.eq_false_or_eq_true (n % (4 : Int) == (0 : Int)) with hq7 | hq7
        ·
          rcases Bool.eq_false_or_eq_true ((t % (15 : Int)).tmod (2 : Int) == (0 : Int)) with hq8 | hq8
          ·
            have hq9 : (decide (IntKind.i64.wrap (t % (15 : Int) + (1 : Int)) < (0 : Int))) = false := by
              rcases Bool.eq_false_or_eq_true (decide (IntKind.i64.wrap (t % (15 : Int) + (1 : Int)) < (0 : Int))) with h | h
              · exfalso; (simp only [decide_eq_true_eq, decide_eq_false_iff_not, beqI, beqIf, bneI, bneIf, beqB, beqBf, bneB, bneBf, Bool.false_eq_true, Bool.true_eq_false, true_iff, iff_true, false_iff, iff_false, true_and, and_true, false_and, and_false, true_or, or_true, false_or, or_false, ne_eq, eq_self, Bool.not_eq_true', Bool.not_eq_false', Bool.and_eq_true, Bool.or_eq_true, Bool.and_eq_false_iff, Bool.or_eq_false_iff, not_true_eq_false, not_false_eq_true, IntKind.wrap_i64, wrapU64, tdivP, tmodP, fdivP, Int.reduceLT, Int.not_lt, Int.not_le, gt_iff_lt, ge_iff_le] at * <;> first | contradiction | omega)
              · exact h
            have hq10 : (decide (IntKind.i64.wrap (t % (15 : Int) + (1 : Int)) ≥ (16 : Int))) = false := by
              rcases Bool.eq_false_or_eq_true (decide (IntKind.i64.wrap (t % (15 : Int) + (1 : Int)) ≥ (16 : Int))) with h | h
              · exfalso; (simp only [decide_eq_true_eq, decide_eq_false_iff_not, beqI, beqIf, bneI, bneIf, beqB, beqBf, bneB, bneBf, Bool.false_eq_true, Bool.true_eq_false, true_iff, iff_true, false_iff, iff_false, true_and, and_true, false_and, and_false, true_or, or_true, false_or, or_false, ne_eq, eq_self, Bool.not_eq_true', Bool.not_eq_false', Bool.and_eq_true, Bool.or_eq_true, Bool.and_eq_false_iff, Bool.or_eq_false_iff, not_true_eq_false, not_false_eq_true, IntKind.wrap_i64, wrapU64, tdivP, tmodP, fdivP, Int.reduceLT, Int.not_lt, Int.not_le, gt_iff_lt, ge_iff_le] at * <;> first | contradiction | omega)
              · exact h
            have hq11 : ((IntKind.i64.wrap (t % (15 : Int) + (1 : Int))).tmod (2 : Int) == (0 : Int)) = false := by
              rcases Bool.eq_false_or_eq_true ((IntKind.i64.wrap (t % (15 : Int) + (1 : Int))).tmod (2 : Int) == (0 : Int)) with h | h
              · exfalso; (simp only [decide_eq_true_eq, decide_eq_false_iff_not, beqI, beqIf, bneI, bneIf, beqB, beqBf, bneB, bneBf, Bool.false_eq_true, Bool.true_eq_false, true_iff, iff_true, false_iff, iff_false, true_and, and_true, false_and, and_false, true_or, or_true, false_or, or_false, ne_eq, eq_self, Bool.not_eq_true', Bool.not_eq_false', Bool.and_eq_true, Bool.or_eq_true, Bool.and_eq_false_iff, Bool.or_eq_false_iff, not_true_eq_false, not_false_eq_true, IntKind.wrap_i64, wrapU64, tdivP, tmodP, fdivP, Int.reduceLT, Int.not_lt, Int.not_le, gt_iff_lt, ge_iff_le] at * <;> first | contradiction | omega)
              · exact h
            have e0 : lawFirst_c0 n t u = ((2 : Int) == (2 : Int)) := ((bif_t hq8 _ _).trans rfl); rw [e0]; exact lawFirst_p24 n t u hq0 hq1 hq2 hq3 hq4 hq5 hq6 hq7 hq8 hq9 hq10 hq11
          ·
            have hq9 : (decide (IntKind.i64.wrap (t % (15 : Int) + (1 : Int)) < (0 : Int))) = false := by
              rcases Bool.eq_false_or_eq_true (decide (IntKind.i64.wrap (t % (15 : Int) + (1 : Int)) < (0 : Int))) with h | h
              · exfalso; (simp only [decide_eq_true_eq, decide_eq_false_iff_not, beqI, beqIf, bneI, bneIf, beqB, beqBf, bneB, bneBf, Bool.false_eq_true, Bool.true_eq_false, true_iff, iff_true, false_iff, iff_false, true_and, and_true, false_and, and_false, true_or, or_true, false_or, or_false, ne_eq, eq_self, Bool.not_eq_true', Bool.not_eq_false', Bool.and_eq_true, Bool.or_eq_true, Bool.and_eq_false_iff, Bool.or_eq_false_iff, not_true_eq_false, not_false_eq_true, IntKind.wrap_i64, wrapU64, tdivP, tmodP, fdivP, Int.reduceLT, Int.not_lt, Int.not_le, gt_iff_lt, ge_iff_le] at * <;> first | contradiction | omega)
              · exact h
            have hq10 : (decide (IntKind.i64.wrap (t % (15 : Int) + (1 : Int)) ≥ (16 : Int))) = false := by
              rcases Bool.eq_false_or_eq_true (decide (IntKind.i64.wrap (t % (15 : Int) + (1 : Int)) ≥ (16 : Int))) with h | h
              · exfalso; (simp only [decide_eq_true_eq, decide_eq_false_iff_not, beqI, beqIf, bneI, bneIf, beqB, beqBf, bneB, bneBf, Bool.false_eq_true, Bool.true_eq_false, true_iff, iff_true, false_iff, iff_false, true_and, and_true, false_and, and_false, true_or, or_true, false_or, or_false, ne_eq, eq_self, Bool.not_eq_true', Bool.not_eq_false', Bool.and_eq_true, Bool.or_eq_true, Bool.and_eq_false_iff, Bool.or_eq_false_iff, not_true_eq_false, not_false_eq_true, IntKind.wrap_i64, wrapU64, tdivP, tmodP, fdivP, Int.reduceLT, Int.not_lt, Int.not_le, gt_iff_lt, ge_iff_le] at * <;> first | contradiction | omega)
              · exact h
            have hq11 : ((IntKind.i64.wrap (t % (15 : Int) + (1 : Int))).tmod (2 : Int) == (0 : Int)) = true := by
              rcases Bool.eq_false_or_eq_true ((IntKind.i64.wrap (t % (15 : Int) + (1 : Int))).tmod (2 : Int) == (0 : Int)) with h | h
              · exact h
              · exfalso; (simp only [decide_eq_true_eq, decide_eq_false_iff_not, beqI, beqIf, bneI, bneIf, beqB, beqBf, bneB, bneBf, Bool.false_eq_true, Bool.true_eq_false, true_iff, iff_true, false_iff, iff_false, true_and, and_true, false_and, and_false, true_or, or_true, false_or, or_false, ne_eq, eq_self, Bool.not_eq_true', Bool.not_eq_false', Bool.and_eq_true, Bool.or_eq_true, Bool.and_eq_false_iff, Bool.or_eq_false_iff, not_true_eq_false, not_false_eq_true, IntKind.wrap_i64, wrapU64, tdivP, tmodP, fdivP, Int.reduceLT, Int.not_lt, Int.not_le, gt_iff_lt, ge_iff_le] at * <;> first | contradiction | omega)
            have e0 : lawFirst_c0 n t u = ((1 : Int) == (1 : Int)) := ((bif_f hq8 _ _).trans rfl); rw [e0]; exact lawFirst_p25 n t u hq0 hq1 hq2 hq3 hq4 hq5 hq6 hq7 hq8 hq9 hq10 hq11
        ·
          rcases Bool.eq_false_or_eq_true (n % (4 : Int) == (1 : Int)) with hq12 | hq12
          ·
            rcases Bool.eq_false_or_eq_true ((t % (15 : Int)).tmod (2 : Int) == (0 : Int)) with hq8 | hq8
            ·
              have hq9 : (decide (IntKind.i64.wrap (t % (15 : Int) + (1 : Int)) < (0 : Int))) = false := by
                rcases Bool.eq_false_or_eq_true (decide (IntKind.i64.wrap (t % (15 : Int) + (1 : Int)) < (0 : Int))) with h | h
                · exfalso; (simp only [decide_eq_true_eq, decide_eq_false_iff_not, beqI, beqIf, bneI, bneIf, beqB, beqBf, bneB, bneBf, Bool.false_eq_true, Bool.true_eq_false, true_iff, iff_true, false_iff, iff_false, true_and, and_true, false_and, and_false, true_or, or_true, false_or, or_false, ne_eq, eq_self, Bool.not_eq_true', Bool.not_eq_false', Bool.and_eq_true, Bool.or_eq_true, Bool.and_eq_false_iff, Bool.or_eq_false_iff, not_true_eq_false, not_false_eq_true, IntKind.wrap_i64, wrapU64, tdivP, tmodP, fdivP, Int.reduceLT, Int.not_lt, Int.not_le, gt_iff_lt, ge_iff_le] at * <;> first | contradiction | omega)
                · exact h
              have hq10 : (decide (IntKind.i64.wrap (t % (15 : Int) + (1 : Int)) ≥ (16 : Int))) = false := by
                rcases Bool.eq_false_or_eq_true (decide (IntKind.i64.wrap (t % (15 : Int) + (1 : Int)) ≥ (16 : Int))) with h | h
                · exfalso; (simp only [decide_eq_true_eq, decide_eq_false_iff_not, beqI, beqIf, bneI, bneIf, beqB, beqBf, bneB, bneBf, Bool.false_eq_true, Bool.true_eq_false, true_iff, iff_true, false_iff, iff_false, true_and, and_true, false_and, and_false, true_or, or_true, false_or, or_false, ne_eq, eq_self, Bool.not_eq_true', Bool.not_eq_false', Bool.and_eq_true, Bool.or_eq_true, Bool.and_eq_false_iff, Bool.or_eq_false_iff, not_true_eq_false, not_false_eq_true, IntKind.wrap_i64, wrapU64, tdivP, tmodP, fdivP, Int.reduceLT, Int.not_lt, Int.not_le, gt_iff_lt, ge_iff_le] at * <;> first | contradiction | omega)
                · exact h
              have hq11 : ((IntKind.i64.wrap (t % (15 : Int) + (1 : Int))).tmod (2 : Int) == (0 : Int)) = false := by
                rcases Bool.eq_false_or_eq_true ((IntKind.i64.wrap (t % (15 : Int) + (1 : Int))).tmod (2 : Int) == (0 : Int)) with h | h
                · exfalso; (simp only [decide_eq_true_eq, decide_eq_false_iff_not, beqI, beqIf, bneI, bneIf, beqB, beqBf, bneB, bneBf, Bool.false_eq_true, Bool.true_eq_false, true_iff, iff_true, false_iff, iff_false, true_and, and_true, false_and, and_false, true_or, or_true, false_or, or_false, ne_eq, eq_self, Bool.not_eq_true', Bool.not_eq_false', Bool.and_eq_true, Bool.or_eq_true, Bool.and_eq_false_iff, Bool.or_eq_false_iff, not_true_eq_false, not_false_eq_true, IntKind.wrap_i64, wrapU64, tdivP, tmodP, fdivP, Int.reduceLT, Int.not_lt, Int.not_le, gt_iff_lt, ge_iff_le] at * <;> first | contradiction | omega)
                · exact h
              have e0 : lawFirst_c0 n t u = ((2 : Int) == (2 : Int)) := ((bif_t hq8 _ _).trans rfl); rw [e0]; exact lawFirst_p26 n t u hq0 hq1 hq2 hq3 hq4 hq5 hq6 hq7 hq12 hq8 hq9 hq10 hq11
            ·
              have hq9 : (decide (IntKind.i64.wrap (t % (15 : Int) + (1 : Int)) < (0 : Int))) = false := by
                rcases Bool.eq_false_or_eq_true (decide (IntKind.i64.wrap (t % (15 : Int) + (1 : Int)) < (0 : Int))) with h | h
                · exfalso; (simp only [decide_eq_true_eq, decide_eq_false_iff_not, beqI, beqIf, bneI, bneIf, beqB, beqBf, bneB, bneBf, Bool.false_eq_true, Bool.true_eq_false, true_iff, iff_true, false_iff, iff_false, true_and, and_true, false_and, and_false, true_or, or_true, false_or, or_false, ne_eq, eq_self, Bool.not_eq_true', Bool.not_eq_false', Bool.and_eq_true, Bool.or_eq_true, Bool.and_eq_false_iff, Bool.or_eq_false_iff, not_true_eq_false, not_false_eq_true, IntKind.wrap_i64, wrapU64, tdivP, tmodP, fdivP, Int.reduceLT, Int.not_lt, Int.not_le, gt_iff_lt, ge_iff_le] at * <;> first | contradiction | omega)
                · exact h
              have hq10 : (decide (IntKind.i64.wrap (t % (15 : Int) + (1 : Int)) ≥ (16 : Int))) = false := by
                rcases Bool.eq_false_or_eq_true (decide (IntKind.i64.wrap (t % (15 : Int) + (1 : Int)) ≥ (16 : Int))) with h | h
                · exfalso; (simp only [decide_eq_true_eq, decide_eq_false_iff_not, beqI, beqIf, bneI, bneIf, beqB, beqBf, bneB, bneBf, Bool.false_eq_true, Bool.true_eq_false, true_iff, iff_true, false_iff, iff_false, true_and, and_true, false_and, and_false, true_or, or_true, false_or, or_false, ne_eq, eq_self, Bool.not_eq_true', Bool.not_eq_false', Bool.and_eq_true, Bool.or_eq_true, Bool.and_eq_false_iff, Bool.or_eq_false_iff, not_true_eq_false, not_false_eq_true, IntKind.wrap_i64, wrapU64, tdivP, tmodP, fdivP, Int.reduceLT, Int.not_lt, Int.not_le, gt_iff_lt, ge_iff_le] at * <;> first | contradiction | omega)
                · exact h
              have hq11 : ((IntKind.i64.wrap (t % (15 : Int) + (1 : Int))).tmod (2 : Int) == (0 : Int)) = true := by
                rcases Bool.eq_false_or_eq_true ((IntKind.i64.wrap (t % (15 : Int) + (1 : Int))).tmod (2 : Int) == (0 : Int)) with h | h
                · exact h
                · exfalso; (simp only [decide_eq_true_eq, decide_eq_false_iff_not, beqI, beqIf, bneI, bneIf, beqB, beqBf, bneB, bneBf, Bool.false_eq_true, Bool.true_eq_false, true_iff, iff_true, false_iff, iff_false, true_and, and_true, false_and, and_false, true_or, or_true, false_or, or_false, ne_eq, eq_self, Bool.not_eq_true', Bool.not_eq_false', Bool.and_eq_true, Bool.or_eq_true, Bool.and_eq_false_iff, Bool.or_eq_false_iff, not_true_eq_false, not_false_eq_true, IntKind.wrap_i64, wrapU64, tdivP, tmodP, fdivP, Int.reduceLT, Int.not_lt, Int.not_le, gt_iff_lt, ge_iff_le] at * <;> first | contradiction | omega)
              have e0 : lawFirst_c0 n t u = ((1 : Int) == (1 : Int)) := ((bif_f hq8 _ _).trans rfl); rw [e0]; exact lawFirst_p27 n t u hq0 hq1 hq2 hq3 hq4 hq5 hq6 hq7 hq12 hq8 hq9 hq10 hq11
          ·
            rcases Bool.eq_false_or_eq_true (n % (4 : Int) == (3 : Int)) with hq13 | hq13
            ·
              rcases Bool.eq_false_or_eq_true ((t % (15 : Int)).tmod (2 : Int) == (0 : Int)) with hq8 | hq8
              ·
                have hq9 : (decide (IntKind.i64.wrap (t % (15 : Int) + (1 : Int)) < (0 : Int))) = false := by
                  rcases Bool.eq_false_or_eq_true (decide (IntKind.i64.wrap (t % (15 : Int) + (1 : Int)) < (0 : Int))) with h | h
                  · exfalso; (simp only [decide_eq_true_eq, decide_eq_false_iff_not, beqI, beqIf, bneI, bneIf, beqB, beqBf, bneB, bneBf, Bool.false_eq_true, Bool.true_eq_false, true_iff, iff_true, false_iff, iff_false, true_and, and_true, false_and, and_false, true_or, or_true, false_or, or_false, ne_eq, eq_self, Bool.not_eq_true', Bool.not_eq_false', Bool.and_eq_true, Bool.or_eq_true, Bool.and_eq_false_iff, Bool.or_eq_false_iff, not_true_eq_false, not_false_eq_true, IntKind.wrap_i64, wrapU64, tdivP, tmodP, fdivP, Int.reduceLT, Int.not_lt, Int.not_le, gt_iff_lt, ge_iff_le] at * <;> first | contradiction | omega)
                  · exact h
                have hq10 : (decide (IntKind.i64.wrap (t % (15 : Int) + (1 : Int)) ≥ (16 : Int))) = false := by
                  rcases Bool.eq_false_or_eq_true (decide (IntKind.i64.wrap (t % (15 : Int) + (1 : Int)) ≥ (16 : Int))) with h | h
                  · exfalso; (simp only [decide_eq_true_eq, decide_eq_false_iff_not, beqI, beqIf, bneI, bneIf, beqB, beqBf, bneB, bneBf, Bool.false_eq_true, Bool.true_eq_false, true_iff, iff_true, false_iff, iff_false, true_and, and_true, false_and, and_false, true_or, or_true, false_or, or_false, ne_eq, eq_self, Bool.not_eq_true', Bool.not_eq_false', Bool.and_eq_true, Bool.or_eq_true, Bool.and_eq_false_iff, Bool.or_eq_false_iff, not_true_eq_false, not_false_eq_true, IntKind.wrap_i64, wrapU64, tdivP, tmodP, fdivP, Int.reduceLT, Int.not_lt, Int.not_le, gt_iff_lt, ge_iff_le] at * <;> first | contradiction | omega)
                  · exact h
                have hq11 : ((IntKind.i64.wrap (t % (15 : Int) + (1 : Int))).tmod (2 : Int) == (0 : Int)) = false := by
                  rcases Bool.eq_false_or_eq_true ((IntKind.i64.wrap (t % (15 : Int) + (1 : Int))).tmod (2 : Int) == (0 : Int)) with h | h
                  · exfalso; (simp only [decide_eq_true_eq, decide_eq_false_iff_not, beqI, beqIf, bneI, bneIf, beqB, beqBf, bneB, bneBf, Bool.false_eq_true, Bool.true_eq_false, true_iff, iff_true, false_iff, iff_false, true_and, and_true, false_and, and_false, true_or, or_true, false_or, or_false, ne_eq, eq_self, Bool.not_eq_true', Bool.not_eq_false', Bool.and_eq_true, Bool.or_eq_true, Bool.and_eq_false_iff, Bool.or_eq_false_iff, not_true_eq_false, not_false_eq_true, IntKind.wrap_i64, wrapU64, tdivP, tmodP, fdivP, Int.reduceLT, Int.not_lt, Int.not_le, gt_iff_lt, ge_iff_le] at * <;> first | contradiction | omega)
                  · exact h
                have e0 : lawFirst_c0 n t u = ((2 : Int) == (2 : Int)) := ((bif_t hq8 _ _).trans rfl); rw [e0]; exact lawFirst_p28 n t u hq0 hq1 hq2 hq3 hq4 hq5 hq6 hq7 hq12 hq13 hq8 hq9 hq10 hq11
              ·
                have hq9 : (decide (IntKind.i64.wrap (t % (15 : Int) + (1 : Int)) < (0 : Int))) = false := by
                  rcases Bool.eq_false_or_eq_true (decide (IntKind.i64.wrap (t % (15 : Int) + (1 : Int)) < (0 : Int))) with h | h
                  · exfalso; (simp only [decide_eq_true_eq, decide_eq_false_iff_not, beqI, beqIf, bneI, bneIf, beqB, beqBf, bneB, bneBf, Bool.false_eq_true, Bool.true_eq_false, true_iff, iff_true, false_iff, iff_false, true_and, and_true, false_and, and_false, true_or, or_true, false_or, or_false, ne_eq, eq_self, Bool.not_eq_true', Bool.not_eq_false', Bool.and_eq_true, Bool.or_eq_true, Bool.and_eq_false_iff, Bool.or_eq_false_iff, not_true_eq_false, not_false_eq_true, IntKind.wrap_i64, wrapU64, tdivP, tmodP, fdivP, Int.reduceLT, Int.not_lt, Int.not_le, gt_iff_lt, ge_iff_le] at * <;> first | contradiction | omega)
                  · exact h
                have hq10 : (decide (IntKind.i64.wrap (t % (15 : Int) + (1 : Int)) ≥ (16 : Int))) = false := by
                  rcases Bool.eq_false_or_eq_true (decide (IntKind.i64.wrap (t % (15 : Int) + (1 : Int)) ≥ (16 : Int))) with h | h
                  · exfalso; (simp only [decide_eq_true_eq, decide_eq_false_iff_not, beqI, beqIf, bneI, bneIf, beqB, beqBf, bneB, bneBf, Bool.false_eq_true, Bool.true_eq_false, true_iff, iff_true, false_iff, iff_false, true_and, and_true, false_and, and_false, true_or, or_true, false_or, or_false, ne_eq, eq_self, Bool.not_eq_true', Bool.not_eq_false', Bool.and_eq_true, Bool.or_eq_true, Bool.and_eq_false_iff, Bool.or_eq_false_iff, not_true_eq_false, not_false_eq_true, IntKind.wrap_i64, wrapU64, tdivP, tmodP, fdivP, Int.reduceLT, Int.not_lt, Int.not_le, gt_iff_lt, ge_iff_le] at * <;> first | contradiction | omega)
                  · exact h
                have hq11 : ((IntKind.i64.wrap (t % (15 : Int) + (1 : Int))).tmod (2 : Int) == (0 : Int)) = true := by
                  rcases Bool.eq_false_or_eq_true ((IntKind.i64.wrap (t % (15 : Int) + (1 : Int))).tmod (2 : Int) == (0 : Int)) with h | h
                  · exact h
                  · exfalso; (simp only [decide_eq_true_eq, decide_eq_false_iff_not, beqI, beqIf, bneI, bneIf, beqB, beqBf, bneB, bneBf, Bool.false_eq_true, Bool.true_eq_false, true_iff, iff_true, false_iff, iff_false, true_and, and_true, false_and, and_false, true_or, or_true, false_or, or_false, ne_eq, eq_self, Bool.not_eq_true', Bool.not_eq_false', Bool.and_eq_true, Bool.or_eq_true, Bool.and_eq_false_iff, Bool.or_eq_false_iff, not_true_eq_false, not_false_eq_true, IntKind.wrap_i64, wrapU64, tdivP, tmodP, fdivP, Int.reduceLT, Int.not_lt, Int.not_le, gt_iff_lt, ge_iff_le] at * <;> first | contradiction | omega)
                have e0 : lawFirst_c0 n t u = ((1 : Int) == (1 : Int)) := ((bif_f hq8 _ _).trans rfl); rw [e0]; exact lawFirst_p29 n t u hq0 hq1 hq2 hq3 hq4 hq5 hq6 hq7 hq12 hq13 hq8 hq9 hq10 hq11
            ·
              rcases Bool.eq_false_or_eq_true ((t % (15 : Int)).tmod (2 : Int) == (0 : Int)) with hq8 | hq8
              ·
                have hq9 : (decide (IntKind.i64.wrap (t % (15 : Int) + (1 : Int)) < (0 : Int))) = false := by
                  rcases Bool.eq_false_or_eq_true (decide (IntKind.i64.wrap (t % (15 : Int) + (1 : Int)) < (0 : Int))) with h | h
                  · exfalso; (simp only [decide_eq_true_eq, decide_eq_false_iff_not, beqI, beqIf, bneI, bneIf, beqB, beqBf, bneB, bneBf, Bool.false_eq_true, Bool.true_eq_false, true_iff, iff_true, false_iff, iff_false, true_and, and_true, false_and, and_false, true_or, or_true, false_or, or_false, ne_eq, eq_self, Bool.not_eq_true', Bool.not_eq_false', Bool.and_eq_true, Bool.or_eq_true, Bool.and_eq_false_iff, Bool.or_eq_false_iff, not_true_eq_false, not_false_eq_true, IntKind.wrap_i64, wrapU64, tdivP, tmodP, fdivP, Int.reduceLT, Int.not_lt, Int.not_le, gt_iff_lt, ge_iff_le] at * <;> first | contradiction | omega)
                  · exact h
                have hq10 : (decide (IntKind.i64.wrap (t % (15 : Int) + (1 : Int)) ≥ (16 : Int))) = false := by
                  rcases Bool.eq_false_or_eq_true (decide (IntKind.i64.wrap (t % (15 : Int) + (1 : Int)) ≥ (16 : Int))) with h | h
                  · exfalso; (simp only [decide_eq_true_eq, decide_eq_false_iff_not, beqI, beqIf, bneI, bneIf, beqB, beqBf, bneB, bneBf, Bool.false_eq_true, Bool.true_eq_false, true_iff, iff_true, false_iff, iff_false, true_and, and_true, false_and, and_false, true_or, or_true, false_or, or_false, ne_eq, eq_self, Bool.not_eq_true', Bool.not_eq_false', Bool.and_eq_true, Bool.or_eq_true, Bool.and_eq_false_iff, Bool.or_eq_false_iff, not_true_eq_false, not_false_eq_true, IntKind.wrap_i64, wrapU64, tdivP, tmodP, fdivP, Int.reduceLT, Int.not_lt, Int.not_le, gt_iff_lt, ge_iff_le] at * <;> first | contradiction | omega)
                  · exact h
                have hq11 : ((IntKind.i64.wrap (t % (15 : Int) + (1 : Int))).tmod (2 : Int) == (0 : Int)) = false := by
                  rcases Bool.eq_false_or_eq_true ((IntKind.i64.wrap (t % (15 : Int) + (1 : Int))).tmod (2 : Int) == (0 : Int)) with h | h
                  · exfalso; (simp only [decide_eq_true_eq, decide_eq_false_iff_not, beqI, beqIf, bneI, bneIf, beqB, beqBf, bneB, bneBf, Bool.false_eq_true, Bool.true_eq_false, true_iff, iff_true, false_iff, iff_false, true_and, and_true, false_and, and_false, true_or, or_true, false_or, or_false, ne_eq, eq_self, Bool.not_eq_true', Bool.not_eq_false', Bool.and_eq_true, Bool.or_eq_true, Bool.and_eq_false_iff, Bool.or_eq_false_iff, not_true_eq_false, not_false_eq_true, IntKind.wrap_i64, wrapU64, tdivP, tmodP, fdivP, Int.reduceLT, Int.not_lt, Int.not_le, gt_iff_lt, ge_iff_le] at * <;> first | contradiction | omega)
                  · exact h
                have e0 : lawFirst_c0 n t u = ((2 : Int) == (2 : Int)) := ((bif_t hq8 _ _).trans rfl); rw [e0]; exact lawFirst_p30 n t u hq0 hq1 hq2 hq3 hq4 hq5 hq6 hq7 hq12 hq13 hq8 hq9 hq10 hq11
              ·
                have hq9 : (decide (IntKind.i64.wrap (t % (15 : Int) + (1 : Int)) < (0 : Int))) = false := by
                  rcases Bool.eq_false_or_eq_true (decide (IntKind.i64.wrap (t % (15 : Int) + (1 : Int)) < (0 : Int))) with h | h
                  · exfalso; (simp only [decide_eq_true_eq, decide_eq_false_iff_not, beqI, beqIf, bneI, bneIf, beqB, beqBf, bneB, bneBf, Bool.false_eq_true, Bool.true_eq_false, true_iff, iff_true, false_iff, iff_false, true_and, and_true, false_and, and_false, true_or, or_true, false_or, or_false, ne_eq, eq_self, Bool.not_eq_true', Bool.not_eq_false', Bool.and_eq_true, Bool.or_eq_true, Bool.and_eq_false_iff, Bool.or_eq_false_iff, not_true_eq_false, not_false_eq_true, IntKind.wrap_i64, wrapU64, tdivP, tmodP, fdivP, Int.reduceLT, Int.not_lt, Int.not_le, gt_iff_lt, ge_iff_le] at * <;> first | contradiction | omega)
                  · exact h
                have hq10 : (decide (IntKind.i64.wrap (t % (15 : Int) + (1 : Int)) ≥ (16 : Int))) = false := by
                  rcases Bool.eq_false_or_eq_true (decide (IntKind.i64.wrap (t % (15 : Int) + (1 : Int)) ≥ (16 : Int))) with h | h
                  · exfalso; (simp only [decide_eq_true_eq, decide_eq_false_iff_not, beqI, beqIf, bneI, bneIf, beqB, beqBf, bneB, bneBf, Bool.false_eq_true, Bool.true_eq_false, true_iff, iff_true, false_iff, iff_false, true_and, and_true, false_and, and_false, true_or, or_true, false_or, or_false, ne_eq, eq_self, Bool.not_eq_true', Bool.not_eq_false', Bool.and_eq_true, Bool.or_eq_true, Bool.and_eq_false_iff, Bool.or_eq_false_iff, not_true_eq_false, not_false_eq_true, IntKind.wrap_i64, wrapU64, tdivP, tmodP, fdivP, Int.reduceLT, Int.not_lt, Int.not_le, gt_iff_lt, ge_iff_le] at * <;> first | contradiction | omega)
                  · exact h
                have hq11 : ((IntKind.i64.wrap (t % (15 : Int) + (1 : Int))).tmod (2 : Int) == (0 : Int)) = true := by
                  rcases Bool.eq_false_or_eq_true ((IntKind.i64.wrap (t % (15 : Int) + (1 : Int))).tmod (2 : Int) == (0 : Int)) with h | h
                  · exact h
                  · exfalso; (simp only [decide_eq_true_eq, decide_eq_false_iff_not, beqI, beqIf, bneI, bneIf, beqB, beqBf, bneB, bneBf, Bool.false_eq_true, Bool.true_eq_false, true_iff, iff_true, false_iff, iff_false, true_and, and_true, false_and, and_false, true_or, or_true, false_or, or_false, ne_eq, eq_self, Bool.not_eq_true', Bool.not_eq_false', Bool.and_eq_true, Bool.or_eq_true, Bool.and_eq_false_iff, Bool.or_eq_false_iff, not_true_eq_false, not_false_eq_true, IntKind.wrap_i64, wrapU64, tdivP, tmodP, fdivP, Int.reduceLT, Int.not_lt, Int.not_le, gt_iff_lt, ge_iff_le] at * <;> first | contradiction | omega)
                have e0 : lawFirst_c0 n t u = ((1 : Int) == (1 : Int)) := ((bif_f hq8 _ _).trans rfl); rw [e0]; exact lawFirst_p31 n t u hq0 hq1 hq2 hq3 hq4 hq5 hq6 hq7 hq12 hq13 hq8 hq9 hq10 hq11
  ·
    rcases Bool.eq_false_or_eq_true (((u % (8 : Int)).fdiv (2 : Int)).tmod (2 : Int) == (1 : Int)) with hq1 | hq1
    ·
      rcases Bool.eq_false_or_eq_true (((u % (8 : Int)).fdiv (4 : Int)).tmod (2 : Int) == (1 : Int)) with hq2 | hq2
      ·
        have hq3 : (decide (n % (4 : Int) ≥ (0 : Int))) = true := by
          rcases Bool.eq_false_or_eq_true (decide (n % (4 : Int) ≥ (0 : Int))) with h | h
          · exact h
          · exfalso; (simp only [decide_eq_true_eq, decide_eq_false_iff_not, beqI, beqIf, bneI, bneIf, beqB, beqBf, bneB, bneBf, Bool.false_eq_true, Bool.true_eq_false, true_iff, iff_true, false_iff, iff_false, true_and, and_true, false_and, and_false, true_or, or_true, false_or, or_false, ne_eq, eq_self, Bool.not_eq_true', Bool.not_eq_false', Bool.and_eq_true, Bool.or_eq_true, Bool.and_eq_false_iff, Bool.or_eq_false_iff, not_true_eq_false, not_false_eq_true, IntKind.wrap_i64, wrapU64, tdivP, tmodP, fdivP, Int.reduceLT, Int.not_lt, Int.not_le, gt_iff_lt, ge_iff_le] at * <;> first | contradiction | omega)
        have hq4 : (!decide (n % (4 : Int) ≤ (3 : Int))) = false := by
          rcases Bool.eq_false_or_eq_true (!decide (n % (4 : Int) ≤ (3 : Int))) with h | h
          · exfalso; (simp only [decide_eq_true_eq, decide_eq_false_iff_not, beqI, beqIf, bneI, bneIf, beqB, beqBf, bneB, bneBf, Bool.false_eq_true, Bool.true_eq_false, true_iff, iff_true, false_iff, iff_false, true_and, and_true, false_and, and_false, true_or, or_true, false_or, or_false, ne_eq, eq_self, Bool.not_eq_true', Bool.not_eq_false', Bool.and_eq_true, Bool.or_eq_true, Bool.and_eq_false_iff, Bool.or_eq_false_iff, not_true_eq_false, not_false_eq_true, IntKind.wrap_i64, wrapU64, tdivP, tmodP, fdivP, Int.reduceLT, Int.not_lt, Int.not_le, gt_iff_lt, ge_iff_le] at * <;> first | contradiction | omega)
          · exact h
        have hq5 : (decide (t % (15 : Int) < (0 : Int))) = false := by
          rcases Bool.eq_false_or_eq_true (decide (t % (15 : Int) < (0 : Int))) with h | h
          · exfalso; (simp only [decide_eq_true_eq, decide_eq_false_iff_not, beqI, beqIf, bneI, bneIf, beqB, beqBf, bneB, bneBf, Bool.false_eq_true, Bool.true_eq_false, true_iff, iff_true, false_iff, iff_false, true_and, and_true, false_and, and_false, true_or, or_true, false_or, or_false, ne_eq, eq_self, Bool.not_eq_true', Bool.not_eq_false', Bool.and_eq_true, Bool.or_eq_true, Bool.and_eq_false_iff, Bool.or_eq_false_iff, not_true_eq_false, not_false_eq_true, IntKind.wrap_i64, wrapU64, tdivP, tmodP, fdivP, Int.reduceLT, Int.not_lt, Int.not_le, gt_iff_lt, ge_iff_le] at * <;> first | contradiction | omega)
          · exact h
        have hq6 : (decide (t % (15 : Int) ≥ (16 : Int))) = false := by
          rcases Bool.eq_false_or_eq_true (decide (t % (15 : Int) ≥ (16 : Int))) with h | h
          · exfalso; (simp only [decide_eq_true_eq, decide_eq_false_iff_not, beqI, beqIf, bneI, bneIf, beqB, beqBf, bneB, bneBf, Bool.false_eq_true, Bool.true_eq_false, true_iff, iff_true, false_iff, iff_false, true_and, and_true, false_and, and_false, true_or, or_true, false_or, or_false, ne_eq, eq_self, Bool.not_eq_true', Bool.not_eq_false', Bool.and_eq_true, Bool.or_eq_true, Bool.and_eq_false_iff, Bool.or_eq_false_iff, not_true_eq_false, not_false_eq_true, IntKind.wrap_i64, wrapU64, tdivP, tmodP, fdivP, Int.reduceLT, Int.not_lt, Int.not_le, gt_iff_lt, ge_iff_le] at * <;> first | contradiction | omega)
          · exact h
        rcases Bool.eq_false_or_eq_true (n % (4 : Int) == (0 : Int)) with hq7 | hq7
        ·
          rcases Bool.eq_false_or_eq_true ((t % (15 : Int)).tmod (2 : Int) == (0 : Int)) with hq8 | hq8
          ·
            have hq9 : (decide (IntKind.i64.wrap (t % (15 : Int) + (1 : Int)) < (0 : Int))) = false := by
              rcases Bool.eq_false_or_eq_true (decide (IntKind.i64.wrap (t % (15 : Int) + (1 : Int)) < (0 : Int))) with h | h
              · exfalso; (simp only [decide_eq_true_eq, decide_eq_false_iff_not, beqI, beqIf, bneI, bneIf, beqB, beqBf, bneB, bneBf, Bool.false_eq_true, Bool.true_eq_false, true_iff, iff_true, false_iff, iff_false, true_and, and_true, false_and, and_false, true_or, or_true, false_or, or_false, ne_eq, eq_self, Bool.not_eq_true', Bool.not_eq_false', Bool.and_eq_true, Bool.or_eq_true, Bool.and_eq_false_iff, Bool.or_eq_false_iff, not_true_eq_false, not_false_eq_true, IntKind.wrap_i64, wrapU64, tdivP, tmodP, fdivP, Int.reduceLT, Int.not_lt, Int.not_le, gt_iff_lt, ge_iff_le] at * <;> first | contradiction | omega)
              · exact h
            have hq10 : (decide (IntKind.i64.wrap (t % (15 : Int) + (1 : Int)) ≥ (16 : Int))) = false := by
              rcases Bool.eq_false_or_eq_true (decide (IntKind.i64.wrap (t % (15 : Int) + (1 : Int)) ≥ (16 : Int))) with h | h
              · exfalso; (simp only [decide_eq_true_eq, decide_eq_false_iff_not, beqI, beqIf, bneI, bneIf, beqB, beqBf, bneB, bneBf, Bool.false_eq_true, Bool.true_eq_false, true_iff, iff_true, false_iff, iff_false, true_and, and_true, false_and, and_false, true_or, or_true, false_or, or_false, ne_eq, eq_self, Bool.not_eq_true', Bool.not_eq_false', Bool.and_eq_true, Bool.or_eq_true, Bool.and_eq_false_iff, Bool.or_eq_false_iff, not_true_eq_false, not_false_eq_true, IntKind.wrap_i64, wrapU64, tdivP, tmodP, fdivP, Int.reduceLT, Int.not_lt, Int.not_le, gt_iff_lt, ge_iff_le] at * <;> first | contradiction | omega)
              · exact h
            have hq11 : ((IntKind.i64.wrap (t % (15 : Int) + (1 : Int))).tmod (2 : Int) == (0 : Int)) = false := by
              rcases Bool.eq_false_or_eq_true ((IntKind.i64.wrap (t % (15 : Int) + (1 : Int))).tmod (2 : Int) == (0 : Int)) with h | h
              · exfalso; (simp only [decide_eq_true_eq, decide_eq_false_iff_not, beqI, beqIf, bneI, bneIf, beqB, beqBf, bneB, bneBf, Bool.false_eq_true, Bool.true_eq_false, true_iff, iff_true, false_iff, iff_false, true_and, and_true, false_and, and_false, true_or, or_true, false_or, or_false, ne_eq, eq_self, Bool.not_eq_true', Bool.not_eq_false', Bool.and_eq_true, Bool.or_eq_true, Bool.and_eq_false_iff, Bool.or_eq_false_iff, not_true_eq_false, not_false_eq_true, IntKind.wrap_i64, wrapU64, tdivP, tmodP, fdivP, Int.reduceLT, Int.not_lt, Int.not_le, gt_iff_lt, ge_iff_le] at * <;> first | contradiction | omega)
              · exact h
            have e0 : lawFirst_c0 n t u = ((2 : Int) == (2 : Int)) := ((bif_t hq8 _ _).trans rfl); rw [e0]; exact lawFirst_p32 n t u hq0 hq1 hq2 hq3 hq4 hq5 hq6 hq7 hq8 hq9 hq10 hq11
          ·
            have hq9 : (decide (IntKind.i64.wrap (t % (15 : Int) + (1 : Int)) < (0 : Int))) = false := by
              rcases Bool.eq_false_or_eq_true (decide (IntKind.i64.wrap (t % (15 : Int) + (1 : Int)) < (0 : Int))) with h | h
              · exfalso; (simp only [decide_eq_true_eq, decide_eq_false_iff_not, beqI, beqIf, bneI, bneIf, beqB, beqBf, bneB, bneBf, Bool.false_eq_true, Bool.true_eq_false, true_iff, iff_true, false_iff, iff_false, true_and, and_true, false_and, and_false, true_or, or_true, false_or, or_false, ne_eq, eq_self, Bool.not_eq_true', Bool.not_eq_false', Bool.and_eq_true, Bool.or_eq_true, Bool.and_eq_false_iff, Bool.or_eq_false_iff, not_true_eq_false, not_false_eq_true, IntKind.wrap_i64, wrapU64, tdivP, tmodP, fdivP, Int.reduceLT, Int.not_lt, Int.not_le, gt_iff_lt, ge_iff_le] at * <;> first | contradiction | omega)
              · exact h
            have hq10 : (decide (IntKind.i64.wrap (t % (15 : Int) + (1 : Int)) ≥ (16 : Int))) = false := by
              rcases Bool.eq_false_or_eq_true (decide (IntKind.i64.wrap (t % (15 : Int) + (1 : Int)) ≥ (16 : Int))) with h | h
              · exfalso; (simp only [decide_eq_true_eq, decide_eq_false_iff_not, beqI, beqIf, bneI, bneIf, beqB, beqBf, bneB, bneBf, Bool.false_eq_true, Bool.true_eq_false, true_iff, iff_true, false_iff, iff_false, true_and, and_true, false_and, and_false, true_or, or_true, false_or, or_false, ne_eq, eq_self, Bool.not_eq_true', Bool.not_eq_false', Bool.and_eq_true, Bool.or_eq_true, Bool.and_eq_false_iff, Bool.or_eq_false_iff, not_true_eq_false, not_false_eq_true, IntKind.wrap_i64, wrapU64, tdivP, tmodP, fdivP, Int.reduceLT, Int.not_lt, Int.not_le, gt_iff_lt, ge_iff_le] at * <;> first | contradiction | omega)
              · exact h
            have hq11 : ((IntKind.i64.wrap (t % (15 : Int) + (1 : Int))).tmod (2 : Int) == (0 : Int)) = true := by
              rcases Bool.eq_false_or_eq_true ((IntKind.i64.wrap (t % (15 : Int) + (1 : Int))).tmod (2 : Int) == (0 : Int)) with h | h
              · exact h
              · exfalso; (simp only [decide_eq_true_eq, decide_eq_false_iff_not, beqI, beqIf, bneI, bneIf, beqB, beqBf, bneB, bneBf, Bool.false_eq_true, Bool.true_eq_false, true_iff, iff_true, false_iff, iff_false, true_and, and_true, false_and, and_false, true_or, or_true, false_or, or_false, ne_eq, eq_self, Bool.not_eq_true', Bool.not_eq_false', Bool.and_eq_true, Bool.or_eq_true, Bool.and_eq_false_iff, Bool.or_eq_false_iff, not_true_eq_false, not_false_eq_true, IntKind.wrap_i64, wrapU64, tdivP, tmodP, fdivP, Int.reduceLT, Int.not_lt, Int.not_le, gt_iff_lt, ge_iff_le] at * <;> first | contradiction | omega)
            have e0 : lawFirst_c0 n t u = ((1 : Int) == (1 : Int)) := ((bif_f hq8 _ _).trans rfl); rw [e0]; exact lawFirst_p33 n t u hq0 hq1 hq2 hq3 hq4 hq5 hq6 hq7 hq8 hq9 hq10 hq11
        ·
          rcases Bool.eq_false_or_eq_true (n % (4 : Int) == (1 : Int)) with hq12 | hq12
          ·
            rcases Bool.eq_false_or_eq_true ((t % (15 : Int)).tmod (2 : Int) == (0 : Int)) with hq8 | hq8
            ·
              have hq9 : (decide (IntKind.i64.wrap (t % (15 : Int) + (1 : Int)) < (0 : Int))) = false := by
                rcases Bool.eq_false_or_eq_true (decide (IntKind.i64.wrap (t % (15 : Int) + (1 : Int)) < (0 : Int))) with h | h
                · exfalso; (simp only [decide_eq_true_eq, decide_eq_false_iff_not, beqI, beqIf, bneI, bneIf, beqB, beqBf, bneB, bneBf, Bool.false_eq_true, Bool.true_eq_false, true_iff, iff_true, false_iff, iff_false, true_and, and_true, false_and, and_false, true_or, or_true, false_or, or_false, ne_eq, eq_self, Bool.not_eq_true', Bool.not_eq_false', Bool.and_eq_true, Bool.or_eq_true, Bool.and_eq_false_iff, Bool.or_eq_false_iff, not_true_eq_false, not_false_eq_true, IntKind.wrap_i64, wrapU64, tdivP, tmodP, fdivP, Int.reduceLT, Int.not_lt, Int.not_le, gt_iff_lt, ge_iff_le] at * <;> first | contradiction | omega)
                · exact h
              have hq10 : (decide (IntKind.i64.wrap (t % (15 : Int) + (1 : Int)) ≥ (16 : Int))) = false := by
                rcases Bool.eq_false_or_eq_true (decide (IntKind.i64.wrap (t % (15 : Int) + (1 : Int)) ≥ (16 : Int))) with h | h
                · exfalso; (simp only [decide_eq_true_eq, decide_eq_false_iff_not, beqI, beqIf, bneI, bneIf, beqB, beqBf, bneB, bneBf, Bool.false_eq_true, Bool.true_eq_false, true_iff, iff_true, false_iff, iff_false, true_and, and_true, false_and, and_false, true_or, or_true, false_or, or_false, ne_eq, eq_self, Bool.not_eq_true', Bool.not_eq_false', Bool.and_eq_true, Bool.or_eq_true, Bool.and_eq_false_iff, Bool.or_eq_false_iff, not_true_eq_false, not_false_eq_true, IntKind.wrap_i64, wrapU64, tdivP, tmodP, fdivP, Int.reduceLT, Int.not_lt, Int.not_le, gt_iff_lt, ge_iff_le] at * <;> first | contradiction | omega)
                · exact h
              have hq11 : ((IntKind.i64.wrap (t % (15 : Int) + (1 : Int))).tmod (2 : Int) == (0 : Int)) = false := by
                rcases Bool.eq_false_or_eq_true ((IntKind.i64.wrap (t % (15 : Int) + (1 : Int))).tmod (2 : Int) == (0 : Int)) with h | h
                · exfalso; (simp only [decide_eq_true_eq, decide_eq_false_iff_not, beqI, beqIf, bneI, bneIf, beqB, beqBf, bneB, bneBf, Bool.false_eq_true, Bool.true_eq_false, true_iff, iff_true, false_iff, iff_false, true_and, and_true, false_and, and_false, true_or, or_true, false_or, or_false, ne_eq, eq_self, Bool.not_eq_true', Bool.not_eq_false', Bool.and_eq_true, Bool.or_eq_true, Bool.and_eq_false_iff, Bool.or_eq_false_iff, not_true_eq_false, not_false_eq_true, IntKind.wrap_i64, wrapU64, tdivP, tmodP, fdivP, Int.reduceLT, Int.not_lt, Int.not_le, gt_iff_lt, ge_iff_le] at * <;> first | contradiction | omega)
                · exact h
              have e0 : lawFirst_c0 n t u = ((2 : Int) == (2 : Int)) := ((bif_t hq8 _ _).trans rfl); rw [e0]; exact lawFirst_p34 n t u hq0 hq1 hq2 hq3 hq4 hq5 hq6 hq7 hq12 hq8 hq9 hq10 hq11
            ·
              have hq9 : (decide (IntKind.i64.wrap (t % (15 : Int) + (1 : Int)) < (0 : Int))) = false := by
                rcases Bool.eq_false_or_eq_true (decide (IntKind.i64.wrap (t % (15 : Int) + (1 : Int)) < (0 : Int))) with h | h
                · exfalso; (simp only [decide_eq_true_eq, decide_eq_false_iff_not, beqI, beqIf, bneI, bneIf, beqB, beqBf, bneB, bneBf, Bool.false_eq_true, Bool.true_eq_false, true_iff, iff_true, false_iff, iff_false, true_and, and_true, false_and, and_false, true_or, or_true, false_or, or_false, ne_eq, eq_self, Bool.not_eq_true', Bool.not_eq_false', Bool.and_eq_true, Bool.or_eq_true, Bool.and_eq_false_iff, Bool.or_eq_false_iff, not_true_eq_false, not_false_eq_true, IntKind.wrap_i64, wrapU64, tdivP, tmodP, fdivP, Int.reduceLT, Int.not_lt, Int.not_le, gt_iff_lt, ge_iff_le] at * <;> first | contradiction | omega)
                · exact h
              have hq10 : (decide (IntKind.i64.wrap (t % (15 : Int) + (1 : Int)) ≥ (16 : Int))) = false := by
                rcases Bool.eq_false_or_eq_true (decide (IntKind.i64.wrap (t % (15 : Int) + (1 : Int)) ≥ (16 : Int))) with h | h
                · exfalso; (simp only [decide_eq_true_eq, decide_eq_false_iff_not, beqI, beqIf, bneI, bneIf, beqB, beqBf, bneB, bneBf, Bool.false_eq_true, Bool.true_eq_false, true_iff, iff_true, false_iff, iff_false, true_and, and_true, false_and, and_false, true_or, or_true, false_or, or_false, ne_eq, eq_self, Bool.not_eq_true', Bool.not_eq_false', Bool.and_eq_true, Bool.or_eq_true, Bool.and_eq_false_iff, Bool.or_eq_false_iff, not_true_eq_false, not_false_eq_true, IntKind.wrap_i64, wrapU64, tdivP, tmodP, fdivP, Int.reduceLT, Int.not_lt, Int.not_le, gt_iff_lt, ge_iff_le] at * <;> first | contradiction | omega)
                · exact h
              have hq11 : ((IntKind.i64.wrap (t % (15 : Int) + (1 : Int))).tmod (2 : Int) == (0 : Int)) = true := by
                rcases Bool.eq_false_or_eq_true ((IntKind.i64.wrap (t % (15 : Int) + (1 : Int))).tmod (2 : Int) == (0 : Int)) with h | h
                · exact h
                · exfalso; (simp only [decide_eq_true_eq, decide_eq_false_iff_not, beqI, beqIf, bneI, bneIf, beqB, beqBf, bneB, bneBf, Bool.false_eq_true, Bool.true_eq_false, true_iff, iff_true, false_iff, iff_false, true_and, and_true, false_and, and_false, true_or, or_true, false_or, or_false, ne_eq, eq_self, Bool.not_eq_true', Bool.not_eq_false', Bool.and_eq_true, Bool.or_eq_true, Bool.and_eq_false_iff, Bool.or_eq_false_iff, not_true_eq_false, not_false_eq_true, IntKind.wrap_i64, wrapU64, tdivP, tmodP, fdivP, Int.reduceLT, Int.not_lt, Int.not_le, gt_iff_lt, ge_iff_le] at * <;> first | contradiction | omega)
              have e0 : lawFirst_c0 n t u = ((1 : Int) == (1 : Int)) := ((bif_f hq8 _ _).trans rfl); rw [e0]; exact lawFirst_p35 n t u hq0 hq1 hq2 hq3 hq4 hq5 hq6 hq7 hq12 hq8 hq9 hq10 hq11
          ·
            rcases Bool.eq_false_or_eq_true (n % (4 : Int) == (3 : Int)) with hq13 | hq13
            ·
              rcases Bool.eq_false_or_eq_true ((t % (15 : Int)).tmod (2 : Int) == (0 : Int)) with hq8 | hq8
              ·
                have hq9 : (decide (IntKind.i64.wrap (t % (15 : Int) + (1 : Int)) < (0 : Int))) = false := by
                  rcases Bool.eq_false_or_eq_true (decide (IntKind.i64.wrap (t % (15 : Int) + (1 : Int)) < (0 : Int))) with h | h
                  · exfalso; (simp only [decide_eq_true_eq, decide_eq_false_iff_not, beqI, beqIf, bneI, bneIf, beqB, beqBf, bneB, bneBf, Bool.false_eq_true, Bool.true_eq_false, true_iff, iff_true, false_iff, iff_false, true_and, and_true, false_and, and_false, true_or, or_true, false_or, or_false, ne_eq, eq_self, Bool.not_eq_true', Bool.not_eq_false', Bool.and_eq_true, Bool.or_eq_true, Bool.and_eq_false_iff, Bool.or_eq_false_iff, not_true_eq_false, not_false_eq_true, IntKind.wrap_i64, wrapU64, tdivP, tmodP, fdivP, Int.reduceLT, Int.not_lt, Int.not_le, gt_iff_lt, ge_iff_le] at * <;> first | contradiction | omega)
                  · exact h
                have hq10 : (decide (IntKind.i64.wrap (t % (15 : Int) + (1 : Int)) ≥ (16 : Int))) = false := by
                  rcases Bool.eq_false_or_eq_true (decide (IntKind.i64.wrap (t % (15 : Int) + (1 : Int)) ≥ (16 : Int))) with h | h
                  · exfalso; (simp only [decide_eq_true_eq, decide_eq_false_iff_not, beqI, beqIf, bneI, bneIf, beqB, beqBf, bneB, bneBf, Bool.false_eq_true, Bool.true_eq_false, true_iff, iff_true, false_iff, iff_false, true_and, and_true, false_and, and_false, true_or, or_true, false_or, or_false, ne_eq, eq_self, Bool.not_eq_true', Bool.not_eq_false', Bool.and_eq_true, Bool.or_eq_true, Bool.and_eq_false_iff, Bool.or_eq_false_iff, not_true_eq_false, not_false_eq_true, IntKind.wrap_i64, wrapU64, tdivP, tmodP, fdivP, Int.reduceLT, Int.not_lt, Int.not_le, gt_iff_lt, ge_iff_le] at * <;> first | contradiction | omega)
                  · exact h
                have hq11 : ((IntKind.i64.wrap (t % (15 : Int) + (1 : Int))).tmod (2 : Int) == (0 : Int)) = false := by
                  rcases Bool.eq_false_or_eq_true ((IntKind.i64.wrap (t % (15 : Int) + (1 : Int))).tmod (2 : Int) == (0 : Int)) with h | h
                  · exfalso; (simp only [decide_eq_true_eq, decide_eq_false_iff_not, beqI, beqIf, bneI, bneIf, beqB, beqBf, bneB, bneBf, Bool.false_eq_true, Bool.true_eq_false, true_iff, iff_true, false_iff, iff_false, true_and, and_true, false_and, and_false, true_or, or_true, false_or, or_false, ne_eq, eq_self, Bool.not_eq_true', Bool.not_eq_false', Bool.and_eq_true, Bool.or_eq_true, Bool.and_eq_false_iff, Bool.or_eq_false_iff, not_true_eq_false, not_false_eq_true, IntKind.wrap_i64, wrapU64, tdivP, tmodP, fdivP, Int.reduceLT, Int.not_lt, Int.not_le, gt_iff_lt, ge_iff_le] at * <;> first | contradiction | omega)
                  · exact h
                have e0 : lawFirst_c0 n t u = ((2 : Int) == (2 : Int)) := ((bif_t hq8 _ _).trans rfl); rw [e0]; exact lawFirst_p36 n t u hq0 hq1 hq2 hq3 hq4 hq5 hq6 hq7 hq12 hq13 hq8 hq9 hq10 hq11
              ·
                have hq9 : (decide (IntKind.i64.wrap (t % (15 : Int) + (1 : Int)) < (0 : Int))) = false := by
                  rcases Bool.eq_false_or_eq_true (decide (IntKind.i64.wrap (t % (15 : Int) + (1 : Int)) < (0 : Int))) with h | h
                  · exfalso; (simp only [decide_eq_true_eq, decide_eq_false_iff_not, beqI, beqIf, bneI, bneIf, beqB, beqBf, bneB, bneBf, Bool.false_eq_true, Bool.true_eq_false, true_iff, iff_true, false_iff, iff_false, true_and, and_true, false_and, and_false, true_or, or_true, false_or, or_false, ne_eq, eq_self, Bool.not_eq_true', Bool.not_eq_false', Bool.and_eq_true, Bool.or_eq_true, Bool.and_eq_false_iff, Bool.or_eq_false_iff, not_true_eq_false, not_false_eq_true, IntKind.wrap_i64, wrapU64, tdivP, tmodP, fdivP, Int.reduceLT, Int.not_lt, Int.not_le, gt_iff_lt, ge_iff_le] at * <;> first | contradiction | omega)
                  · exact h
                have hq10 : (decide (IntKind.i64.wrap (t % (15 : Int) + (1 : Int)) ≥ (16 : Int))) = false := by
                  rcases Bool.eq_false_or_eq_true (decide (IntKind.i64.wrap (t % (15 : Int) + (1 : Int)) ≥ (16 : Int))) with h | h
                  · exfalso; (simp only [decide_eq_true_eq, decide_eq_false_iff_not, beqI, beqIf, bneI, bneIf, beqB, beqBf, bneB, bneBf, Bool.false_eq_true, Bool.true_eq_false, true_iff, iff_true, false_iff, iff_false, true_and, and_true, false_and, and_false, true_or, or_true, false_or, or_false, ne_eq, eq_self, Bool.not_eq_true', Bool.not_eq_false', Bool.and_eq_true, Bool.or_eq_true, Bool.and_eq_false_iff, Bool.or_eq_false_iff, not_true_eq_false, not_false_eq_true, IntKind.wrap_i64, wrapU64, tdivP, tmodP, fdivP, Int.reduceLT, Int.not_lt, Int.not_le, gt_iff_lt, ge_iff_le] at * <;> first | contradiction | omega)
                  · exact h
                have hq11 : ((IntKind.i64.wrap (t % (15 : Int) + (1 : Int))).tmod (2 : Int) == (0 : Int)) = true := by
                  rcases Bool.eq_false_or_eq_true ((IntKind.i64.wrap (t % (15 : Int) + (1 : Int))).tmod (2 : Int) == (0 : Int)) with h | h
                  · exact h
                  · exfalso; (simp only [decide_eq_true_eq, decide_eq_false_iff_not, beqI, beqIf, bneI, bneIf, beqB, beqBf, bneB, bneBf, Bool.false_eq_true, Bool.true_eq_false, true_iff, iff_true, false_iff, iff_false, true_and, and_true, false_and, and_false, true_or, or_true, false_or, or_false, ne_eq, eq_self, Bool.not_eq_true', Bool.not_eq_false', Bool.and_eq_true, Bool.or_eq_true, Bool.and_eq_false_iff, Bool.or_eq_false_iff, not_true_eq_false, not_false_eq_true, IntKind.wrap_i64, wrapU64, tdivP, tmodP, fdivP, Int.reduceLT, Int.not_lt, Int.not_le, gt_iff_lt, ge_iff_le] at * <;> first | contradiction | omega)
                have e0 : lawFirst_c0 n t u = ((1 : Int) == (1 : Int)) := ((bif_f hq8 _ _).trans rfl); rw [e0]; exact lawFirst_p37 n t u hq0 hq1 hq2 hq3 hq4 hq5 hq6 hq7 hq12 hq13 hq8 hq9 hq10 hq11
            ·
              rcases Bool.eq_false_or_eq_true ((t % (15 : Int)).tmod (2 : Int) == (0 : Int)) with hq8 | hq8
              ·
                have hq9 : (decide (IntKind.i64.wrap (t % (15 : Int) + (1 : Int)) < (0 : Int))) = false := by
                  rcases Bool.eq_false_or_eq_true (decide (IntKind.i64.wrap (t % (15 : Int) + (1 : Int)) < (0 : Int))) with h | h
                  · exfalso; (simp only [decide_eq_true_eq, decide_eq_false_iff_not, beqI, beqIf, bneI, bneIf, beqB, beqBf, bneB, bneBf, Bool.false_eq_true, Bool.true_eq_false, true_iff, iff_true, false_iff, iff_false, true_and, and_true, false_and, and_false, true_or, or_true, false_or, or_false, ne_eq, eq_self, Bool.not_eq_true', Bool.not_eq_false', Bool.and_eq_true, Bool.or_eq_true, Bool.and_eq_false_iff, Bool.or_eq_false_iff, not_true_eq_false, not_false_eq_true, IntKind.wrap_i64, wrapU64, tdivP, tmodP, fdivP, Int.reduceLT, Int.not_lt, Int.not_le, gt_iff_lt, ge_iff_le] at * <;> first | contradiction | omega)
                  · exact h
                have hq10 : (decide (IntKind.i64.wrap (t % (15 : Int) + (1 : Int)) ≥ (16 : Int))) = false := by
                  rcases Bool.eq_false_or_eq_true (decide (IntKind.i64.wrap (t % (15 : Int) + (1 : Int)) ≥ (16 : Int))) with h | h
                  · exfalso; (simp only [decide_eq_true_eq, decide_eq_false_iff_not, beqI, beqIf, bneI, bneIf, beqB, beqBf, bneB, bneBf, Bool.false_eq_true, Bool.true_eq_false, true_iff, iff_true, false_iff, iff_false, true_and, and_true, false_and, and_false, true_or, or_true, false_or, or_false, ne_eq, eq_self, Bool.not_eq_true', Bool.not_eq_false', Bool.and_eq_true, Bool.or_eq_true, Bool.and_eq_false_iff, Bool.or_eq_false_iff, not_true_eq_false, not_false_eq_true, IntKind.wrap_i64, wrapU64, tdivP, tmodP, fdivP, Int.reduceLT, Int.not_lt, Int.not_le, gt_iff_lt, ge_iff_le] at * <;> first | contradiction | omega)
                  · exact h
                have hq11 : ((IntKind.i64.wrap (t % (15 : Int) + (1 : Int))).tmod (2 : Int) == (0 : Int)) = false := by
                  rcases Bool.eq_false_or_eq_true ((IntKind.i64.wrap (t % (15 : Int) + (1 : Int))).tmod (2 : Int) == (0 : Int)) with h | h
                  · exfalso; (simp only [decide_eq_true_eq, decide_eq_false_iff_not, beqI, beqIf, bneI, bneIf, beqB, beqBf, bneB, bneBf, Bool.false_eq_true, Bool.true_eq_false, true_iff, iff_true, false_iff, iff_false, true_and, and_true, false_and, and_false, true_or, or_true, false_or, or_false, ne_eq, eq_self, Bool.not_eq_true', Bool.not_eq_false', Bool.and_eq_true, Bool.or_eq_true, Bool.and_eq_false_iff, Bool.or_eq_false_iff, not_true_eq_false, not_false_eq_true, IntKind.wrap_i64, wrapU64, tdivP, tmodP, fdivP, Int.reduceLT, Int.not_lt, Int.not_le, gt_iff_lt, ge_iff_le] at * <;> first | contradiction | omega)
                  · exact h
                have e0 : lawFirst_c0 n t u = ((2 : Int) == (2 : Int)) := ((bif_t hq8 _ _).trans rfl); rw [e0]; exact lawFirst_p38 n t u hq0 hq1 hq2 hq3 hq4 hq5 hq6 hq7 hq12 hq13 hq8 hq9 hq10 hq11
              ·
                have hq9 : (decide (IntKind.i64.wrap (t % (15 : Int) + (1 : Int)) < (0 : Int))) = false := by
                  rcases Bool.eq_false_or_eq_true (decide (IntKind.i64.wrap (t % (15 : Int) + (1 : Int)) < (0 : Int))) with h | h
                  · exfalso; (simp only [decide_eq_true_eq, decide_eq_false_iff_not, beqI, beqIf, bneI, bneIf, beqB, beqBf, bneB, bneBf, Bool.false_eq_true, Bool.true_eq_false, true_iff, iff_true, false_iff, iff_false, true_and, and_true, false_and, and_false, true_or, or_true, false_or, or_false, ne_eq, eq_self, Bool.not_eq_true', Bool.not_eq_false', Bool.and_eq_true, Bool.or_eq_true, Bool.and_eq_false_iff, Bool.or_eq_false_iff, not_true_eq_false, not_false_eq_true, IntKind.wrap_i64, wrapU64, tdivP, tmodP, fdivP, Int.reduceLT, Int.not_lt, Int.not_le, gt_iff_lt, ge_iff_le] at * <;> first | contradiction | omega)
                  · exact h
                have hq10 : (decide (IntKind.i64.wrap (t % (15 : Int) + (1 : Int)) ≥ (16 : Int))) = false := by
                  rcases Bool.eq_false_or_eq_true (decide (IntKind.i64.wrap (t % (15 : Int) + (1 : Int)) ≥ (16 : Int))) with h | h
                  · exfalso; (simp only [decide_eq_true_eq, decide_eq_false_iff_not, beqI, beqIf, bneI, bneIf, beqB, beqBf, bneB, bneBf, Bool.false_eq_true, Bool.true_eq_false, true_iff, iff_true, false_iff, iff_false, true_and, and_true, false_and, and_false, true_or, or_true, false_or, or_false, ne_eq, eq_self, Bool.not_eq_true', Bool.not_eq_false', Bool.and_eq_true, Bool.or_eq_true, Bool.and_eq_false_iff, Bool.or_eq_false_iff, not_true_eq_false, not_false_eq_true, IntKind.wrap_i64, wrapU64, tdivP, tmodP, fdivP, Int.reduceLT, Int.not_lt, Int.not_le, gt_iff_lt, ge_iff_le] at * <;> first | contradiction | omega)
                  · exact h
                have hq11 : ((IntKind.i64.wrap (t % (15 : Int) + (1 : Int))).tmod (2 : Int) == (0 : Int)) = true := by
                  rcases Bool.eq_false_or_eq_true ((IntKind.i64.wrap (t % (15 : Int) + (1 : Int))).tmod (2 : Int) == (0 : Int)) with h | h
                  · exact h
                  · exfalso; (simp only [decide_eq_true_eq, decide_eq_false_iff_not, beqI, beqIf, bneI, bneIf, beqB, beqBf, bneB, bneBf, Bool.false_eq_true, Bool.true_eq_false, true_iff, iff_true, false_iff, iff_false, true_and, and_true, false_and, and_false, true_or, or_true, false_or, or_false, ne_eq, eq_self, Bool.not_eq_true', Bool.not_eq_false', Bool.and_eq_true, Bool.or_eq_true, Bool.and_eq_false_iff, Bool.or_eq_false_iff, not_true_eq_false, not_false_eq_true, IntKind.wrap_i64, wrapU64, tdivP, tmodP, fdivP, Int.reduceLT, Int.not_lt, Int.not_le, gt_iff_lt, ge_iff_le] at * <;> first | contradiction | omega)
                have e0 : lawFirst_c0 n t u = ((1 : Int) == (1 : Int)) := ((bif_f hq8 _ _).trans rfl); rw [e0]; exact lawFirst_p39 n t u hq0 hq1 hq2 hq3 hq4 hq5 hq6 hq7 hq12 hq13 hq8 hq9 hq10 hq11
      ·
        have hq3 : (decide (n % (4 : Int) ≥ (0 : Int))) = true := by
          rcases Bool.eq_false_or_eq_true (decide (n % (4 : Int) ≥ (0 : Int))) with h | h
          · exact h
          · exfalso; (simp only [decide_eq_true_eq, decide_eq_false_iff_not, beqI, beqIf, bneI, bneIf, beqB, beqBf, bneB, bneBf, Bool.false_eq_true, Bool.true_eq_false, true_iff, iff_true, false_iff, iff_false, true_and, and_true, false_and, and_false, true_or, or_true, false_or, or_false, ne_eq, eq_self, Bool.not_eq_true', Bool.not_eq_false', Bool.and_eq_true, Bool.or_eq_true, Bool.and_eq_false_iff, Bool.or_eq_false_iff, not_true_eq_false, not_false_eq_true, IntKind.wrap_i64, wrapU64, tdivP, tmodP, fdivP, Int.reduceLT, Int.not_lt, Int.not_le, gt_iff_lt, ge_iff_le] at * <;> first | contradiction | omega)
        have hq4 : (!decide (n % (4 : Int) ≤ (3 : Int))) = false := by
          rcases Bool.eq_false_or_eq_true (!decide (n % (4 : Int) ≤ (3 : Int))) with h | h
          · exfalso; (simp only [decide_eq_true_eq, decide_eq_false_iff_not, beqI, beqIf, bneI, bneIf, beqB, beqBf, bneB, bneBf, Bool.false_eq_true, Bool.true_eq_false, true_iff, iff_true, false_iff, iff_false, true_and, and_true, false_and, and_false, true_or, or_true, false_or, or_false, ne_eq, eq_self, Bool.not_eq_true', Bool.not_eq_false', Bool.and_eq_true, Bool.or_eq_true, Bool.and_eq_false_iff, Bool.or_eq_false_iff, not_true_eq_false, not_false_eq_true, IntKind.wrap_i64, wrapU64, tdivP, tmodP, fdivP, Int.reduceLT, Int.not_lt, Int.not_le, gt_iff_lt, ge_iff_le] at * <;> first | contradiction | omega)
          · exact h
        have hq5 : (decide (t % (15 : Int) < (0 : Int))) = false := by
          rcases Bool.eq_false_or_eq_true (decide (t % (15 : Int) < (0 : Int))) with h | h
          · exfalso; (simp only [decide_eq_true_eq, decide_eq_false_iff_not, beqI, beqIf, bneI, bneIf, beqB, beqBf, bneB, bneBf, Bool.false_eq_true, Bool.true_eq_false, true_iff, iff_true, false_iff, iff_false, true_and, and_true, false_and, and_false, true_or, or_true, false_or, or_false, ne_eq, eq_self, Bool.not_eq_true', Bool.not_eq_false', Bool.and_eq_true, Bool.or_eq_true, Bool.and_eq_false_iff, Bool.or_eq_false_iff, not_true_eq_false, not_false_eq_true, IntKind.wrap_i64, wrapU64, tdivP, tmodP, fdivP, Int.reduceLT, Int.not_lt, Int.not_le, gt_iff_lt, ge_iff_le] at * <;> first | contradiction | omega)
          · exact h
        have hq6 : (decide (t % (15 : Int) ≥ (16 : Int))) = false := by
          rcases Bool.eq_false_or_eq_true (decide (t % (15 : Int) ≥ (16 : Int))) with h | h
          · exfalso; (simp only [decide_eq_true_eq, decide_eq_false_iff_not, beqI, beqIf, bneI, bneIf, beqB, beqBf, bneB, bneBf, Bool.false_eq_true, Bool.true_eq_false, true_iff, iff_true, false_iff, iff_false, true_and, and_true, false_and, and_false, true_or, or_true, false_or, or_false, ne_eq, eq_self, Bool.not_eq_true', Bool.not_eq_false', Bool.and_eq_true, Bool.or_eq_true, Bool.and_eq_false_iff, Bool.or_eq_false_iff, not_true_eq_false, not_false_eq_true, IntKind.wrap_i64, wrapU64, tdivP, tmodP, fdivP, Int.reduceLT, Int.not_lt, Int.not_le, gt_iff_lt, ge_iff_le] at * <;> first | contradiction | omega)
          · exact h
        rcases Bool.eq_false_or_eq_true (n % (4 : Int) == (0 : Int)) with hq7 | hq7
        ·
          rcases Bool.eq_false_or_eq_true ((t % (15 : Int)).tmod (2 : Int) == (0 : Int)) with hq8 | hq8
          ·
            have hq9 : (decide (IntKind.i64.wrap (t % (15 : Int) + (1 : Int)) < (0 : Int))) = false := by
              rcases Bool.eq_false_or_eq_true (decide (IntKind.i64.wrap (t % (15 : Int) + (1 : Int)) < (0 : Int))) with h | h
              · exfalso; (simp only [decide_eq_true_eq, decide_eq_false_iff_not, beqI, beqIf, bneI, bneIf, beqB, beqBf, bneB, bneBf, Bool.false_eq_true, Bool.true_eq_false, true_iff, iff_true, false_iff, iff_false, true_and, and_true, false_and, and_false, true_or, or_true, false_or, or_false, ne_eq, eq_self, Bool.not_eq_true', Bool.not_eq_false', Bool.and_eq_true, Bool.or_eq_true, Bool.and_eq_false_iff, Bool.or_eq_false_iff, not_true_eq_false, not_false_eq_true, IntKind.wrap_i64, wrapU64, tdivP, tmodP, fdivP, Int.reduceLT, Int.not_lt, Int.not_le, gt_iff_lt, ge_iff_le] at * <;> first | contradiction | omega)
              · exact h
            have hq10 : (decide (IntKind.i64.wrap (t % (15 : Int) + (1 : Int)) ≥ (16 : Int))) = false := by
              rcases Bool.eq_false_or_eq_true (decide (IntKind.i64.wrap (t % (15 : Int) + (1 : Int)) ≥ (16 : Int))) with h | h
              · exfalso; (simp only [decide_eq_true_eq, decide_eq_false_iff_not, beqI, beqIf, bneI, bneIf, beqB, beqBf, bneB, bneBf, Bool.false_eq_true, Bool.true_eq_false, true_iff, iff_true, false_iff, iff_false, true_and, and_true, false_and, and_false, true_or, or_true, false_or, or_false, ne_eq, eq_self, Bool.not_eq_true', Bool.not_eq_false', Bool.and_eq_true, Bool.or_eq_true, Bool.and_eq_false_iff, Bool.or_eq_false_iff, not_true_eq_false, not_false_eq_true, IntKind.wrap_i64, wrapU64, tdivP, tmodP, fdivP, Int.reduceLT, Int.not_lt, Int.not_le, gt_iff_lt, ge_iff_le] at * <;> first | contradiction | omega)
              · exact h
            have hq11 : ((IntKind.i64.wrap (t % (15 : Int) + (1 : Int))).tmod (2 : Int) == (0 : Int)) = false := by
              rcases Bool.eq_false_or_eq_true ((IntKind.i64.wrap (t % (15 : Int) + (1 : Int))).tmod (2 : Int) == (0 : Int)) with h | h
              · exfalso; (simp only [decide_eq_true_eq, decide_eq_false_iff_not, beqI, beqIf, bneI, bneIf, beqB, beqBf, bneB, bneBf, Bool.false_eq_true, Bool.true_eq_false, true_iff, iff_true, false_iff, iff_false, true_and, and_true, false_and, and_false, true_or, or_true, false_or, or_false, ne_eq, eq_self, Bool.not_eq_true', Bool.not_eq_false', Bool.and_eq_true, Bool.or_eq_true, Bool.and_eq_false_iff, Bool.or_eq_false_iff, not_true_eq_false, not_false_eq_true, IntKind.wrap_i64, wrapU64, tdivP, tmodP, fdivP, Int.reduceLT, Int.not_lt, Int.not_le, gt_iff_lt, ge_iff_le] at * <;> first | contradiction | omega)
              · exact h
            have e0 : lawFirst_c0 n t u = ((2 : Int) == (2 : Int)) := ((bif_t hq8 _ _).trans rfl); rw [e0]; exact lawFirst_p40 n t u hq0 hq1 hq2 hq3 hq4 hq5 hq6 hq7 hq8 hq9 hq10 hq11
          ·
            have hq9 : (decide (IntKind.i64.wrap (t % (15 : Int) + (1 : Int)) < (0 : Int))) = false := by
              rcases Bool.eq_false_or_eq_true (decide (IntKind.i64.wrap (t % (15 : Int) + (1 : Int)) < (0 : Int))) with h | h
              · exfalso; (simp only [decide_eq_true_eq, decide_eq_false_iff_not, beqI, beqIf, bneI, bneIf, beqB, beqBf, bneB, bneBf, Bool.false_eq_true, Bool.true_eq_false, true_iff, iff_true, false_iff, iff_false, true_and, and_true, false_and, and_false, true_or, or_true, false_or, or_false, ne_eq, eq_self, Bool.not_eq_true', Bool.not_eq_false', Bool.and_eq_true, Bool.or_eq_true, Bool.and_eq_false_iff, Bool.or_eq_false_iff, not_true_eq_false, not_false_eq_true, IntKind.wrap_i64, wrapU64, tdivP, tmodP, fdivP, Int.reduceLT, Int.not_lt, Int.not_le, gt_iff_lt, ge_iff_le] at * <;> first | contradiction | omega)
              · exact h
            have hq10 : (decide (IntKind.i64.wrap (t % (15 : Int) + (1 : Int)) ≥ (16 : Int))) = false := by
              rcases Bool.eq_false_or_eq_true (decide (IntKind.i64.wrap (t % (15 : Int) + (1 : Int)) ≥ (16 : Int))) with h | h
              · exfalso; (simp only [decide_eq_true_eq, decide_eq_false_iff_not, beqI, beqIf, bneI, bneIf, beqB, beqBf, bneB, bneBf, Bool.false_eq_true, Bool.true_eq_false, true_iff, iff_true, false_iff, iff_false, true_and, and_true, false_and, and_false, true_or, or_true, false_or, or_false, ne_eq, eq_self, Bool.not_eq_true', Bool.not_eq_false', Bool.and_eq_true, Bool.or_eq_true, Bool.and_eq_false_iff, Bool.or_eq_false_iff, not_true_eq_false, not_false_eq_true, IntKind.wrap_i64, wrapU64, tdivP, tmodP, fdivP, Int.reduceLT, Int.not_lt, Int.not_le, gt_iff_lt, ge_iff_le] at * <;> first | contradiction | omega)
              · exact h
            have hq11 : ((IntKind.i64.wrap (t % (15 : Int) + (1 : Int))).tmod (2 : Int) == (0 : Int)) = true := by
              rcases Bool.eq_false_or_eq_true ((IntKind.i64.wrap (t % (15 : Int) + (1 : Int))).tmod (2 : Int) == (0 : Int)) with h | h
              · exact h
              · exfalso; (simp only [decide_eq_true_eq, decide_eq_false_iff_not, beqI, beqIf, bneI, bneIf, beqB, beqBf, bneB, bneBf, Bool.false_eq_true, Bool.true_eq_false, true_iff, iff_true, false_iff, iff_false, true_and, and_true, false_and, and_false, true_or, or_true, false_or, or_false, ne_eq, eq_self, Bool.not_eq_true', Bool.not_eq_false', Bool.and_eq_true, Bool.or_eq_true, Bool.and_eq_false_iff, Bool.or_eq_false_iff, not_true_eq_false, not_false_eq_true, IntKind.wrap_i64, wrapU64, tdivP, tmodP, fdivP, Int.reduceLT, Int.not_lt, Int.not_le, gt_iff_lt, ge_iff_le] at * <;> first | contradiction | omega)
            have e0 : lawFirst_c0 n t u = ((1 : Int) == (1 : Int)) := ((bif_f hq8 _ _).trans rfl); rw [e0]; exact lawFirst_p41 n t u hq0 hq1 hq2 hq3 hq4 hq5 hq6 hq7 hq8 hq9 hq10 hq11
        ·
          rcases Bool.eq_false_or_eq_true (n % (4 : Int) == (1 : Int)) with hq12 | hq12
          ·
            rcases Bool.eq_false_or_eq_true ((t % (15 : Int)).tmod (2 : Int) == (0 : Int)) with hq8 | hq8
            ·
              have hq9 : (decide (IntKind.i64.wrap (t % (15 : Int) + (1 : Int)) < (0 : Int))) = false := by
                rcases Bool.eq_false_or_eq_true (decide (IntKind.i64.wrap (t % (15 : Int) + (1 : Int)) < (0 : Int))) with h | h
                · exfalso; (simp only [decide_eq_true_eq, decide_eq_false_iff_not, beqI, beqIf, bneI, bneIf, beqB, beqBf, bneB, bneBf, Bool.false_eq_true, Bool.true_eq_false, true_iff, iff_true, false_iff, iff_false, true_and, and_true, false_and, and_false, true_or, or_true, false_or, or_false, ne_eq, eq_self, Bool.not_eq_true', Bool.not_eq_false', Bool.and_eq_true, Bool.or_eq_true, Bool.and_eq_false_iff, Bool.or_eq_false_iff, not_true_eq_false, not_false_eq_true, IntKind.wrap_i64, wrapU64, tdivP, tmodP, fdivP, Int.reduceLT, Int.not_lt, Int.not_le, gt_iff_lt, ge_iff_le] at * <;> first | contradiction | omega)
                · exact h
              have hq10 : (decide (IntKind.i64.wrap (t % (15 : Int) + (1 : Int)) ≥ (16 : Int))) = false := by
                rcases Bool.eq_false_or_eq_true (decide (IntKind.i64.wrap (t % (15 : Int) + (1 : Int)) ≥ (16 : Int))) with h | h
                · exfalso; (simp only [decide_eq_true_eq, decide_eq_false_iff_not, beqI, beqIf, bneI, bneIf, beqB, beqBf, bneB, bneBf, Bool.false_eq_true, Bool.true_eq_false, true_iff, iff_true, false_iff, iff_false, true_and, and_true, false_and, and_false, true_or, or_true, false_or, or_false, ne_eq, eq_self, Bool.not_eq_true', Bool.not_eq_false', Bool.and_eq_true, Bool.or_eq_true, Bool.and_eq_false_iff, Bool.or_eq_false_iff, not_true_eq_false, not_false_eq_true, IntKind.wrap_i64, wrapU64, tdivP, tmodP, fdivP, Int.reduceLT, Int.not_lt, Int.not_le, gt_iff_lt, ge_iff_le] at * <;> first | contradiction | omega)
                · exact h
              have hq11 : ((IntKind.i64.wrap (t % (15 : Int) + (1 : Int))).tmod (2 : Int) == (0 : Int)) = false := by
                rcases Bool.eq_false_or_eq_true ((IntKind.i64.wrap (t % (15 : Int) + (1 : Int))).tmod (2 : Int) == (0 : Int)) with h | h
                · exfalso; (simp only [decide_eq_true_eq, decide_eq_false_iff_not, beqI, beqIf, bneI, bneIf, beqB, beqBf, bneB, bneBf, Bool.false_eq_true, Bool.true_eq_false, true_iff, iff_true, false_iff, iff_false, true_and, and_true, false_and, and_false, true_or, or_true, false_or, or_false, ne_eq, eq_self, Bool.not_eq_true', Bool.not_eq_false', Bool.and_eq_true, Bool.or_eq_true, Bool.and_eq_false_iff, Bool.or_eq_false_iff, not_true_eq_false, not_false_eq_true, IntKind.wrap_i64, wrapU64, tdivP, tmodP, fdivP, Int.reduceLT, Int.not_lt, Int.not_le, gt_iff_lt, ge_iff_le] at * <;> first | contradiction | omega)
                · exact h
              have e0 : lawFirst_c0 n t u = ((2 : Int) == (2 : Int)) := ((bif_t hq8 _ _).trans rfl); rw [e0]; exact lawFirst_p42 n t u hq0 hq1 hq2 hq3 hq4 hq5 hq6 hq7 hq12 hq8 hq9 hq10 hq11
            ·
              have hq9 : (decide (IntKind.i64.wrap (t % (15 : Int) + (1 : Int)) < (0 : Int))) = false := by
                rcases Bool.eq_false_or_eq_true (decide (IntKind.i64.wrap (t % (15 : Int) + (1 : Int)) < (0 : Int))) with h | h
                · exfalso; (simp only [decide_eq_true_eq, decide_eq_false_iff_not, beqI, beqIf, bneI, bneIf, beqB, beqBf, bneB, bneBf, Bool.false_eq_true, Bool.true_eq_false, true_iff, iff_true, false_iff, iff_false, true_and, and_true, false_and, and_false, true_or, or_true, false_or, or_false, ne_eq, eq_self, Bool.not_eq_true', Bool.not_eq_false', Bool.and_eq_true, Bool.or_eq_true, Bool.and_eq_false_iff, Bool.or_eq_false_iff, not_true_eq_false, not_false_eq_true, IntKind.wrap_i64, wrapU64, tdivP, tmodP, fdivP, Int.reduceLT, Int.not_lt, Int.not_le, gt_iff_lt, ge_iff_le] at * <;> first | contradiction | omega)
                · exact h
              have hq10 : (decide (IntKind.i64.wrap (t % (15 : Int) + (1 : Int)) ≥ (16 : Int))) = false := by
                rcases Bool.eq_false_or_eq_true (decide (IntKind.i64.wrap (t % (15 : Int) + (1 : Int)) ≥ (16 : Int))) with h | h
                · exfalso; (simp only [decide_eq_true_eq, decide_eq_false_iff_not, beqI, beqIf, bneI, bneIf, beqB, beqBf, bneB, bneBf, Bool.false_eq_true, Bool.true_eq_false, true_iff, iff_true, false_iff, iff_false, true_and, and_true, false_and, and_false, true_or, or_true, false_or, or_false, ne_eq, eq_self, Bool.not_eq_true', Bool.not_eq_false', Bool.and_eq_true, Bool.or_eq_true, Bool.and_eq_false_iff, Bool.or_eq_false_iff, not_true_eq_false, not_false_eq_true, IntKind.wrap_i64, wrapU64, tdivP, tmodP, fdivP, Int.reduceLT, Int.not_lt, Int.not_le, gt_iff_lt, ge_iff_le] at * <;> first | contradiction | omega)
                · exact h
              have hq11 : ((IntKind.i64.wrap (t % (15 : Int) + (1 : Int))).tmod (2 : Int) == (0 : Int)) = true := by
                rcases Bool.eq_false_or_eq_true ((IntKind.i64.wrap (t % (15 : Int) + (1 : Int))).tmod (2 : Int) == (0 : Int)) with h | h
                · exact h
                · exfalso; (simp only [decide_eq_true_eq, decide_eq_false_iff_not, beqI, beqIf, bneI, bneIf, beqB, beqBf, bneB, bneBf, Bool.false_eq_true, Bool.true_eq_false, true_iff, iff_true, false_iff, iff_false, true_and, and_true, false_and, and_false, true_or, or_true, false_or, or_false, ne_eq, eq_self, Bool.not_eq_true', Bool.not_eq_false', Bool.and_eq_true, Bool.or_eq_true, Bool.and_eq_false_iff, Bool.or_eq_false_iff, not_true_eq_false, not_false_eq_true, IntKind.wrap_i64, wrapU64, tdivP, tmodP, fdivP, Int.reduceLT, Int.not_lt, Int.not_le, gt_iff_lt, ge_iff_le] at * <;> first | contradiction | omega)
              have e0 : lawFirst_c0 n t u = ((1 : Int) == (1 : Int)) := ((bif_f hq8 _ _).trans rfl); rw [e0]; exact lawFirst_p43 n t u hq0 hq1 hq2 hq3 hq4 hq5 hq6 hq7 hq12 hq8 hq9 hq10 hq11
          ·
            rcases Bool.eq_false_or_eq_true (n % (4 : Int) == (3 : Int)) with hq13 | hq13
            ·
              rcases Bool.eq_false_or_eq_true ((t % (15 : Int)).tmod (2 : Int) == (0 : Int)) with hq8 | hq8
              ·
                have hq9 : (decide (IntKind.i64.wrap (t % (15 : Int) + (1 : Int)) < (0 : Int))) = false := by
                  rcases Bool.eq_false_or_eq_true (decide (IntKind.i64.wrap (t % (15 : Int) + (1 : Int)) < (0 : Int))) with h | h
                  · exfalso; (simp only [decide_eq_true_eq, decide_eq_false_iff_not, beqI, beqIf, bneI, bneIf, beqB, beqBf, bneB, bneBf, Bool.false_eq_true, Bool.true_eq_false, true_iff, iff_true, false_iff, iff_false, true_and, and_true, false_and, and_false, true_or, or_true, false_or, or_false, ne_eq, eq_self, Bool.not_eq_true', Bool.not_eq_false', Bool.and_eq_true, Bool.or_eq_true, Bool.and_eq_false_iff, Bool.or_eq_false_iff, not_true_eq_false, not_false_eq_true, IntKind.wrap_i64, wrapU64, tdivP, tmodP, fdivP, Int.reduceLT, Int.not_lt, Int.not_le, gt_iff_lt, ge_iff_le] at * <;> first | contradiction | omega)
                  · exact h
                have hq10 : (decide (IntKind.i64.wrap (t % (15 : Int) + (1 : Int)) ≥ (16 : Int))) = false := by
                  rcases Bool.eq_false_or_eq_true (decide (IntKind.i64.wrap (t % (15 : Int) + (1 : Int)) ≥ (16 : Int))) with h | h
                  · exfalso; (simp only [decide_eq_true_eq, decide_eq_false_iff_not, beqI, beqIf, bneI, bneIf, beqB, beqBf, bneB, bneBf, Bool.false_eq_true, Bool.true_eq_false, true_iff, iff_true, false_iff, iff_false, true_and, and_true, false_and, and_false, true_or, or_true, false_or, or_false, ne_eq, eq_self, Bool.not_eq_true', Bool.not_eq_false', Bool.and_eq_true, Bool.or_eq_true, Bool.and_eq_false_iff, Bool.or_eq_false_iff, not_true_eq_false, not_false_eq_true, IntKind.wrap_i64, wrapU64, tdivP, tmodP, fdivP, Int.reduceLT, Int.not_lt, Int.not_le, gt_iff_lt, ge_iff_le] at * <;> first | contradiction | omega)
                  · exact h
                have hq11 : ((IntKind.i64.wrap (t % (15 : Int) + (1 : Int))).tmod (2 : Int) == (0 : Int)) = false := by
                  rcases Bool.eq_false_or_eq_true ((IntKind.i64.wrap (t % (15 : Int) + (1 : Int))).tmod (2 : Int) == (0 : Int)) with h | h
                  · exfalso; (simp only [decide_eq_true_eq, decide_eq_false_iff_not, beqI, beqIf, bneI, bneIf, beqB, beqBf, bneB, bneBf, Bool.false_eq_true, Bool.true_eq_false, true_iff, iff_true, false_iff, iff_false, true_and, and_true, false_and, and_false, true_or, or_true, false_or, or_false, ne_eq, eq_self, Bool.not_eq_true', Bool.not_eq_false', Bool.and_eq_true, Bool.or_eq_true, Bool.and_eq_false_iff, Bool.or_eq_false_iff, not_true_eq_false, not_false_eq_true, IntKind.wrap_i64, wrapU64, tdivP, tmodP, fdivP, Int.reduceLT, Int.not_lt, Int.not_le, gt_iff_lt, ge_iff_le] at * <;> first | contradiction | omega)
                  · exact h
                have e0 : lawFirst_c0 n t u = ((2 : Int) == (2 : Int)) := ((bif_t hq8 _ _).trans rfl); rw [e0]; exact lawFirst_p44 n t u hq0 hq1 hq2 hq3 hq4 hq5 hq6 hq7 hq12 hq13 hq8 hq9 hq10 hq11
              ·
                have hq9 : (decide (IntKind.i64.wrap (t % (15 : Int) + (1 : Int)) < (0 : Int))) = false := by
                  rcases Bool.eq_false_or_eq_true (decide (IntKind.i64.wrap (t % (15 : Int) + (1 : Int)) < (0 : Int))) with h | h
                  · exfalso; (simp only [decide_eq_true_eq, decide_eq_false_iff_not, beqI, beqIf, bneI, bneIf, beqB, beqBf, bneB, bneBf, Bool.false_eq_true, Bool.true_eq_false, true_iff, iff_true, false_iff, iff_false, true_and, and_true, false_and, and_false, true_or, or_true, false_or, or_false, ne_eq, eq_self, Bool.not_eq_true', Bool.not_eq_false', Bool.and_eq_true, Bool.or_eq_true, Bool.and_eq_false_iff, Bool.or_eq_false_iff, not_true_eq_false, not_false_eq_true, IntKind.wrap_i64, wrapU64, tdivP, tmodP, fdivP, Int.reduceLT, Int.not_lt, Int.not_le, gt_iff_lt, ge_iff_le] at * <;> first | contradiction | omega)
                  · exact h
                have hq10 : (decide (IntKind.i64.wrap (t % (15 : Int) + (1 : Int)) ≥ (16 : Int))) = false := by
                  rcases Bool.eq_false_or_eq_true (decide (IntKind.i64.wrap (t % (15 : Int) + (1 : Int)) ≥ (16 : Int))) with h | h
                  · exfalso; (simp only [decide_eq_true_eq, decide_eq_false_iff_not, beqI, beqIf, bneI, bneIf, beqB, beqBf, bneB, bneBf, Bool.false_eq_true, Bool.true_eq_false, true_iff, iff_true, false_iff, iff_false, true_and, and_true, false_and, and_false, true_or, or_true, false_or, or_false, ne_eq, eq_self, Bool.not_eq_true', Bool.not_eq_false', Bool.and_eq_true, Bool.or_eq_true, Bool.and_eq_false_iff, Bool.or_eq_false_iff, not_true_eq_false, not_false_eq_true, IntKind.wrap_i64, wrapU64, tdivP, tmodP, fdivP, Int.reduceLT, Int.not_lt, Int.not_le, gt_iff_lt, ge_iff_le] at * <;> first | contradiction | omega)
                  · exact h
                have hq11 : ((IntKind.i64.wrap (t % (15 : Int) + (1 : Int))).tmod (2 : Int) == (0 : Int)) = true := by
                  rcases Bool.eq_false_or_eq_true ((IntKind.i64.wrap (t % (15 : Int) + (1 : Int))).tmod (2 : Int) == (0 : Int)) with h | h
                  · exact h
                  · exfalso; (simp only [decide_eq_true_eq, decide_eq_false_iff_not, beqI, beqIf, bneI, bneIf, beqB, beqBf, bneB, bneBf, Bool.false_eq_true, Bool.true_eq_false, true_iff, iff_true, false_iff, iff_false, true_and, and_true, false_and, and_false, true_or, or_true, false_or, or_false, ne_eq, eq_self, Bool.not_eq_true', Bool.not_eq_false', Bool.and_eq_true, Bool.or_eq_true, Bool.and_eq_false_iff, Bool.or_eq_false_iff, not_true_eq_false, not_false_eq_true, IntKind.wrap_i64, wrapU64, tdivP, tmodP, fdivP, Int.reduceLT, Int.not_lt, Int.not_le, gt_iff_lt, ge_iff_le] at * <;> first | contradiction | omega)
                have e0 : lawFirst_c0 n t u = ((1 : Int) == (1 : Int)) := ((bif_f hq8 _ _).trans rfl); rw [e0]; exact lawFirst_p45 n t u hq0 hq1 hq2 hq3 hq4 hq5 hq6 hq7 hq12 hq13 hq8 hq9 hq10 hq11
            ·
              rcases Bool.eq_false_or_eq_true ((t % (15 : Int)).tmod (2 : Int) == (0 : Int)) with hq8 | hq8
              ·
                have hq9 : (decide (IntKind.i64.wrap (t % (15 : Int) + (1 : Int)) < (0 : Int))) = false := by
                  rcases Bool.eq_false_or_eq_true (decide (IntKind.i64.wrap (t % (15 : Int) + (1 : Int)) < (0 : Int))) with h | h
                  · exfalso; (simp only [decide_eq_true_eq, decide_eq_false_iff_not, beqI, beqIf, bneI, bneIf, beqB, beqBf, bneB, bneBf, Bool.false_eq_true, Bool.true_eq_false, true_iff, iff_true, false_iff, iff_false, true_and, and_true, false_and, and_false, true_or, or_true, false_or, or_false, ne_eq, eq_self, Bool.not_eq_true', Bool.not_eq_false', Bool.and_eq_true, Bool.or_eq_true, Bool.and_eq_false_iff, Bool.or_eq_false_iff, not_true_eq_false, not_false_eq_true, IntKind.wrap_i64, wrapU64, tdivP, tmodP, fdivP, Int.reduceLT, Int.not_lt, Int.not_le, gt_iff_lt, ge_iff_le] at * <;> first | contradiction | omega)
                  · exact h
                have hq10 : (decide (IntKind.i64.wrap (t % (15 : Int) + (1 : Int)) ≥ (16 : Int))) = false := by
                  rcases Bool.eq_false_or_eq_true (decide (IntKind.i64.wrap (t % (15 : Int) + (1 : Int)) ≥ (16 : Int))) with h | h
                  · exfalso; (simp only [decide_eq_true_eq, decide_eq_false_iff_not, beqI, beqIf, bneI, bneIf, beqB, beqBf, bneB, bneBf, Bool.false_eq_true, Bool.true_eq_false, true_iff, iff_true, false_iff, iff_false, true_and, and_true, false_and, and_false, true_or, or_true, false_or, or_false, ne_eq, eq_self, Bool.not_eq_true', Bool.not_eq_false', Bool.and_eq_true, Bool.or_eq_true, Bool.and_eq_false_iff, Bool.or_eq_false_iff, not_true_eq_false, not_false_eq_true, IntKind.wrap_i64, wrapU64, tdivP, tmodP, fdivP, Int.reduceLT, Int.not_lt, Int.not_le, gt_iff_lt, ge_iff_le] at * <;> first | contradiction | omega)
                  · exact h
                have hq11 : ((IntKind.i64.wrap (t % (15 : Int) + (1 : Int))).tmod (2 : Int) == (0 : Int)) = false := by
                  rcases Bool.eq_false_or_eq_true ((IntKind.i64.wrap (t % (15 : Int) + (1 : Int))).tmod (2 : Int) == (0 : Int)) with h | h
                  · exfalso; (simp only [decide_eq_true_eq, decide_eq_false_iff_not, beqI, beqIf, bneI, bneIf, beqB, beqBf, bneB, bneBf, Bool.false_eq_true, Bool.true_eq_false, true_iff, iff_true, false_iff, iff_false, true_and, and_true, false_and, and_false, true_or, or_true, false_or, or_false, ne_eq, eq_self, Bool.not_eq_true', Bool.not_eq_false', Bool.and_eq_true, Bool.or_eq_true, Bool.and_eq_false_iff, Bool.or_eq_false_iff, not_true_eq_false, not_false_eq_true, IntKind.wrap_i64, wrapU64, tdivP, tmodP, fdivP, Int.reduceLT, Int.not_lt, Int.not_le, gt_iff_lt, ge_iff_le] at * <;> first | contradiction | omega)
                  · exact h
                have e0 : lawFirst_c0 n t u = ((2 : Int) == (2 : Int)) := ((bif_t hq8 _ _).trans rfl); rw [e0]; exact lawFirst_p46 n t u hq0 hq1 hq2 hq3 hq4 hq5 hq6 hq7 hq12 hq13 hq8 hq9 hq10 hq11
              ·
                have hq9 : (decide (IntKind.i64.wrap (t % (15 : Int) + (1 : Int)) < (0 : Int))) = false := by
                  rcases Bool.eq_false_or_eq_true (decide (IntKind.i64.wrap (t % (15 : Int) + (1 : Int)) < (0 : Int))) with h | h
                  · exfalso; (simp only [decide_eq_true_eq, decide_eq_false_iff_not, beqI, beqIf, bneI, bneIf, beqB, beqBf, bneB, bneBf, Bool.false_eq_true, Bool.true_eq_false, true_iff, iff_true, false_iff, iff_false, true_and, and_true, false_and, and_false, true_or, or_true, false_or, or_false, ne_eq, eq_self, Bool.not_eq_true', Bool.not_eq_false', Bool.and_eq_true, Bool.or_eq_true, Bool.and_eq_false_iff, Bool.or_eq_false_iff, not_true_eq_false, not_false_eq_true, IntKind.wrap_i64, wrapU64, tdivP, tmodP, fdivP, Int.reduceLT, Int.not_lt, Int.not_le, gt_iff_lt, ge_iff_le] at * <;> first | contradiction | omega)
                  · exact h
                have hq10 : (decide (IntKind.i64.wrap (t % (15 : Int) + (1 : Int)) ≥ (16 : Int))) = false := by
                  rcases Bool.eq_false_or_eq_true (decide (IntKind.i64.wrap (t % (15 : Int) + (1 : Int)) ≥ (16 : Int))) with h | h
                  · exfalso; (simp only [decide_eq_true_eq, decide_eq_false_iff_not, beqI, beqIf, bneI, bneIf, beqB, beqBf, bneB, bneBf, Bool.false_eq_true, Bool.true_eq_false, true_iff, iff_true, false_iff, iff_false, true_and, and_true, false_and, and_false, true_or, or_true, false_or, or_false, ne_eq, eq_self, Bool.not_eq_true', Bool.not_eq_false', Bool.and_eq_true, Bool.or_eq_true, Bool.and_eq_false_iff, Bool.or_eq_false_iff, not_true_eq_false, not_false_eq_true, IntKind.wrap_i64, wrapU64, tdivP, tmodP, fdivP, Int.reduceLT, Int.not_lt, Int.not_le, gt_iff_lt, ge_iff_le] at * <;> first | contradiction | omega)
                  · exact h
                have hq11 : ((IntKind.i64.wrap (t % (15 : Int) + (1 : Int))).tmod (2 : Int) == (0 : Int)) = true := by
                  rcases Bool.eq_false_or_eq_true ((IntKind.i64.wrap (t % (15 : Int) + (1 : Int))).tmod (2 : Int) == (0 : Int)) with h | h
                  · exact h
                  · exfalso; (simp only [decide_eq_true_eq, decide_eq_false_iff_not, beqI, beqIf, bneI, bneIf, beqB, beqBf, bneB, bneBf, Bool.false_eq_true, Bool.true_eq_false, true_iff, iff_true, false_iff, iff_false, true_and, and_true, false_and, and_false, true_or, or_true, false_or, or_false, ne_eq, eq_self, Bool.not_eq_true', Bool.not_eq_false', Bool.and_eq_true, Bool.or_eq_true, Bool.and_eq_false_iff, Bool.or_eq_false_iff, not_true_eq_false, not_false_eq_true, IntKind.wrap_i64, wrapU64, tdivP, tmodP, fdivP, Int.reduceLT, Int.not_lt, Int.not_le, gt_iff_lt, ge_iff_le] at * <;> first | contradiction | omega)
                have e0 : lawFirst_c0 n t u = ((1 : Int) == (1 : Int)) := ((bif_f hq8 _ _).trans rfl); rw [e0]; exact lawFirst_p47 n t u hq0 hq1 hq2 hq3 hq4 hq5 hq6 hq7 hq12 hq13 hq8 hq9 hq10 hq11
    ·
      rcases Bool.eq_false_or_eq_true (((u % (8 : Int)).fdiv (4 : Int)).tmod (2 : Int) == (1 : Int)) with hq2 | hq2
      ·
        have hq3 : (decide (n % (4 : Int) ≥ (0 : Int))) = true := by
          rcases Bool.eq_false_or_eq_true (decide (n % (4 : Int) ≥ (0 : Int))) with h | h
          · exact h
          · exfalso; (simp only [decide_eq_true_eq, decide_eq_false_iff_not, beqI, beqIf, bneI, bneIf, beqB, beqBf, bneB, bneBf, Bool.false_eq_true, Bool.true_eq_false, true_iff, iff_true, false_iff, iff_false, true_and, and_true, false_and, and_false, true_or, or_true, false_or, or_false, ne_eq, eq_self, Bool.not_eq_true', Bool.not_eq_false', Bool.and_eq_true, Bool.or_eq_true, Bool.and_eq_false_iff, Bool.or_eq_false_iff, not_true_eq_false, not_false_eq_true, IntKind.wrap_i64, wrapU64, tdivP, tmodP, fdivP, Int.reduceLT, Int.not_lt, Int.not_le, gt_iff_lt, ge_iff_le] at * <;> first | contradiction | omega)
        have hq4 : (!decide (n % (4 : Int) ≤ (3 : Int))) = false := by
          rcases Bool.eq_false_or_eq_true (!decide (n % (4 : Int) ≤ (3 : Int))) with h | h
          · exfalso; (simp only [decide_eq_true_eq, decide_eq_false_iff_not, beqI, beqIf, bneI, bneIf, beqB, beqBf, bneB, bneBf, Bool.false_eq_true, Bool.true_eq_false, true_iff, iff_true, false_iff, iff_false, true_and, and_true, false_and, and_false, true_or, or_true, false_or, or_false, ne_eq, eq_self, Bool.not_eq_true', Bool.not_eq_false', Bool.and_eq_true, Bool.or_eq_true, Bool.and_eq_false_iff, Bool.or_eq_false_iff, not_true_eq_false, not_false_eq_true, IntKind.wrap_i64, wrapU64, tdivP, tmodP, fdivP, Int.reduceLT, Int.not_lt, Int.not_le, gt_iff_lt, ge_iff_le] at * <;> first | contradiction | omega)
          · exact h
        have hq5 : (decide (t % (15 : Int) < (0 : Int))) = false := by
          rcases Bool.eq_false_or_eq_true (decide (t % (15 : Int) < (0 : Int))) with h | h
          · exfalso; (simp only [decide_eq_true_eq, decide_eq_false_iff_not, beqI, beqIf, bneI, bneIf, beqB, beqBf, bneB, bneBf, Bool.false_eq_true, Bool.true_eq_false, true_iff, iff_true, false_iff, iff_false, true_and, and_true, false_and, and_false, true_or, or_true, false_or, or_false, ne_eq, eq_self, Bool.not_eq_true', Bool.not_eq_false', Bool.and_eq_true, Bool.or_eq_true, Bool.and_eq_false_iff, Bool.or_eq_false_iff, not_true_eq_false, not_false_eq_true, IntKind.wrap_i64, wrapU64, tdivP, tmodP, fdivP, Int.reduceLT, Int.not_lt, Int.not_le, gt_iff_lt, ge_iff_le] at * <;> first | contradiction | omega)
          · exact h
        have hq6 : (decide (t % (15 : Int) ≥ (16 : Int))) = false := by
          rcases Bool.eq_false_or_eq_true (decide (t % (15 : Int) ≥ (16 : Int))) with h | h
          · exfalso; (simp only [decide_eq_true_eq, decide_eq_false_iff_not, beqI, beqIf, bneI, bneIf, beqB, beqBf, bneB, bneBf, Bool.false_eq_true, Bool.true_eq_false, true_iff, iff_true, false_iff, iff_false, true_and, and_true, false_and, and_false, true_or, or_true, false_or, or_false, ne_eq, eq_self, Bool.not_eq_true', Bool.not_eq_false', Bool.and_eq_true, Bool.or_eq_true, Bool.and_eq_false_iff, Bool.or_eq_false_iff, not_true_eq_false, not_false_eq_true, IntKind.wrap_i64, wrapU64, tdivP, tmodP, fdivP, Int.reduceLT, Int.not_lt, Int.not_le, gt_iff_lt, ge_iff_le] at * <;> first | contradiction | omega)
          · exact h
        rcases Bool.eq_false_or_eq_true (n % (4 : Int) == (0 : Int)) with hq7 | hq7
        ·
          rcases Bool.eq_false_or_eq_true ((t % (15 : Int)).tmod (2 : Int) == (0 : Int)) with hq8 | hq8
          ·
            have hq9 : (decide (IntKind.i64.wrap (t % (15 : Int) + (1 : Int)) < (0 : Int))) = false := by
              rcases Bool.eq_false_or_eq_true (decide (IntKind.i64.wrap (t % (15 : Int) + (1 : Int)) < (0 : Int))) with h | h
              · exfalso; (simp only [decide_eq_true_eq, decide_eq_false_iff_not, beqI, beqIf, bneI, bneIf, beqB, beqBf, bneB, bneBf, Bool.false_eq_true, Bool.true_eq_false, true_iff, iff_true, false_iff, iff_false, true_and, and_true, false_and, and_false, true_or, or_true, false_or, or_false, ne_eq, eq_self, Bool.not_eq_true', Bool.not_eq_false', Bool.and_eq_true, Bool.or_eq_true, Bool.and_eq_false_iff, Bool.or_eq_false_iff, not_true_eq_false, not_false_eq_true, IntKind.wrap_i64, wrapU64, tdivP, tmodP, fdivP, Int.reduceLT, Int.not_lt, Int.not_le, gt_iff_lt, ge_iff_le] at * <;> first | contradiction | omega)
              · exact h
            have hq10 : (decide (IntKind.i64.wrap (t % (15 : Int) + (1 : Int)) ≥ (16 : Int))) = false := by
              rcases Bool.eq_false_or_eq_true (decide (IntKind.i64.wrap (t % (15 : Int) + (1 : Int)) ≥ (16 : Int))) with h | h
              · exfalso; (simp only [decide_eq_true_eq, decide_eq_false_iff_not, beqI, beqIf, bneI, bneIf, beqB, beqBf, bneB, bneBf, Bool.false_eq_true, Bool.true_eq_false, true_iff, iff_true, false_iff, iff_false, true_and, and_true, false_and, and_false, true_or, or_true, false_or, or_false, ne_eq, eq_self, Bool.not_eq_true', Bool.not_eq_false', Bool.and_eq_true, Bool.or_eq_true, Bool.and_eq_false_iff, Bool.or_eq_false_iff, not_true_eq_false, not_false_eq_true, IntKind.wrap_i64, wrapU64, tdivP, tmodP, fdivP, Int.reduceLT, Int.not_lt, Int.not_le, gt_iff_lt, ge_iff_le] at * <;> first | contradiction | omega)
              · exact h
            have hq11 : ((IntKind.i64.wrap (t % (15 : Int) + (1 : Int))).tmod (2 : Int) == (0 : Int)) = false := by
              rcases Bool.eq_false_or_eq_true ((IntKind.i64.wrap (t % (15 : Int) + (1 : Int))).tmod (2 : Int) == (0 : Int)) with h | h
              · exfalso; (simp only [decide_eq_true_eq, decide_eq_false_iff_not, beqI, beqIf, bneI, bneIf, beqB, beqBf, bneB, bneBf, Bool.false_eq_true, Bool.true_eq_false, true_iff, iff_true, false_iff, iff_false, true_and, and_true, false_and, and_false, true_or, or_true, false_or, or_false, ne_eq, eq_self, Bool.not_eq_true', Bool.not_eq_false', Bool.and_eq_true, Bool.or_eq_true, Bool.and_eq_false_iff, Bool.or_eq_false_iff, not_true_eq_false, not_false_eq_true, IntKind.wrap_i64, wrapU64, tdivP, tmodP, fdivP, Int.reduceLT, Int.not_lt, Int.not_le, gt_iff_lt, ge_iff_le] at * <;> first | contradiction | omega)
              · exact h
            have e0 : lawFirst_c0 n t u = ((2 : Int) == (2 : Int)) := ((bif_t hq8 _ _).trans rfl); rw [e0]; exact lawFirst_p48 n t u hq0 hq1 hq2 hq3 hq4 hq5 hq6 hq7 hq8 hq9 hq10 hq11
          ·
            have hq9 : (decide (IntKind.i64.wrap (t % (15 : Int) + (1 : Int)) < (0 : Int))) = false := by
              rcases Bool.eq_false_or_eq_true (decide (IntKind.i64.wrap (t % (15 : Int) + (1 : Int)) < (0 : Int))) with h | h
              · exfalso; (simp only [decide_eq_true_eq, decide_eq_false_iff_not, beqI, beqIf, bneI, bneIf, beqB, beqBf, bneB, bneBf, Bool.false_eq_true, Bool.true_eq_false, true_iff, iff_true, false_iff, iff_false, true_and, and_true, false_and, and_false, true_or, or_true, false_or, or_false, ne_eq, eq_self, Bool.not_eq_true', Bool.not_eq_false', Bool.and_eq_true, Bool.or_eq_true, Bool.and_eq_false_iff, Bool.or_eq_false_iff, not_true_eq_false, not_false_eq_true, IntKind.wrap_i64, wrapU64, tdivP, tmodP, fdivP, Int.reduceLT, Int.not_lt, Int.not_le, gt_iff_lt, ge_iff_le] at * <;> first | contradiction | omega)
              · exact h
            have hq10 : (decide (IntKind.i64.wrap (t % (15 : Int) + (1 : Int)) ≥ (16 : Int))) = false := by
              rcases Bool.eq_false_or_eq_true (decide (IntKind.i64.wrap (t % (15 : Int) + (1 : Int)) ≥ (16 : Int))) with h | h
              · exfalso; (simp only [decide_eq_true_eq, decide_eq_false_iff_not, beqI, beqIf, bneI, bneIf, beqB, beqBf, bneB, bneBf, Bool.false_eq_true, Bool.true_eq_false, true_iff, iff_true, false_iff, iff_false, true_and, and_true, false_and, and_false, true_or, or_true, false_or, or_false, ne_eq, eq_self, Bool.not_eq_true', Bool.not_eq_false', Bool.and_eq_true, Bool.or_eq_true, Bool.and_eq_false_iff, Bool.or_eq_false_iff, not_true_eq_false, not_false_eq_true, IntKind.wrap_i64, wrapU64, tdivP, tmodP, fdivP, Int.reduceLT, Int.not_lt, Int.not_le, gt_iff_lt, ge_iff_le] at * <;> first | contradiction | omega)
              · exact h
            have hq11 : ((IntKind.i64.wrap (t % (15 : Int) + (1 : Int))).tmod (2 : Int) == (0 : Int)) = true := by
              rcases Bool.eq_false_or_eq_true ((IntKind.i64.wrap (t % (15 : Int) + (1 : Int))).tmod (2 : Int) == (0 : Int)) with h | h
              · exact h
              · exfalso; (simp only [decide_eq_true_eq, decide_eq_false_iff_not, beqI, beqIf, bneI, bneIf, beqB, beqBf, bneB, bneBf, Bool.false_eq_true, Bool.true_eq_false, true_iff, iff_true, false_iff, iff_false, true_and, and_true, false_and, and_false, true_or, or_true, false_or, or_false, ne_eq, eq_self, Bool.not_eq_true', Bool.not_eq_false', Bool.and_eq_true, Bool.or_eq_true, Bool.and_eq_false_iff, Bool.or_eq_false_iff, not_true_eq_false, not_false_eq_true, IntKind.wrap_i64, wrapU64, tdivP, tmodP, fdivP, Int.reduceLT, Int.not_lt, Int.not_le, gt_iff_lt, ge_iff_le] at * <;> first | contradiction | omega)
            have e0 : lawFirst_c0 n t u = ((1 : Int) == (1 : Int)) := ((bif_f hq8 _ _).trans rfl); rw [e0]; exact lawFirst_p49 n t u hq0 hq1 hq2 hq3 hq4 hq5 hq6 hq7 hq8 hq9 hq10 hq11
        ·
          rcases Bool.eq_false_or_eq_true (n % (4 : Int) == (1 : Int)) with hq12 | hq12
          ·
            rcases Bool.eq_false_or_eq_true ((t % (15 : Int)).tmod (2 : Int) == (0 : Int)) with hq8 | hq8
            ·
              have hq9 : (decide (IntKind.i64.wrap (t % (15 : Int) + (1 : Int)) < (0 : Int))) = false := by
                rcases Bool.eq_false_or_eq_true (decide (IntKind.i64.wrap (t % (15 : Int) + (1 : Int)) < (0 : Int))) with h | h
                · exfalso; (simp only [decide_eq_true_eq, decide_eq_false_iff_not, beqI, beqIf, bneI, bneIf, beqB, beqBf, bneB, bneBf, Bool.false_eq_true, Bool.true_eq_false, true_iff, iff_true, false_iff, iff_false, true_and, and_true, false_and, and_false, true_or, or_true, false_or, or_false, ne_eq, eq_self, Bool.not_eq_true', Bool.not_eq_false', Bool.and_eq_true, Bool.or_eq_true, Bool.and_eq_false_iff, Bool.or_eq_false_iff, not_true_eq_false, not_false_eq_true, IntKind.wrap_i64, wrapU64, tdivP, tmodP, fdivP, Int.reduceLT, Int.not_lt, Int.not_le, gt_iff_lt, ge_iff_le] at * <;> first | contradiction | omega)
                · exact h
              have hq10 : (decide (IntKind.i64.wrap (t % (15 : Int) + (1 : Int)) ≥ (16 : Int))) = false := by
                rcases Bool.eq_false_or_eq_true (decide (IntKind.i64.wrap (t % (15 : Int) + (1 : Int)) ≥ (16 : Int))) with h | h
                · exfalso; (simp only [decide_eq_true_eq, decide_eq_false_iff_not, beqI, beqIf, bneI, bneIf, beqB, beqBf, bneB, bneBf, Bool.false_eq_true, Bool.true_eq_false, true_iff, iff_true, false_iff, iff_false, true_and, and_true, false_and, and_false, true_or, or_true, false_or, or_false, ne_eq, eq_self, Bool.not_eq_true', Bool.not_eq_false', Bool.and_eq_true, Bool.or_eq_true, Bool.and_eq_false_iff, Bool.or_eq_false_iff, not_true_eq_false, not_false_eq_true, IntKind.wrap_i64, wrapU64, tdivP, tmodP, fdivP, Int.reduceLT, Int.not_lt, Int.not_le, gt_iff_lt, ge_iff_le] at * <;> first | contradiction | omega)
                · exact h
              have hq11 : ((IntKind.i64.wrap (t % (15 : Int) + (1 : Int))).tmod (2 : Int) == (0 : Int)) = false := by
                rcases Bool.eq_false_or_eq_true ((IntKind.i64.wrap (t % (15 : Int) + (1 : Int))).tmod (2 : Int) == (0 : Int)) with h | h
                · exfalso; (simp only [decide_eq_true_eq, decide_eq_false_iff_not, beqI, beqIf, bneI, bneIf, beqB, beqBf, bneB, bneBf, Bool.false_eq_true, Bool.true_eq_false, true_iff, iff_true, false_iff, iff_false, true_and, and_true, false_and, and_false, true_or, or_true, false_or, or_false, ne_eq, eq_self, Bool.not_eq_true', Bool.not_eq_false', Bool.and_eq_true, Bool.or_eq_true, Bool.and_eq_false_iff, Bool.or_eq_false_iff, not_true_eq_false, not_false_eq_true, IntKind.wrap_i64, wrapU64, tdivP, tmodP, fdivP, Int.reduceLT, Int.not_lt, Int.not_le, gt_iff_lt, ge_iff_le] at * <;> first | contradiction | omega)
                · exact h
              have e0 : lawFirst_c0 n t u = ((2 : Int) == (2 : Int)) := ((bif_t hq8 _ _).trans rfl); rw [e0]; exact lawFirst_p50 n t u hq0 hq1 hq2 hq3 hq4 hq5 hq6 hq7 hq12 hq8 hq9 hq10 hq11
            ·
              have hq9 : (decide (IntKind.i64.wrap (t % (15 : Int) + (1 : Int)) < (0 : Int))) = false := by
                rcases Bool.eq_false_or_eq_true (decide (IntKind.i64.wrap (t % (15 : Int) + (1 : Int)) < (0 : Int))) with h | h
                · exfalso; (simp only [decide_eq_true_eq, decide_eq_false_iff_not, beqI, beqIf, bneI, bneIf, beqB, beqBf, bneB, bneBf, Bool.false_eq_true, Bool.true_eq_false, true_iff, iff_true, false_iff, iff_false, true_and, and_true, false_and, and_false, true_or, or_true, false_or, or_false, ne_eq, eq_self, Bool.not_eq_true', Bool.not_eq_false', Bool.and_eq_true, Bool.or_eq_true, Bool.and_eq_false_iff, Bool.or_eq_false_iff, not_true_eq_false, not_false_eq_true, IntKind.wrap_i64, wrapU64, tdivP, tmodP, fdivP, Int.reduceLT, Int.not_lt, Int.not_le, gt_iff_lt, ge_iff_le] at * <;> first | contradiction | omega)
                · exact h
              have hq10 : (decide (IntKind.i64.wrap (t % (15 : Int) + (1 : Int)) ≥ (16 : Int))) = false := by
                rcases Bool.eq_false_or_eq_true (decide (IntKind.i64.wrap (t % (15 : Int) + (1 : Int)) ≥ (16 : Int))) with h | h
                · exfalso; (simp only [decide_eq_true_eq, decide_eq_false_iff_not, beqI, beqIf, bneI, bneIf, beqB, beqBf, bneB, bneBf, Bool.false_eq_true, Bool.true_eq_false, true_iff, iff_true, false_iff, iff_false, true_and, and_true, false_and, and_false, true_or, or_true, false_or, or_false, ne_eq, eq_self, Bool.not_eq_true', Bool.not_eq_false', Bool.and_eq_true, Bool.or_eq_true, Bool.and_eq_false_iff, Bool.or_eq_false_iff, not_true_eq_false, not_false_eq_true, IntKind.wrap_i64, wrapU64, tdivP, tmodP, fdivP, Int.reduceLT, Int.not_lt, Int.not_le, gt_iff_lt, ge_iff_le] at * <;> first | contradiction | omega)
                · exact h
              have hq11 : ((IntKind.i64.wrap (t % (15 : Int) + (1 : Int))).tmod (2 : Int) == (0 : Int)) = true := by
                rcases Bool.eq_false_or_eq_true ((IntKind.i64.wrap (t % (15 : Int) + (1 : Int))).tmod (2 : Int) == (0 : Int)) with h | h
                · exact h
                · exfalso; (simp only [decide_eq_true_eq, decide_eq_false_iff_not, beqI, beqIf, bneI, bneIf, beqB, beqBf, bneB, bneBf, Bool.false_eq_true, Bool.true_eq_false, true_iff, iff_true, false_iff, iff_false, true_and, and_true, false_and, and_false, true_or, or_true, false_or, or_false, ne_eq, eq_self, Bool.not_eq_true', Bool.not_eq_false', Bool.and_eq_true, Bool.or_eq_true, Bool.and_eq_false_iff, Bool.or_eq_false_iff, not_true_eq_false, not_false_eq_true, IntKind.wrap_i64, wrapU64, tdivP, tmodP, fdivP, Int.reduceLT, Int.not_lt, Int.not_le, gt_iff_lt, ge_iff_le] at * <;> first | contradiction | omega)
              have e0 : lawFirst_c0 n t u = ((1 : Int) == (1 : Int)) := ((bif_f hq8 _ _).trans rfl); rw [e0]; exact lawFirst_p51 n t u hq0 hq1 hq2 hq3 hq4 hq5 hq6 hq7 hq12 hq8 hq9 hq10 hq11
          ·
            rcases Bool.eq_false_or_eq_true (n % (4 : Int) == (3 : Int)) with hq13 | hq13
            ·
              rcases Bool.eq_false_or_eq_true ((t % (15 : Int)).tmod (2 : Int) == (0 : Int)) with hq8 | hq8
              ·
                have hq9 : (decide (IntKind.i64.wrap (t % (15 : Int) + (1 : Int)) < (0 : Int))) = false := by
                  rcases Bool.eq_false_or_eq_true (decide (IntKind.i64.wrap (t % (15 : Int) + (1 : Int)) < (0 : Int))) with h | h
                  · exfalso; (simp only [decide_eq_true_eq, decide_eq_false_iff_not, beqI, beqIf, bneI, bneIf, beqB, beqBf, bneB, bneBf, Bool.false_eq_true, Bool.true_eq_false, true_iff, iff_true, false_iff, iff_false, true_and, and_true, false_and, and_false, true_or, or_true, false_or, or_false, ne_eq, eq_self, Bool.not_eq_true', Bool.not_eq_false', Bool.and_eq_true, Bool.or_eq_true, Bool.and_eq_false_iff, Bool.or_eq_false_iff, not_true_eq_false, not_false_eq_true, IntKind.wrap_i64, wrapU64, tdivP, tmodP, fdivP, Int.reduceLT, Int.not_lt, Int.not_le, gt_iff_lt, ge_iff_le] at * <;> first | contradiction | omega)
                  · exact h
                have hq10 : (decide (IntKind.i64.wrap (t % (15 : Int) + (1 : Int)) ≥ (16 : Int))) = false := by
                  rcases Bool.eq_false_or_eq_true (decide (IntKind.i64.wrap (t % (15 : Int) + (1 : Int)) ≥ (16 : Int))) with h | h
                  · exfalso; (simp only [decide_eq_true_eq, decide_eq_false_iff_not, beqI, beqIf, bneI, bneIf, beqB, beqBf, bneB, bneBf, Bool.false_eq_true, Bool.true_eq_false, true_iff, iff_true, false_iff, iff_false, true_and, and_true, false_and, and_false, true_or, or_true, false_or, or_false, ne_eq, eq_self, Bool.not_eq_true', Bool.not_eq_false', Bool.and_eq_true, Bool.or_eq_true, Bool.and_eq_false_iff, Bool.or_eq_false_iff, not_true_eq_false, not_false_eq_true, IntKind.wrap_i64, wrapU64, tdivP, tmodP, fdivP, Int.reduceLT, Int.not_lt, Int.not_le, gt_iff_lt, ge_iff_le] at * <;> first | contradiction | omega)
                  · exact h
                have hq11 : ((IntKind.i64.wrap (t % (15 : Int) + (1 : Int))).tmod (2 : Int) == (0 : Int)) = false := by
                  rcases Bool.eq_false_or_eq_true ((IntKind.i64.wrap (t % (15 : Int) + (1 : Int))).tmod (2 : Int) == (0 : Int)) with h | h
                  · exfalso; (simp only [decide_eq_true_eq, decide_eq_false_iff_not, beqI, beqIf, bneI, bneIf, beqB, beqBf, bneB, bneBf, Bool.false_eq_true, Bool.true_eq_false, true_iff, iff_true, false_iff, iff_false, true_and, and_true, false_and, and_false, true_or, or_true, false_or, or_false, ne_eq, eq_self, Bool.not_eq_true', Bool.not_eq_false', Bool.and_eq_true, Bool.or_eq_true, Bool.and_eq_false_iff, Bool.or_eq_false_iff, not_true_eq_false, not_false_eq_true, IntKind.wrap_i64, wrapU64, tdivP, tmodP, fdivP, Int.reduceLT, Int.not_lt, Int.not_le, gt_iff_lt, ge_iff_le] at * <;> first | contradiction | omega)
                  · exact h
                have e0 : lawFirst_c0 n t u = ((2 : Int) == (2 : Int)) := ((bif_t hq8 _ _).trans rfl); rw [e0]; exact lawFirst_p52 n t u hq0 hq1 hq2 hq3 hq4 hq5 hq6 hq7 hq12 hq13 hq8 hq9 hq10 hq11
              ·
                have hq9 : (decide (IntKind.i64.wrap (t % (15 : Int) + (1 : Int)) < (0 : Int))) = false := by
                  rcases Bool.eq_false_or_eq_true (decide (IntKind.i64.wrap (t % (15 : Int) + (1 : Int)) < (0 : Int))) with h | h
                  · exfalso; (simp only [decide_eq_true_eq, decide_eq_false_iff_not, beqI, beqIf, bneI, bneIf, beqB, beqBf, bneB, bneBf, Bool.false_eq_true, Bool.true_eq_false, true_iff, iff_true, false_iff, iff_false, true_and, and_true, false_and, and_false, true_or, or_true, false_or, or_false, ne_eq, eq_self, Bool.not_eq_true', Bool.not_eq_false', Bool.and_eq_true, Bool.or_eq_true, Bool.and_eq_false_iff, Bool.or_eq_false_iff, not_true_eq_false, not_false_eq_true, IntKind.wrap_i64, wrapU64, tdivP, tmodP, fdivP, Int.reduceLT, Int.not_lt, Int.not_le, gt_iff_lt, ge_iff_le] at * <;> first | contradiction | omega)
                  · exact h
                have hq10 : (decide (IntKind.i64.wrap (t % (15 : Int) + (1 : Int)) ≥ (16 : Int))) = false := by
                  rcases Bool.eq_false_or_eq_true (decide (IntKind.i64.wrap (t % (15 : Int) + (1 : Int)) ≥ (16 : Int))) with h | h
                  · exfalso; (simp only [decide_eq_true_eq, decide_eq_false_iff_not, beqI, beqIf, bneI, bneIf, beqB, beqBf, bneB, bneBf, Bool.false_eq_true, Bool.true_eq_false, true_iff, iff_true, false_iff, iff_false, true_and, and_true, false_and, and_false, true_or, or_true, false_or, or_false, ne_eq, eq_self, Bool.not_eq_true', Bool.not_eq_false', Bool.and_eq_true, Bool.or_eq_true, Bool.and_eq_false_iff, Bool.or_eq_false_iff, not_true_eq_false, not_false_eq_true, IntKind.wrap_i64, wrapU64, tdivP, tmodP, fdivP, Int.reduceLT, Int.not_lt, Int.not_le, gt_iff_lt, ge_iff_le] at * <;> first | contradiction | omega)
                  · exact h
                have hq11 : ((IntKind.i64.wrap (t % (15 : Int) + (1 : Int))).tmod (2 : Int) == (0 : Int)) = true := by
                  rcases Bool.eq_false_or_eq_true ((IntKind.i64.wrap (t % (15 : Int) + (1 : Int))).tmod (2 : Int) == (0 : Int)) with h | h
                  · exact h
                  · exfalso; (simp only [decide_eq_true_eq, decide_eq_false_iff_not, beqI, beqIf, bneI, bneIf, beqB, beqBf, bneB, bneBf, Bool.false_eq_true, Bool.true_eq_false, true_iff, iff_true, false_iff, iff_false, true_and, and_true, false_and, and_false, true_or, or_true, false_or, or_false, ne_eq, eq_self, Bool.not_eq_true', Bool.not_eq_false', Bool.and_eq_true, Bool.or_eq_true, Bool.and_eq_false_iff, Bool.or_eq_false_iff, not_true_eq_false, not_false_eq_true, IntKind.wrap_i64, wrapU64, tdivP, tmodP, fdivP, Int.reduceLT, Int.not_lt, Int.not_le, gt_iff_lt, ge_iff_le] at * <;> first | contradiction | omega)
                have e0 : lawFirst_c0 n t u = ((1 : Int) == (1 : Int)) := ((bif_f hq8 _ _).trans rfl); rw [e0]; exact lawFirst_p53 n t u hq0 hq1 hq2 hq3 hq4 hq5 hq6 hq7 hq12 hq13 hq8 hq9 hq10 hq11
            ·
              rcases Bool.eq_false_or_eq_true ((t % (15 : Int)).tmod (2 : Int) == (0 : Int)) with hq8 | hq8
              ·
                have hq9 : (decide (IntKind.i64.wrap (t % (15 : Int) + (1 : Int)) < (0 : Int))) = false := by
                  rcases Bool.eq_false_or_eq_true (decide (IntKind.i64.wrap (t % (15 : Int) + (1 : Int)) < (0 : Int))) with h | h
                  · exfalso; (simp only [decide_eq_true_eq, decide_eq_false_iff_not, beqI, beqIf, bneI, bneIf, beqB, beqBf, bneB, bneBf, Bool.false_eq_true, Bool.true_eq_false, true_iff, iff_true, false_iff, iff_false, true_and, and_true, false_and, and_false, true_or, or_true, false_or, or_false, ne_eq, eq_self, Bool.not_eq_true', Bool.not_eq_false', Bool.and_eq_true, Bool.or_eq_true, Bool.and_eq_false_iff, Bool.or_eq_false_iff, not_true_eq_false, not_false_eq_true, IntKind.wrap_i64, wrapU64, tdivP, tmodP, fdivP, Int.reduceLT, Int.not_lt, Int.not_le, gt_iff_lt, ge_iff_le] at * <;> first | contradiction | omega)
                  · exact h
                have hq10 : (decide (IntKind.i64.wrap (t % (15 : Int) + (1 : Int)) ≥ (16 : Int))) = false := by
                  rcases Bool.eq_false_or_eq_true (decide (IntKind.i64.wrap (t % (15 : Int) + (1 : Int)) ≥ (16 : Int))) with h | h
                  · exfalso; (simp only [decide_eq_true_eq, decide_eq_false_iff_not, beqI, beqIf, bneI, bneIf, beqB, beqBf, bneB, bneBf, Bool.false_eq_true, Bool.true_eq_false, true_iff, iff_true, false_iff, iff_false, true_and, and_true, false_and, and_false, true_or, or_true, false_or, or_false, ne_eq, eq_self, Bool.not_eq_true', Bool.not_eq_false', Bool.and_eq_true, Bool.or_eq_true, Bool.and_eq_false_iff, Bool.or_eq_false_iff, not_true_eq_false, not_false_eq_true, IntKind.wrap_i64, wrapU64, tdivP, tmodP, fdivP, Int.reduceLT, Int.not_lt, Int.not_le, gt_iff_lt, ge_iff_le] at * <;> first | contradiction | omega)
                  · exact h
                have hq11 : ((IntKind.i64.wrap (t % (15 : Int) + (1 : Int))).tmod (2 : Int) == (0 : Int)) = false := by
                  rcases Bool.eq_false_or_eq_true ((IntKind.i64.wrap (t % (15 : Int) + (1 : Int))).tmod (2 : Int) == (0 : Int)) with h | h
                  · exfalso; (simp only [decide_eq_true_eq, decide_eq_false_iff_not, beqI, beqIf, bneI, bneIf, beqB, beqBf, bneB, bneBf, Bool.false_eq_true, Bool.true_eq_false, true_iff, iff_true, false_iff, iff_false, true_and, and_true, false_and, and_false, true_or, or_true, false_or, or_false, ne_eq, eq_self, Bool.not_eq_true', Bool.not_eq_false', Bool.and_eq_true, Bool.or_eq_true, Bool.and_eq_false_iff, Bool.or_eq_false_iff, not_true_eq_false, not_false_eq_true, IntKind.wrap_i64, wrapU64, tdivP, tmodP, fdivP, Int.reduceLT, Int.not_lt, Int.not_le, gt_iff_lt, ge_iff_le] at * <;> first | contradiction | omega)
                  · exact h
                have e0 : lawFirst_c0 n t u = ((2 : Int) == (2 : Int)) := ((bif_t hq8 _ _).trans rfl); rw [e0]; exact lawFirst_p54 n t u hq0 hq1 hq2 hq3 hq4 hq5 hq6 hq7 hq12 hq13 hq8 hq9 hq10 hq11
              ·
                have hq9 : (decide (IntKind.i64.wrap (t % (15 : Int) + (1 : Int)) < (0 : Int))) = false := by
                  rcases Bool.eq_false_or_eq_true (decide (IntKind.i64.wrap (t % (15 : Int) + (1 : Int)) < (0 : Int))) with h | h
                  · exfalso; (simp only [decide_eq_true_eq, decide_eq_false_iff_not, beqI, beqIf, bneI, bneIf, beqB, beqBf, bneB, bneBf, Bool.false_eq_true, Bool.true_eq_false, true_iff, iff_true, false_iff, iff_false, true_and, and_true, false_and, and_false, true_or, or_true, false_or, or_false, ne_eq, eq_self, Bool.not_eq_true', Bool.not_eq_false', Bool.and_eq_true, Bool.or_eq_true, Bool.and_eq_false_iff, Bool.or_eq_false_iff, not_true_eq_false, not_false_eq_true, IntKind.wrap_i64, wrapU64, tdivP, tmodP, fdivP, Int.reduceLT, Int.not_lt, Int.not_le, gt_iff_lt, ge_iff_le] at * <;> first | contradiction | omega)
                  · exact h
                have hq10 : (decide (IntKind.i64.wrap (t % (15 : Int) + (1 : Int)) ≥ (16 : Int))) = false := by
                  rcases Bool.eq_false_or_eq_true (decide (IntKind.i64.wrap (t % (15 : Int) + (1 : Int)) ≥ (16 : Int))) with h | h
                  · exfalso; (simp only [decide_eq_true_eq, decide_eq_false_iff_not, beqI, beqIf, bneI, bneIf, beqB, beqBf, bneB, bneBf, Bool.false_eq_true, Bool.true_eq_false, true_iff, iff_true, false_iff, iff_false, true_and, and_true, false_and, and_false, true_or, or_true, false_or, or_false, ne_eq, eq_self, Bool.not_eq_true', Bool.not_eq_false', Bool.and_eq_true, Bool.or_eq_true, Bool.and_eq_false_iff, Bool.or_eq_false_iff, not_true_eq_false, not_false_eq_true, IntKind.wrap_i64, wrapU64, tdivP, tmodP, fdivP, Int.reduceLT, Int.not_lt, Int.not_le, gt_iff_lt, ge_iff_le] at * <;> first | contradiction | omega)
                  · exact h
                have hq11 : ((IntKind.i64.wrap (t % (15 : Int) + (1 : Int))).tmod (2 : Int) == (0 : Int)) = true := by
                  rcases Bool.eq_false_or_eq_true ((IntKind.i64.wrap (t % (15 : Int) + (1 : Int))).tmod (2 : Int) == (0 : Int)) with h | h
                  · exact h
                  · exfalso; (simp only [decide_eq_true_eq, decide_eq_false_iff_not, beqI, beqIf, bneI, bneIf, beqB, beqBf, bneB, bneBf, Bool.false_eq_true, Bool.true_eq_false, true_iff, iff_true, false_iff, iff_false, true_and, and_true, false_and, and_false, true_or, or_true, false_or, or_false, ne_eq, eq_self, Bool.not_eq_true', Bool.not_eq_false', Bool.and_eq_true, Bool.or_eq_true, Bool.and_eq_false_iff, Bool.or_eq_false_iff, not_true_eq_false, not_false_eq_true, IntKind.wrap_i64, wrapU64, tdivP, tmodP, fdivP, Int.reduceLT, Int.not_lt, Int.not_le, gt_iff_lt, ge_iff_le] at * <;> first | contradiction | omega)
                have e0 : lawFirst_c0 n t u = ((1 : Int) == (1 : Int)) := ((bif_f hq8 _ _).trans rfl); rw [e0]; exact lawFirst_p55 n t u hq0 hq1 hq2 hq3 hq4 hq5 hq6 hq7 hq12 hq13 hq8 hq9 hq10 hq11
      ·
        have hq3 : (decide (n % (4 : Int) ≥ (0 : Int))) = true := by
          rcases Bool.eq_false_or_eq_true (decide (n % (4 : Int) ≥ (0 : Int))) with h | h
          · exact h
          · exfalso; (simp only [decide_eq_true_eq, decide_eq_false_iff_not, beqI, beqIf, bneI, bneIf, beqB, beqBf, bneB, bneBf, Bool.false_eq_true, Bool.true_eq_false, true_iff, iff_true, false_iff, iff_false, true_and, and_true, false_and, and_false, true_or, or_true, false_or, or_false, ne_eq, eq_self, Bool.not_eq_true', Bool.not_eq_false', Bool.and_eq_true, Bool.or_eq_true, Bool.and_eq_false_iff, Bool.or_eq_false_iff, not_true_eq_false, not_false_eq_true, IntKind.wrap_i64, wrapU64, tdivP, tmodP, fdivP, Int.reduceLT, Int.not_lt, Int.not_le, gt_iff_lt, ge_iff_le] at * <;> first | contradiction | omega)
        have hq4 : (!decide (n % (4 : Int) ≤ (3 : Int))) = false := by
          rcases Bool.eq_false_or_eq_true (!decide (n % (4 : Int) ≤ (3 : Int))) with h | h
          · exfalso; (simp only [decide_eq_true_eq, decide_eq_false_iff_not, beqI, beqIf, bneI, bneIf, beqB, beqBf, bneB, bneBf, Bool.false_eq_true, Bool.true_eq_false, true_iff, iff_true, false_iff, iff_false, true_and, and_true, false_and, and_false, true_or, or_true, false_or, or_false, ne_eq, eq_self, Bool.not_eq_true', Bool.not_eq_false', Bool.and_eq_true, Bool.or_eq_true, Bool.and_eq_false_iff, Bool.or_eq_false_iff, not_true_eq_false, not_false_eq_true, IntKind.wrap_i64, wrapU64, tdivP, tmodP, fdivP, Int.reduceLT, Int.not_lt, Int.not_le, gt_iff_lt, ge_iff_le] at * <;> first | contradiction | omega)
          · exact h
        have hq5 : (decide (t % (15 : Int) < (0 : Int))) = false := by
          rcases Bool.eq_false_or_eq_true (decide (t % (15 : Int) < (0 : Int))) with h | h
          · exfalso; (simp only [decide_eq_true_eq, decide_eq_false_iff_not, beqI, beqIf, bneI, bneIf, beqB, beqBf, bneB, bneBf, Bool.false_eq_true, Bool.true_eq_false, true_iff, iff_true, false_iff, iff_false, true_and, and_true, false_and, and_false, true_or, or_true, false_or, or_false, ne_eq, eq_self, Bool.not_eq_true', Bool.not_eq_false', Bool.and_eq_true, Bool.or_eq_true, Bool.and_eq_false_iff, Bool.or_eq_false_iff, not_true_eq_false, not_false_eq_true, IntKind.wrap_i64, wrapU64, tdivP, tmodP, fdivP, Int.reduceLT, Int.not_lt, Int.not_le, gt_iff_lt, ge_iff_le] at * <;> first | contradiction | omega)
          · exact h
        have hq6 : (decide (t % (15 : Int) ≥ (16 : Int))) = false := by
          rcases Bool.eq_false_or_eq_true (decide (t % (15 : Int) ≥ (16 : Int))) with h | h
          · exfalso; (simp only [decide_eq_true_eq, decide_eq_false_iff_not, beqI, beqIf, bneI, bneIf, beqB, beqBf, bneB, bneBf, Bool.false_eq_true, Bool.true_eq_false, true_iff, iff_true, false_iff, iff_false, true_and, and_true, false_and, and_false, true_or, or_true, false_or, or_false, ne_eq, eq_self, Bool.not_eq_true', Bool.not_eq_false', Bool.and_eq_true, Bool.or_eq_true, Bool.and_eq_false_iff, Bool.or_eq_false_iff, not_true_eq_false, not_false_eq_true, IntKind.wrap_i64, wrapU64, tdivP, tmodP, fdivP, Int.reduceLT, Int.not_lt, Int.not_le, gt_iff_lt, ge_iff_le] at * <;> first | contradiction | omega)
          · exact h
        rcases Bool.eq_false_or_eq_true (n % (4 : Int) == (0 : Int)) with hq7 | hq7
        ·
          rcases Bool.eq_false_or_eq_true ((t % (15 : Int)).tmod (2 : Int) == (0 : Int)) with hq8 | hq8
          ·
            have hq9 : (decide (IntKind.i64.wrap (t % (15 : Int) + (1 : Int)) < (0 : Int))) = false := by
              rcases Bool.eq_false_or_eq_true (decide (IntKind.i64.wrap (t % (15 : Int) + (1 : Int)) < (0 : Int))) with h | h
              · exfalso; (simp only [decide_eq_true_eq, decide_eq_false_iff_not, beqI, beqIf, bneI, bneIf, beqB, beqBf, bneB, bneBf, Bool.false_eq_true, Bool.true_eq_false, true_iff, iff_true, false_iff, iff_false, true_and, and_true, false_and, and_false, true_or, or_true, false_or, or_false, ne_eq, eq_self, Bool.not_eq_true', Bool.not_eq_false', Bool.and_eq_true, Bool.or_eq_true, Bool.and_eq_false_iff, Bool.or_eq_false_iff, not_true_eq_false, not_false_eq_true, IntKind.wrap_i64, wrapU64, tdivP, tmodP, fdivP, Int.reduceLT, Int.not_lt, Int.not_le, gt_iff_lt, ge_iff_le] at * <;> first | contradiction | omega)
              · exact h
            have hq10 : (decide (IntKind.i64.wrap (t % (15 : Int) + (1 : Int)) ≥ (16 : Int))) = false := by
              rcases Bool.eq_false_or_eq_true (decide (IntKind.i64.wrap (t % (15 : Int) + (1 : Int)) ≥ (16 : Int))) with h | h
              · exfalso; (simp only [decide_eq_true_eq, decide_eq_false_iff_not, beqI, beqIf, bneI, bneIf, beqB, beqBf, bneB, bneBf, Bool.false_eq_true, Bool.true_eq_false, true_iff, iff_true, false_iff, iff_false, true_and, and_true, false_and, and_false, true_or, or_true, false_or, or_false, ne_eq, eq_self, Bool.not_eq_true', Bool.not_eq_false', Bool.and_eq_true, Bool.or_eq_true, Bool.and_eq_false_iff, Bool.or_eq_false_iff, not_true_eq_false, not_false_eq_true, IntKind.wrap_i64, wrapU64, tdivP, tmodP, fdivP, Int.reduceLT, Int.not_lt, Int.not_le, gt_iff_lt, ge_iff_le] at * <;> first | contradiction | omega)
              · exact h
            have hq11 : ((IntKind.i64.wrap (t % (15 : Int) + (1 : Int))).tmod (2 : Int) == (0 : Int)) = false := by
              rcases Bool.eq_false_or_eq_true ((IntKind.i64.wrap (t % (15 : Int) + (1 : Int))).tmod (2 : Int) == (0 : Int)) with h | h
              · exfalso; (simp only [decide_eq_true_eq, decide_eq_false_iff_not, beqI, beqIf, bneI, bneIf, beqB, beqBf, bneB, bneBf, Bool.false_eq_true, Bool.true_eq_false, true_iff, iff_true, false_iff, iff_false, true_and, and_true, false_and, and_false, true_or, or_true, false_or, or_false, ne_eq, eq_self, Bool.not_eq_true', Bool.not_eq_false', Bool.and_eq_true, Bool.or_eq_true, Bool.and_eq_false_iff, Bool.or_eq_false_iff, not_true_eq_false, not_false_eq_true, IntKind.wrap_i64, wrapU64, tdivP, tmodP, fdivP, Int.reduceLT, Int.not_lt, Int.not_le, gt_iff_lt, ge_iff_le] at * <;> first | contradiction | omega)
              · exact h
            have e0 : lawFirst_c0 n t u = ((2 : Int) == (2 : Int)) := ((bif_t hq8 _ _).trans rfl); rw [e0]; exact lawFirst_p56 n t u hq0 hq1 hq2 hq3 hq4 hq5 hq6 hq7 hq8 hq9 hq10 hq11
          ·
            have hq9 : (decide (IntKind.i64.wrap (t % (15 : Int) + (1 : Int)) < (0 : Int))) = false := by
              rcases Bool.eq_false_or_eq_true (decide (IntKind.i64.wrap (t % (15 : Int) + (1 : Int)) < (0 : Int))) with h | h
              · exfalso; (simp only [decide_eq_true_eq, decide_eq_false_iff_not, beqI, beqIf, bneI, bneIf, beqB, beqBf, bneB, bneBf, Bool.false_eq_true, Bool.true_eq_false, true_iff, iff_true, false_iff, iff_false, true_and, and_true, false_and, and_false, true_or, or_true, false_or, or_false, ne_eq, eq_self, Bool.not_eq_true', Bool.not_eq_false', Bool.and_eq_true, Bool.or_eq_true, Bool.and_eq_false_iff, Bool.or_eq_false_iff, not_true_eq_false, not_false_eq_true, IntKind.wrap_i64, wrapU64, tdivP, tmodP, fdivP, Int.reduceLT, Int.not_lt, Int.not_le, gt_iff_lt, ge_iff_le] at * <;> first | contradiction | omega)
              · exact h
            have hq10 : (decide (IntKind.i64.wrap (t % (15 : Int) + (1 : Int)) ≥ (16 : Int))) = false := by
              rcases Bool.eq_false_or_eq_true (decide (IntKind.i64.wrap (t % (15 : Int) + (1 : Int)) ≥ (16 : Int))) with h | h
              · exfalso; (simp only [decide_eq_true_eq, decide_eq_false_iff_not, beqI, beqIf, bneI, bneIf, beqB, beqBf, bneB, bneBf, Bool.false_eq_true, Bool.true_eq_false, true_iff, iff_true, false_iff, iff_false, true_and, and_true, false_and, and_false, true_or, or_true, false_or, or_false, ne_eq, eq_self, Bool.not_eq_true', Bool.not_eq_false', Bool.and_eq_true, Bool.or_eq_true, Bool.and_eq_false_iff, Bool.or_eq_false_iff, not_true_eq_false, not_false_eq_true, IntKind.wrap_i64, wrapU64, tdivP, tmodP, fdivP, Int.reduceLT, Int.not_lt, Int.not_le, gt_iff_lt, ge_iff_le] at * <;> first | contradiction | omega)
              · exact h
            have hq11 : ((IntKind.i64.wrap (t % (15 : Int) + (1 : Int))).tmod (2 : Int) == (0 : Int)) = true := by
              rcases Bool.eq_false_or_eq_true ((IntKind.i64.wrap (t % (15 : Int) + (1 : Int))).tmod (2 : Int) == (0 : Int)) with h | h
              · exact h
              · exfalso; (simp only [decide_eq_true_eq, decide_eq_false_iff_not, beqI, beqIf, bneI, bneIf, beqB, beqBf, bneB, bneBf, Bool.false_eq_true, Bool.true_eq_false, true_iff, iff_true, false_iff, iff_false, true_and, and_true, false_and, and_false, true_or, or_true, false_or, or_false, ne_eq, eq_self, Bool.not_eq_true', Bool.not_eq_false', Bool.and_eq_true, Bool.or_eq_true, Bool.and_eq_false_iff, Bool.or_eq_false_iff, not_true_eq_false, not_false_eq_true, IntKind.wrap_i64, wrapU64, tdivP, tmodP, fdivP, Int.reduceLT, Int.not_lt, Int.not_le, gt_iff_lt, ge_iff_le] at * <;> first | contradiction | omega)
            have e0 : lawFirst_c0 n t u = ((1 : Int) == (1 : Int)) := ((bif_f hq8 _ _).trans rfl); rw [e0]; exact lawFirst_p57 n t u hq0 hq1 hq2 hq3 hq4 hq5 hq6 hq7 hq8 hq9 hq10 hq11
        ·
          rcases Bool.eq_false_or_eq_true (n % (4 : Int) == (1 : Int)) with hq12 | hq12
          ·
            rcases Bool.eq_false_or_eq_true ((t % (15 : Int)).tmod (2 : Int) == (0 : Int)) with hq8 | hq8
            ·
              have hq9 : (decide (IntKind.i64.wrap (t % (15 : Int) + (1 : Int)) < (0 : Int))) = false := by
                rcases Bool.eq_false_or_eq_true (decide (IntKind.i64.wrap (t % (15 : Int) + (1 : Int)) < (0 : Int))) with h | h
                · exfalso; (simp only [decide_eq_true_eq, decide_eq_false_iff_not, beqI, beqIf, bneI, bneIf, beqB, beqBf, bneB, bneBf, Bool.false_eq_true, Bool.true_eq_false, true_iff, iff_true, false_iff, iff_false, true_and, and_true, false_and, and_false, true_or, or_true, false_or, or_false, ne_eq, eq_self, Bool.not_eq_true', Bool.not_eq_false', Bool.and_eq_true, Bool.or_eq_true, Bool.and_eq_false_iff, Bool.or_eq_false_iff, not_true_eq_false, not_false_eq_true, IntKind.wrap_i64, wrapU64, tdivP, tmodP, fdivP, Int.reduceLT, Int.not_lt, Int.not_le, gt_iff_lt, ge_iff_le] at * <;> first | contradiction | omega)
                · exact h
              have hq10 : (decide (IntKind.i64.wrap (t % (15 : Int) + (1 : Int)) ≥ (16 : Int))) = false := by
                rcases Bool.eq_false_or_eq_true (decide (IntKind.i64.wrap (t % (15 : Int) + (1 : Int)) ≥ (16 : Int))) with h | h
                · exfalso; (simp only [decide_eq_true_eq, decide_eq_false_iff_not, beqI, beqIf, bneI, bneIf, beqB, beqBf, bneB, bneBf, Bool.false_eq_true, Bool.true_eq_false, true_iff, iff_true, false_iff, iff_false, true_and, and_true, false_and, and_false, true_or, or_true, false_or, or_false, ne_eq, eq_self, Bool.not_eq_true', Bool.not_eq_false', Bool.and_eq_true, Bool.or_eq_true, Bool.and_eq_false_iff, Bool.or_eq_false_iff, not_true_eq_false, not_false_eq_true, IntKind.wrap_i64, wrapU64, tdivP, tmodP, fdivP, Int.reduceLT, Int.not_lt, Int.not_le, gt_iff_lt, ge_iff_le] at * <;> first | contradiction | omega)
                · exact h
              have hq11 : ((IntKind.i64.wrap (t % (15 : Int) + (1 : Int))).tmod (2 : Int) == (0 : Int)) = false := by
                rcases Bool.eq_false_or_eq_true ((IntKind.i64.wrap (t % (15 : Int) + (1 : Int))).tmod (2 : Int) == (0 : Int)) with h | h
                · exfalso; (simp only [decide_eq_true_eq, decide_eq_false_iff_not, beqI, beqIf, bneI, bneIf, beqB, beqBf, bneB, bneBf, Bool.false_eq_true, Bool.true_eq_false, true_iff, iff_true, false_iff, iff_false, true_and, and_true, false_and, and_false, true_or, or_true, false_or, or_false, ne_eq, eq_self, Bool.not_eq_true', Bool.not_eq_false', Bool.and_eq_true, Bool.or_eq_true, Bool.and_eq_false_iff, Bool.or_eq_false_iff, not_true_eq_false, not_false_eq_true, IntKind.wrap_i64, wrapU64, tdivP, tmodP, fdivP, Int.reduceLT, Int.not_lt, Int.not_le, gt_iff_lt, ge_iff_le] at * <;> first | contradiction | omega)
                · exact h
              have e0 : lawFirst_c0 n t u = ((2 : Int) == (2 : Int)) := ((bif_t hq8 _ _).trans rfl); rw [e0]; exact lawFirst_p58 n t u hq0 hq1 hq2 hq3 hq4 hq5 hq6 hq7 hq12 hq8 hq9 hq10 hq11
            ·
              have hq9 : (decide (IntKind.i64.wrap (t % (15 : Int) + (1 : Int)) < (0 : Int))) = false := by
                rcases Bool.eq_false_or_eq_true (decide (IntKind.i64.wrap (t % (15 : Int) + (1 : Int)) < (0 : Int))) with h | h
                · exfalso; (simp only [decide_eq_true_eq, decide_eq_false_iff_not, beqI, beqIf, bneI, bneIf, beqB, beqBf, bneB, bneBf, Bool.false_eq_true, Bool.true_eq_false, true_iff, iff_true, false_iff, iff_false, true_and, and_true, false_and, and_false, true_or, or_true, false_or, or_false, ne_eq, eq_self, Bool.not_eq_true', Bool.not_eq_false', Bool.and_eq_true, Bool.or_eq_true, Bool.and_eq_false_iff, Bool.or_eq_false_iff, not_true_eq_false, not_false_eq_true, IntKind.wrap_i64, wrapU64, tdivP, tmodP, fdivP, Int.reduceLT, Int.not_lt, Int.not_le, gt_iff_lt, ge_iff_le] at * <;> first | contradiction | omega)
                · exact h
              have hq10 : (decide (IntKind.i64.wrap (t % (15 : Int) + (1 : Int)) ≥ (16 : Int))) = false := by
                rcases Bool.eq_false_or_eq_true (decide (IntKind.i64.wrap (t % (15 : Int) + (1 : Int)) ≥ (16 : Int))) with h | h
                · exfalso; (simp only [decide_eq_true_eq, decide_eq_false_iff_not, beqI, beqIf, bneI, bneIf, beqB, beqBf, bneB, bneBf, Bool.false_eq_true, Bool.true_eq_false, true_iff, iff_true, false_iff, iff_false, true_and, and_true, false_and, and_false, true_or, or_true, false_or, or_false, ne_eq, eq_self, Bool.not_eq_true', Bool.not_eq_false', Bool.and_eq_true, Bool.or_eq_true, Bool.and_eq_false_iff, Bool.or_eq_false_iff, not_true_eq_false, not_false_eq_true, IntKind.wrap_i64, wrapU64, tdivP, tmodP, fdivP, Int.reduceLT, Int.not_lt, Int.not_le, gt_iff_lt, ge_iff_le] at * <;> first | contradiction | omega)
                · exact h
              have hq11 : ((IntKind.i64.wrap (t % (15 : Int) + (1 : Int))).tmod (2 : Int) == (0 : Int)) = true := by
                rcases Bool.eq_false_or_eq_true ((IntKind.i64.wrap (t % (15 : Int) + (1 : Int))).tmod (2 : Int) == (0 : Int)) with h | h
                · exact h
                · exfalso; (simp only [decide_eq_true_eq, decide_eq_false_iff_not, beqI, beqIf, bneI, bneIf, beqB, beqBf, bneB, bneBf, Bool.false_eq_true, Bool.true_eq_false, true_iff, iff_true, false_iff, iff_false, true_and, and_true, false_and, and_false, true_or, or_true, false_or, or_false, ne_eq, eq_self, Bool.not_eq_true', Bool.not_eq_false', Bool.and_eq_true, Bool.or_eq_true, Bool.and_eq_false_iff, Bool.or_eq_false_iff, not_true_eq_false, not_false_eq_true, IntKind.wrap_i64, wrapU64, tdivP, tmodP, fdivP, Int.reduceLT, Int.not_lt, Int.not_le, gt_iff_lt, ge_iff_le] at * <;> first | contradiction | omega)
              have e0 : lawFirst_c0 n t u = ((1 : Int) == (1 : Int)) := ((bif_f hq8 _ _).trans rfl); rw [e0]; exact lawFirst_p59 n t u hq0 hq1 hq2 hq3 hq4 hq5 hq6 hq7 hq12 hq8 hq9 hq10 hq11
          ·
            rcases Bool.eq_false_or_eq_true (n % (4 : Int) == (3 : Int)) with hq13 | hq13
            ·
              rcases Bool.eq_false_or_eq_true ((t % (15 : Int)).tmod (2 : Int) == (0 : Int)) with hq8 | hq8
              ·
                have hq9 : (decide (IntKind.i64.wrap (t % (15 : Int) + (1 : Int)) < (0 : Int))) = false := by
                  rcases Bool.eq_false_or_eq_true (decide (IntKind.i64.wrap (t % (15 : Int) + (1 : Int)) < (0 : Int))) with h | h
                  · exfalso; (simp only [decide_eq_true_eq, decide_eq_false_iff_not, beqI, beqIf, bneI, bneIf, beqB, beqBf, bneB, bneBf, Bool.false_eq_true, Bool.true_eq_false, true_iff, iff_true, false_iff, iff_false, true_and, and_true, false_and, and_false, true_or, or_true, false_or, or_false, ne_eq, eq_self, Bool.not_eq_true', Bool.not_eq_false', Bool.and_eq_true, Bool.or_eq_true, Bool.and_eq_false_iff, Bool.or_eq_false_iff, not_true_eq_false, not_false_eq_true, IntKind.wrap_i64, wrapU64, tdivP, tmodP, fdivP, Int.reduceLT, Int.not_lt, Int.not_le, gt_iff_lt, ge_iff_le] at * <;> first | contradiction | omega)
                  · exact h
                have hq10 : (decide (IntKind.i64.wrap (t % (15 : Int) + (1 : Int)) ≥ (16 : Int))) = false := by
                  rcases Bool.eq_false_or_eq_true (decide (IntKind.i64.wrap (t % (15 : Int) + (1 : Int)) ≥ (16 : Int))) with h | h
                  · exfalso; (simp only [decide_eq_true_eq, decide_eq_false_iff_not, beqI, beqIf, bneI, bneIf, beqB, beqBf, bneB, bneBf, Bool.false_eq_true, Bool.true_eq_false, true_iff, iff_true, false_iff, iff_false, true_and, and_true, false_and, and_false, true_or, or_true, false_or, or_false, ne_eq, eq_self, Bool.not_eq_true', Bool.not_eq_false', Bool.and_eq_true, Bool.or_eq_true, Bool.and_eq_false_iff, Bool.or_eq_false_iff, not_true_eq_false, not_false_eq_true, IntKind.wrap_i64, wrapU64, tdivP, tmodP, fdivP, Int.reduceLT, Int.not_lt, Int.not_le, gt_iff_lt, ge_iff_le] at * <;> first | contradiction | omega)
                  · exact h
                have hq11 : ((IntKind.i64.wrap (t % (15 : Int) + (1 : Int))).tmod (2 : Int) == (0 : Int)) = false := by
                  rcases Bool.eq_false_or_eq_true ((IntKind.i64.wrap (t % (15 : Int) + (1 : Int))).tmod (2 : Int) == (0 : Int)) with h | h
                  · exfalso; (simp only [decide_eq_true_eq, decide_eq_false_iff_not, beqI, beqIf, bneI, bneIf, beqB, beqBf, bneB, bneBf, Bool.false_eq_true, Bool.true_eq_false, true_iff, iff_true, false_iff, iff_false, true_and, and_true, false_and, and_false, true_or, or_true, false_or, or_false, ne_eq, eq_self, Bool.not_eq_true', Bool.not_eq_false', Bool.and_eq_true, Bool.or_eq_true, Bool.and_eq_false_iff, Bool.or_eq_false_iff, not_true_eq_false, not_false_eq_true, IntKind.wrap_i64, wrapU64, tdivP, tmodP, fdivP, Int.reduceLT, Int.not_lt, Int.not_le, gt_iff_lt, ge_iff_le] at * <;> first | contradiction | omega)
                  · exact h
                have e0 : lawFirst_c0 n t u = ((2 : Int) == (2 : Int)) := ((bif_t hq8 _ _).trans rfl); rw [e0]; exact lawFirst_p60 n t u hq0 hq1 hq2 hq3 hq4 hq5 hq6 hq7 hq12 hq13 hq8 hq9 hq10 hq11
              ·
                have hq9 : (decide (IntKind.i64.wrap (t % (15 : Int) + (1 : Int)) < (0 : Int))) = false := by
                  rcases Bool.eq_false_or_eq_true (decide (IntKind.i64.wrap (t % (15 : Int) + (1 : Int)) < (0 : Int))) with h | h
                  · exfalso; (simp only [decide_eq_true_eq, decide_eq_false_iff_not, beqI, beqIf, bneI, bneIf, beqB, beqBf, bneB, bneBf, Bool.false_eq_true, Bool.true_eq_false, true_iff, iff_true, false_iff, iff_false, true_and, and_true, false_and, and_false, true_or, or_true, false_or, or_false, ne_eq, eq_self, Bool.not_eq_true', Bool.not_eq_false', Bool.and_eq_true, Bool.or_eq_true, Bool.and_eq_false_iff, Bool.or_eq_false_iff, not_true_eq_false, not_false_eq_true, IntKind.wrap_i64, wrapU64, tdivP, tmodP, fdivP, Int.reduceLT, Int.not_lt, Int.not_le, gt_iff_lt, ge_iff_le] at * <;> first | contradiction | omega)
                  · exact h
                have hq10 : (decide (IntKind.i64.wrap (t % (15 : Int) + (1 : Int)) ≥ (16 : Int))) = false := by
                  rcases Bool.eq_false_or_eq_true (decide (IntKind.i64.wrap (t % (15 : Int) + (1 : Int)) ≥ (16 : Int))) with h | h
                  · exfalso; (simp only [decide_eq_true_eq, decide_eq_false_iff_not, beqI, beqIf, bneI, bneIf, beqB, beqBf, bneB, bneBf, Bool.false_eq_true, Bool.true_eq_false, true_iff, iff_true, false_iff, iff_false, true_and, and_true, false_and, and_false, true_or, or_true, false_or, or_false, ne_eq, eq_self, Bool.not_eq_true', Bool.not_eq_false', Bool.and_eq_true, Bool.or_eq_true, Bool.and_eq_false_iff, Bool.or_eq_false_iff, not_true_eq_false, not_false_eq_true, IntKind.wrap_i64, wrapU64, tdivP, tmodP, fdivP, Int.reduceLT, Int.not_lt, Int.not_le, gt_iff_lt, ge_iff_le] at * <;> first | contradiction | omega)
                  · exact h
                have hq11 : ((IntKind.i64.wrap (t % (15 : Int) + (1 : Int))).tmod (2 : Int) == (0 : Int)) = true := by
                  rcases Bool.eq_false_or_eq_true ((IntKind.i64.wrap (t % (15 : Int) + (1 : Int))).tmod (2 : Int) == (0 : Int)) with h | h
                  · exact h
                  · exfalso; (simp only [decide_eq_true_eq, decide_eq_false_iff_not, beqI, beqIf, bneI, bneIf, beqB, beqBf, bneB, bneBf, Bool.false_eq_true, Bool.true_eq_false, true_iff, iff_true, false_iff, iff_false, true_and, and_true, false_and, and_false, true_or, or_true, false_or, or_false, ne_eq, eq_self, Bool.not_eq_true', Bool.not_eq_false', Bool.and_eq_true, Bool.or_eq_true, Bool.and_eq_false_iff, Bool.or_eq_false_iff, not_true_eq_false, not_false_eq_true, IntKind.wrap_i64, wrapU64, tdivP, tmodP, fdivP, Int.reduceLT, Int.not_lt, Int.not_le, gt_iff_lt, ge_iff_le] at * <;> first | contradiction | omega)
                have e0 : lawFirst_c0 n t u = ((1 : Int) == (1 : Int)) := ((bif_f hq8 _ _).trans rfl); rw [e0]; exact lawFirst_p61 n t u hq0 hq1 hq2 hq3 hq4 hq5 hq6 hq7 hq12 hq13 hq8 hq9 hq10 hq11
            ·
              rcases Bool.eq_false_or_eq_true ((t % (15 : Int)).tmod (2 : Int) == (0 : Int)) with hq8 | hq8
              ·
                have hq9 : (decide (IntKind.i64.wrap (t % (15 : Int) + (1 : Int)) < (0 : Int))) = false := by
                  rcases Bool.eq_false_or_eq_true (decide (IntKind.i64.wrap (t % (15 : Int) + (1 : Int)) < (0 : Int))) with h | h
                  · exfalso; (simp only [decide_eq_true_eq, decide_eq_false_iff_not, beqI, beqIf, bneI, bneIf, beqB, beqBf, bneB, bneBf, Bool.false_eq_true, Bool.true_eq_false, true_iff, iff_true, false_iff, iff_false, true_and, and_true, false_and, and_false, true_or, or_true, false_or, or_false, ne_eq, eq_self, Bool.not_eq_true', Bool.not_eq_false', Bool.and_eq_true, Bool.or_eq_true, Bool.and_eq_false_iff, Bool.or_eq_false_iff, not_true_eq_false, not_false_eq_true, IntKind.wrap_i64, wrapU64, tdivP, tmodP, fdivP, Int.reduceLT, Int.not_lt, Int.not_le, gt_iff_lt, ge_iff_le] at * <;> first | contradiction | omega)
                  · exact h
                have hq10 : (decide (IntKind.i64.wrap (t % (15 : Int) + (1 : Int)) ≥ (16 : Int))) = false := by
                  rcases Bool.eq_false_or_eq_true (decide (IntKind.i64.wrap (t % (15 : Int) + (1 : Int)) ≥ (16 : Int))) with h | h
                  · exfalso; (simp only [decide_eq_true_eq, decide_eq_false_iff_not, beqI, beqIf, bneI, bneIf, beqB, beqBf, bneB, bneBf, Bool.false_eq_true, Bool.true_eq_false, true_iff, iff_true, false_iff, iff_false, true_and, and_true, false_and, and_false, true_or, or_true, false_or, or_false, ne_eq, eq_self, Bool.not_eq_true', Bool.not_eq_false', Bool.and_eq_true, Bool.or_eq_true, Bool.and_eq_false_iff, Bool.or_eq_false_iff, not_true_eq_false, not_false_eq_true, IntKind.wrap_i64, wrapU64, tdivP, tmodP, fdivP, Int.reduceLT, Int.not_lt, Int.not_le, gt_iff_lt, ge_iff_le] at * <;> first | contradiction | omega)
                  · exact h
                have hq11 : ((IntKind.i64.wrap (t % (15 : Int) + (1 : Int))).tmod (2 : Int) == (0 : Int)) = false := by
                  rcases Bool.eq_false_or_eq_true ((IntKind.i64.wrap (t % (15 : Int) + (1 : Int))).tmod (2 : Int) == (0 : Int)) with h | h
                  · exfalso; (simp only [decide_eq_true_eq, decide_eq_false_iff_not, beqI, beqIf, bneI, bneIf, beqB, beqBf, bneB, bneBf, Bool.false_eq_true, Bool.true_eq_false, true_iff, iff_true, false_iff, iff_false, true_and, and_true, false_and, and_false, true_or, or_true, false_or, or_false, ne_eq, eq_self, Bool.not_eq_true', Bool.not_eq_false', Bool.and_eq_true, Bool.or_eq_true, Bool.and_eq_false_iff, Bool.or_eq_false_iff, not_true_eq_false, not_false_eq_true, IntKind.wrap_i64, wrapU64, tdivP, tmodP, fdivP, Int.reduceLT, Int.not_lt, Int.not_le, gt_iff_lt, ge_iff_le] at * <;> first | contradiction | omega)
                  · exact h
                have e0 : lawFirst_c0 n t u = ((2 : Int) == (2 : Int)) := ((bif_t hq8 _ _).trans rfl); rw [e0]; exact lawFirst_p62 n t u hq0 hq1 hq2 hq3 hq4 hq5 hq6 hq7 hq12 hq13 hq8 hq9 hq10 hq11
              ·
                have hq9 : (decide (IntKind.i64.wrap (t % (15 : Int) + (1 : Int)) < (0 : Int))) = false := by
                  rcases Bool.eq_false_or_eq_true (decide (IntKind.i64.wrap (t % (15 : Int) + (1 : Int)) < (0 : Int))) with h | h
                  · exfalso; (simp only [decide_eq_true_eq, decide_eq_false_iff_not, beqI, beqIf, bneI, bneIf, beqB, beqBf, bneB, bneBf, Bool.false_eq_true, Bool.true_eq_false, true_iff, iff_true, false_iff, iff_false, true_and, and_true, false_and, and_false, true_or, or_true, false_or, or_false, ne_eq, eq_self, Bool.not_eq_true', Bool.not_eq_false', Bool.and_eq_true, Bool.or_eq_true, Bool.and_eq_false_iff, Bool.or_eq_false_iff, not_true_eq_false, not_false_eq_true, IntKind.wrap_i64, wrapU64, tdivP, tmodP, fdivP, Int.reduceLT, Int.not_lt, Int.not_le, gt_iff_lt, ge_iff_le] at * <;> first | contradiction | omega)
                  · exact h
                have hq10 : (decide (IntKind.i64.wrap (t % (15 : Int) + (1 : Int)) ≥ (16 : Int))) = false := by
                  rcases Bool.eq_false_or_eq_true (decide (IntKind.i64.wrap (t % (15 : Int) + (1 : Int)) ≥ (16 : Int))) with h | h
                  · exfalso; (simp only [decide_eq_true_eq, decide_eq_false_iff_not, beqI, beqIf, bneI, bneIf, beqB, beqBf, bneB, bneBf, Bool.false_eq_true, Bool.true_eq_false, true_iff, iff_true, false_iff, iff_false, true_and, and_true, false_and, and_false, true_or, or_true, false_or, or_false, ne_eq, eq_self, Bool.not_eq_true', Bool.not_eq_false', Bool.and_eq_true, Bool.or_eq_true, Bool.and_eq_false_iff, Bool.or_eq_false_iff, not_true_eq_false, not_false_eq_true, IntKind.wrap_i64, wrapU64, tdivP, tmodP, fdivP, Int.reduceLT, Int.not_lt, Int.not_le, gt_iff_lt, ge_iff_le] at * <;> first | contradiction | omega)
                  · exact h
                have hq11 : ((IntKind.i64.wrap (t % (15 : Int) + (1 : Int))).tmod (2 : Int) == (0 : Int)) = true := by
                  rcases Bool.eq_false_or_eq_true ((IntKind.i64.wrap (t % (15 : Int) + (1 : Int))).tmod (2 : Int) == (0 : Int)) with h | h
                  · exact h
                  · exfalso; (simp only [decide_eq_true_eq, decide_eq_false_iff_not, beqI, beqIf, bneI, bneIf, beqB, beqBf, bneB, bneBf, Bool.false_eq_true, Bool.true_eq_false, true_iff, iff_true, false_iff, iff_false, true_and, and_true, false_and, and_false, true_or, or_true, false_or, or_false, ne_eq, eq_self, Bool.not_eq_true', Bool.not_eq_false', Bool.and_eq_true, Bool.or_eq_true, Bool.and_eq_false_iff, Bool.or_eq_false_iff, not_true_eq_false, not_false_eq_true, IntKind.wrap_i64, wrapU64, tdivP, tmodP, fdivP, Int.reduceLT, Int.not_lt, Int.not_le, gt_iff_lt, ge_iff_le] at * <;> first | contradiction | omega)
                have e0 : lawFirst_c0 n t u = ((1 : Int) == (1 : Int)) := ((bif_f hq8 _ _).trans rfl); rw [e0]; exact lawFirst_p63 n t u hq0 hq1 hq2 hq3 hq4 hq5 hq6 hq7 hq12 hq13 hq8 hq9 hq10 hq11
noncomputable def lawFirst_k : List Value → Option Value
  | [.int .i64 n, .int .i64 t, .int .i64 u] => some (.bool (lawFirst_c0 n t u))
  | _ => none
theorem lawFirst_ok : ∀ args v, lawFirst_k args = some v → Known Try.prog [] 9 args v := by
  intro args v h
  unfold lawFirst_k at h
  split at h
  · injection h with h; subst h; exact lawFirst _ _ _
  · cases h

theorem lawFirstT (n t u : Int) : Known Try.prog [] 9 [.int .i64 n, .int .i64 t, .int .i64 u] (.bool true) := by
  have h := lawFirst n t u
  have e : lawFirst_c0 n t u = true := by unfold lawFirst_c0; cases ((t % (15 : Int)).tmod (2 : Int) == (0 : Int)) <;> rfl
  rw [e] at h
  exact h
def In64 (n : Int) : Prop := -9223372036854775808 ≤ n ∧ n ≤ 9223372036854775807
theorem modeFirst_true (n t u : Int) (w : World) (_ : In64 n) (_ : In64 t) (_ : In64 u) : Calls Try.prog 9 #[.int .i64 n, .int .i64 t, .int .i64 u] w fun e w' => e = .returned (.bool true) ∧ Below w.heap.size w w' :=
  (lawFirstT n t u).2.2 w (LaidL.nil w)
end Go.Proofs.Ytokpimghaladjaa
