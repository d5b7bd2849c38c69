/- Continued. -/
import Derived.Test.YtpkbcbabbejjhaaDoorOgA
import Derived.ProofKit
import Derived.IntWalk
namespace Go.Proofs.YtpkbcbabbejjhaaDoor
open Go Go.RowKit
set_option linter.unusedVariables false
set_option linter.unusedSimpArgs false
set_option linter.unnecessarySimpa false
set_option maxHeartbeats 8000000 in
theorem lawParts (p : Int)  : Known Tryd.prog knPortKnownL 7 [.int .i64 p] (.bool (true)) := by
  have hq0 : (decide (p % (24 : Int) ≥ (0 : Int))) = true := by
    rcases Bool.eq_false_or_eq_true (decide (p % (24 : Int) ≥ (0 : Int))) with h | h
    · exact h
    · exfalso; (simp only [decide_eq_true_eq, decide_eq_false_iff_not, beqI, beqIf, bneI, bneIf, beqB, beqBf, bneB, bneBf, Bool.false_eq_true, Bool.true_eq_false, true_iff, iff_true, false_iff, iff_false, true_and, and_true, false_and, and_false, true_or, or_true, false_or, or_false, ne_eq, eq_self, Bool.not_eq_true', Bool.not_eq_false', Bool.and_eq_true, Bool.or_eq_true, Bool.and_eq_false_iff, Bool.or_eq_false_iff, not_true_eq_false, not_false_eq_true, IntKind.wrap_i64, wrapU64, tdivP, tmodP, fdivP, Int.reduceLT, Int.not_lt, Int.not_le, gt_iff_lt, ge_iff_le] at * <;> first | contradiction | omega)
  have hq1 : (!decide (p % (24 : Int) ≤ (23 : Int))) = false := by
    rcases Bool.eq_false_or_eq_true (!decide (p % (24 : Int) ≤ (23 : Int))) with h | h
    · exfalso; (simp only [decide_eq_true_eq, decide_eq_false_iff_not, beqI, beqIf, bneI, bneIf, beqB, beqBf, bneB, bneBf, Bool.false_eq_true, Bool.true_eq_false, true_iff, iff_true, false_iff, iff_false, true_and, and_true, false_and, and_false, true_or, or_true, false_or, or_false, ne_eq, eq_self, Bool.not_eq_true', Bool.not_eq_false', Bool.and_eq_true, Bool.or_eq_true, Bool.and_eq_false_iff, Bool.or_eq_false_iff, not_true_eq_false, not_false_eq_true, IntKind.wrap_i64, wrapU64, tdivP, tmodP, fdivP, Int.reduceLT, Int.not_lt, Int.not_le, gt_iff_lt, ge_iff_le] at * <;> first | contradiction | omega)
    · exact h
  rcases Bool.eq_false_or_eq_true ((0 : Int) == p % (24 : Int)) with hq2 | hq2
  ·
    have hq3 : (!true == ((1 : Int) == IntKind.i64.wrap ((1 : Int) + IntKind.i64.wrap ((p % (24 : Int)).tdiv (8 : Int))))) = false := by
      rcases Bool.eq_false_or_eq_true (!true == ((1 : Int) == IntKind.i64.wrap ((1 : Int) + IntKind.i64.wrap ((p % (24 : Int)).tdiv (8 : Int))))) with h | h
      · exfalso; (simp only [decide_eq_true_eq, decide_eq_false_iff_not, beqI, beqIf, bneI, bneIf, beqB, beqBf, bneB, bneBf, Bool.false_eq_true, Bool.true_eq_false, true_iff, iff_true, false_iff, iff_false, true_and, and_true, false_and, and_false, true_or, or_true, false_or, or_false, ne_eq, eq_self, Bool.not_eq_true', Bool.not_eq_false', Bool.and_eq_true, Bool.or_eq_true, Bool.and_eq_false_iff, Bool.or_eq_false_iff, not_true_eq_false, not_false_eq_true, IntKind.wrap_i64, wrapU64, tdivP, tmodP, fdivP, Int.reduceLT, Int.not_lt, Int.not_le, gt_iff_lt, ge_iff_le] at * <;> first | contradiction | omega)
      · exact h
    have hq4 : ((8 : Int) == p % (24 : Int)) = false := by
      rcases Bool.eq_false_or_eq_true ((8 : Int) == p % (24 : Int)) with h | h
      · exfalso; (simp only [decide_eq_true_eq, decide_eq_false_iff_not, beqI, beqIf, bneI, bneIf, beqB, beqBf, bneB, bneBf, Bool.false_eq_true, Bool.true_eq_false, true_iff, iff_true, false_iff, iff_false, true_and, and_true, false_and, and_false, true_or, or_true, false_or, or_false, ne_eq, eq_self, Bool.not_eq_true', Bool.not_eq_false', Bool.and_eq_true, Bool.or_eq_true, Bool.and_eq_false_iff, Bool.or_eq_false_iff, not_true_eq_false, not_false_eq_true, IntKind.wrap_i64, wrapU64, tdivP, tmodP, fdivP, Int.reduceLT, Int.not_lt, Int.not_le, gt_iff_lt, ge_iff_le] at * <;> first | contradiction | omega)
      · exact h
    have hq5 : ((9 : Int) == p % (24 : Int)) = false := by
      rcases Bool.eq_false_or_eq_true ((9 : Int) == p % (24 : Int)) with h | h
      · exfalso; (simp only [decide_eq_true_eq, decide_eq_false_iff_not, beqI, beqIf, bneI, bneIf, beqB, beqBf, bneB, bneBf, Bool.false_eq_true, Bool.true_eq_false, true_iff, iff_true, false_iff, iff_false, true_and, and_true, false_and, and_false, true_or, or_true, false_or, or_false, ne_eq, eq_self, Bool.not_eq_true', Bool.not_eq_false', Bool.and_eq_true, Bool.or_eq_true, Bool.and_eq_false_iff, Bool.or_eq_false_iff, not_true_eq_false, not_false_eq_true, IntKind.wrap_i64, wrapU64, tdivP, tmodP, fdivP, Int.reduceLT, Int.not_lt, Int.not_le, gt_iff_lt, ge_iff_le] at * <;> first | contradiction | omega)
      · exact h
    have hq6 : ((10 : Int) == p % (24 : Int)) = false := by
      rcases Bool.eq_false_or_eq_true ((10 : Int) == p % (24 : Int)) with h | h
      · exfalso; (simp only [decide_eq_true_eq, decide_eq_false_iff_not, beqI, beqIf, bneI, bneIf, beqB, beqBf, bneB, bneBf, Bool.false_eq_true, Bool.true_eq_false, true_iff, iff_true, false_iff, iff_false, true_and, and_true, false_and, and_false, true_or, or_true, false_or, or_false, ne_eq, eq_self, Bool.not_eq_true', Bool.not_eq_false', Bool.and_eq_true, Bool.or_eq_true, Bool.and_eq_false_iff, Bool.or_eq_false_iff, not_true_eq_false, not_false_eq_true, IntKind.wrap_i64, wrapU64, tdivP, tmodP, fdivP, Int.reduceLT, Int.not_lt, Int.not_le, gt_iff_lt, ge_iff_le] at * <;> first | contradiction | omega)
      · exact h
    have hq7 : ((11 : Int) == p % (24 : Int)) = false := by
      rcases Bool.eq_false_or_eq_true ((11 : Int) == p % (24 : Int)) with h | h
      · exfalso; (simp only [decide_eq_true_eq, decide_eq_false_iff_not, beqI, beqIf, bneI, bneIf, beqB, beqBf, bneB, bneBf, Bool.false_eq_true, Bool.true_eq_false, true_iff, iff_true, false_iff, iff_false, true_and, and_true, false_and, and_false, true_or, or_true, false_or, or_false, ne_eq, eq_self, Bool.not_eq_true', Bool.not_eq_false', Bool.and_eq_true, Bool.or_eq_true, Bool.and_eq_false_iff, Bool.or_eq_false_iff, not_true_eq_false, not_false_eq_true, IntKind.wrap_i64, wrapU64, tdivP, tmodP, fdivP, Int.reduceLT, Int.not_lt, Int.not_le, gt_iff_lt, ge_iff_le] at * <;> first | contradiction | omega)
      · exact h
    have hq8 : ((12 : Int) == p % (24 : Int)) = false := by
      rcases Bool.eq_false_or_eq_true ((12 : Int) == p % (24 : Int)) with h | h
      · exfalso; (simp only [decide_eq_true_eq, decide_eq_false_iff_not, beqI, beqIf, bneI, bneIf, beqB, beqBf, bneB, bneBf, Bool.false_eq_true, Bool.true_eq_false, true_iff, iff_true, false_iff, iff_false, true_and, and_true, false_and, and_false, true_or, or_true, false_or, or_false, ne_eq, eq_self, Bool.not_eq_true', Bool.not_eq_false', Bool.and_eq_true, Bool.or_eq_true, Bool.and_eq_false_iff, Bool.or_eq_false_iff, not_true_eq_false, not_false_eq_true, IntKind.wrap_i64, wrapU64, tdivP, tmodP, fdivP, Int.reduceLT, Int.not_lt, Int.not_le, gt_iff_lt, ge_iff_le] at * <;> first | contradiction | omega)
      · exact h
    have hq9 : ((13 : Int) == p % (24 : Int)) = false := by
      rcases Bool.eq_false_or_eq_true ((13 : Int) == p % (24 : Int)) with h | h
      · exfalso; (simp only [decide_eq_true_eq, decide_eq_false_iff_not, beqI, beqIf, bneI, bneIf, beqB, beqBf, bneB, bneBf, Bool.false_eq_true, Bool.true_eq_false, true_iff, iff_true, false_iff, iff_false, true_and, and_true, false_and, and_false, true_or, or_true, false_or, or_false, ne_eq, eq_self, Bool.not_eq_true', Bool.not_eq_false', Bool.and_eq_true, Bool.or_eq_true, Bool.and_eq_false_iff, Bool.or_eq_false_iff, not_true_eq_false, not_false_eq_true, IntKind.wrap_i64, wrapU64, tdivP, tmodP, fdivP, Int.reduceLT, Int.not_lt, Int.not_le, gt_iff_lt, ge_iff_le] at * <;> first | contradiction | omega)
      · exact h
    have hq10 : ((14 : Int) == p % (24 : Int)) = false := by
      rcases Bool.eq_false_or_eq_true ((14 : Int) == p % (24 : Int)) with h | h
      · exfalso; (simp only [decide_eq_true_eq, decide_eq_false_iff_not, beqI, beqIf, bneI, bneIf, beqB, beqBf, bneB, bneBf, Bool.false_eq_true, Bool.true_eq_false, true_iff, iff_true, false_iff, iff_false, true_and, and_true, false_and, and_false, true_or, or_true, false_or, or_false, ne_eq, eq_self, Bool.not_eq_true', Bool.not_eq_false', Bool.and_eq_true, Bool.or_eq_true, Bool.and_eq_false_iff, Bool.or_eq_false_iff, not_true_eq_false, not_false_eq_true, IntKind.wrap_i64, wrapU64, tdivP, tmodP, fdivP, Int.reduceLT, Int.not_lt, Int.not_le, gt_iff_lt, ge_iff_le] at * <;> first | contradiction | omega)
      · exact h
    have hq11 : ((15 : Int) == p % (24 : Int)) = false := by
      rcases Bool.eq_false_or_eq_true ((15 : Int) == p % (24 : Int)) with h | h
      · exfalso; (simp only [decide_eq_true_eq, decide_eq_false_iff_not, beqI, beqIf, bneI, bneIf, beqB, beqBf, bneB, bneBf, Bool.false_eq_true, Bool.true_eq_false, true_iff, iff_true, false_iff, iff_false, true_and, and_true, false_and, and_false, true_or, or_true, false_or, or_false, ne_eq, eq_self, Bool.not_eq_true', Bool.not_eq_false', Bool.and_eq_true, Bool.or_eq_true, Bool.and_eq_false_iff, Bool.or_eq_false_iff, not_true_eq_false, not_false_eq_true, IntKind.wrap_i64, wrapU64, tdivP, tmodP, fdivP, Int.reduceLT, Int.not_lt, Int.not_le, gt_iff_lt, ge_iff_le] at * <;> first | contradiction | omega)
      · exact h
    have hq12 : (!false == ((2 : Int) == IntKind.i64.wrap ((1 : Int) + IntKind.i64.wrap ((p % (24 : Int)).tdiv (8 : Int))))) = false := by
      rcases Bool.eq_false_or_eq_true (!false == ((2 : Int) == IntKind.i64.wrap ((1 : Int) + IntKind.i64.wrap ((p % (24 : Int)).tdiv (8 : Int))))) with h | h
      · exfalso; (simp only [decide_eq_true_eq, decide_eq_false_iff_not, beqI, beqIf, bneI, bneIf, beqB, beqBf, bneB, bneBf, Bool.false_eq_true, Bool.true_eq_false, true_iff, iff_true, false_iff, iff_false, true_and, and_true, false_and, and_false, true_or, or_true, false_or, or_false, ne_eq, eq_self, Bool.not_eq_true', Bool.not_eq_false', Bool.and_eq_true, Bool.or_eq_true, Bool.and_eq_false_iff, Bool.or_eq_false_iff, not_true_eq_false, not_false_eq_true, IntKind.wrap_i64, wrapU64, tdivP, tmodP, fdivP, Int.reduceLT, Int.not_lt, Int.not_le, gt_iff_lt, ge_iff_le] at * <;> first | contradiction | omega)
      · exact h
    have hq13 : ((16 : Int) == p % (24 : Int)) = false := by
      rcases Bool.eq_false_or_eq_true ((16 : Int) == p % (24 : Int)) with h | h
      · exfalso; (simp only [decide_eq_true_eq, decide_eq_false_iff_not, beqI, beqIf, bneI, bneIf, beqB, beqBf, bneB, bneBf, Bool.false_eq_true, Bool.true_eq_false, true_iff, iff_true, false_iff, iff_false, true_and, and_true, false_and, and_false, true_or, or_true, false_or, or_false, ne_eq, eq_self, Bool.not_eq_true', Bool.not_eq_false', Bool.and_eq_true, Bool.or_eq_true, Bool.and_eq_false_iff, Bool.or_eq_false_iff, not_true_eq_false, not_false_eq_true, IntKind.wrap_i64, wrapU64, tdivP, tmodP, fdivP, Int.reduceLT, Int.not_lt, Int.not_le, gt_iff_lt, ge_iff_le] at * <;> first | contradiction | omega)
      · exact h
    have hq14 : ((17 : Int) == p % (24 : Int)) = false := by
      rcases Bool.eq_false_or_eq_true ((17 : Int) == p % (24 : Int)) with h | h
      · exfalso; (simp only [decide_eq_true_eq, decide_eq_false_iff_not, beqI, beqIf, bneI, bneIf, beqB, beqBf, bneB, bneBf, Bool.false_eq_true, Bool.true_eq_false, true_iff, iff_true, false_iff, iff_false, true_and, and_true, false_and, and_false, true_or, or_true, false_or, or_false, ne_eq, eq_self, Bool.not_eq_true', Bool.not_eq_false', Bool.and_eq_true, Bool.or_eq_true, Bool.and_eq_false_iff, Bool.or_eq_false_iff, not_true_eq_false, not_false_eq_true, IntKind.wrap_i64, wrapU64, tdivP, tmodP, fdivP, Int.reduceLT, Int.not_lt, Int.not_le, gt_iff_lt, ge_iff_le] at * <;> first | contradiction | omega)
      · exact h
    have hq15 : ((18 : Int) == p % (24 : Int)) = false := by
      rcases Bool.eq_false_or_eq_true ((18 : Int) == p % (24 : Int)) with h | h
      · exfalso; (simp only [decide_eq_true_eq, decide_eq_false_iff_not, beqI, beqIf, bneI, bneIf, beqB, beqBf, bneB, bneBf, Bool.false_eq_true, Bool.true_eq_false, true_iff, iff_true, false_iff, iff_false, true_and, and_true, false_and, and_false, true_or, or_true, false_or, or_false, ne_eq, eq_self, Bool.not_eq_true', Bool.not_eq_false', Bool.and_eq_true, Bool.or_eq_true, Bool.and_eq_false_iff, Bool.or_eq_false_iff, not_true_eq_false, not_false_eq_true, IntKind.wrap_i64, wrapU64, tdivP, tmodP, fdivP, Int.reduceLT, Int.not_lt, Int.not_le, gt_iff_lt, ge_iff_le] at * <;> first | contradiction | omega)
      · exact h
    have hq16 : ((19 : Int) == p % (24 : Int)) = false := by
      rcases Bool.eq_false_or_eq_true ((19 : Int) == p % (24 : Int)) with h | h
      · exfalso; (simp only [decide_eq_true_eq, decide_eq_false_iff_not, beqI, beqIf, bneI, bneIf, beqB, beqBf, bneB, bneBf, Bool.false_eq_true, Bool.true_eq_false, true_iff, iff_true, false_iff, iff_false, true_and, and_true, false_and, and_false, true_or, or_true, false_or, or_false, ne_eq, eq_self, Bool.not_eq_true', Bool.not_eq_false', Bool.and_eq_true, Bool.or_eq_true, Bool.and_eq_false_iff, Bool.or_eq_false_iff, not_true_eq_false, not_false_eq_true, IntKind.wrap_i64, wrapU64, tdivP, tmodP, fdivP, Int.reduceLT, Int.not_lt, Int.not_le, gt_iff_lt, ge_iff_le] at * <;> first | contradiction | omega)
      · exact h
    have hq17 : ((20 : Int) == p % (24 : Int)) = false := by
      rcases Bool.eq_false_or_eq_true ((20 : Int) == p % (24 : Int)) with h | h
      · exfalso; (simp only [decide_eq_true_eq, decide_eq_false_iff_not, beqI, beqIf, bneI, bneIf, beqB, beqBf, bneB, bneBf, Bool.false_eq_true, Bool.true_eq_false, true_iff, iff_true, false_iff, iff_false, true_and, and_true, false_and, and_false, true_or, or_true, false_or, or_false, ne_eq, eq_self, Bool.not_eq_true', Bool.not_eq_false', Bool.and_eq_true, Bool.or_eq_true, Bool.and_eq_false_iff, Bool.or_eq_false_iff, not_true_eq_false, not_false_eq_true, IntKind.wrap_i64, wrapU64, tdivP, tmodP, fdivP, Int.reduceLT, Int.not_lt, Int.not_le, gt_iff_lt, ge_iff_le] at * <;> first | contradiction | omega)
      · exact h
    have hq18 : ((21 : Int) == p % (24 : Int)) = false := by
      rcases Bool.eq_false_or_eq_true ((21 : Int) == p % (24 : Int)) with h | h
      · exfalso; (simp only [decide_eq_true_eq, decide_eq_false_iff_not, beqI, beqIf, bneI, bneIf, beqB, beqBf, bneB, bneBf, Bool.false_eq_true, Bool.true_eq_false, true_iff, iff_true, false_iff, iff_false, true_and, and_true, false_and, and_false, true_or, or_true, false_or, or_false, ne_eq, eq_self, Bool.not_eq_true', Bool.not_eq_false', Bool.and_eq_true, Bool.or_eq_true, Bool.and_eq_false_iff, Bool.or_eq_false_iff, not_true_eq_false, not_false_eq_true, IntKind.wrap_i64, wrapU64, tdivP, tmodP, fdivP, Int.reduceLT, Int.not_lt, Int.not_le, gt_iff_lt, ge_iff_le] at * <;> first | contradiction | omega)
      · exact h
    have hq19 : ((22 : Int) == p % (24 : Int)) = false := by
      rcases Bool.eq_false_or_eq_true ((22 : Int) == p % (24 : Int)) with h | h
      · exfalso; (simp only [decide_eq_true_eq, decide_eq_false_iff_not, beqI, beqIf, bneI, bneIf, beqB, beqBf, bneB, bneBf, Bool.false_eq_true, Bool.true_eq_false, true_iff, iff_true, false_iff, iff_false, true_and, and_true, false_and, and_false, true_or, or_true, false_or, or_false, ne_eq, eq_self, Bool.not_eq_true', Bool.not_eq_false', Bool.and_eq_true, Bool.or_eq_true, Bool.and_eq_false_iff, Bool.or_eq_false_iff, not_true_eq_false, not_false_eq_true, IntKind.wrap_i64, wrapU64, tdivP, tmodP, fdivP, Int.reduceLT, Int.not_lt, Int.not_le, gt_iff_lt, ge_iff_le] at * <;> first | contradiction | omega)
      · exact h
    have hq20 : ((23 : Int) == p % (24 : Int)) = false := by
      rcases Bool.eq_false_or_eq_true ((23 : Int) == p % (24 : Int)) with h | h
      · exfalso; (simp only [decide_eq_true_eq, decide_eq_false_iff_not, beqI, beqIf, bneI, bneIf, beqB, beqBf, bneB, bneBf, Bool.false_eq_true, Bool.true_eq_false, true_iff, iff_true, false_iff, iff_false, true_and, and_true, false_and, and_false, true_or, or_true, false_or, or_false, ne_eq, eq_self, Bool.not_eq_true', Bool.not_eq_false', Bool.and_eq_true, Bool.or_eq_true, Bool.and_eq_false_iff, Bool.or_eq_false_iff, not_true_eq_false, not_false_eq_true, IntKind.wrap_i64, wrapU64, tdivP, tmodP, fdivP, Int.reduceLT, Int.not_lt, Int.not_le, gt_iff_lt, ge_iff_le] at * <;> first | contradiction | omega)
      · exact h
    have hq21 : (!false == ((3 : Int) == IntKind.i64.wrap ((1 : Int) + IntKind.i64.wrap ((p % (24 : Int)).tdiv (8 : Int))))) = false := by
      rcases Bool.eq_false_or_eq_true (!false == ((3 : Int) == IntKind.i64.wrap ((1 : Int) + IntKind.i64.wrap ((p % (24 : Int)).tdiv (8 : Int))))) with h | h
      · exfalso; (simp only [decide_eq_true_eq, decide_eq_false_iff_not, beqI, beqIf, bneI, bneIf, beqB, beqBf, bneB, bneBf, Bool.false_eq_true, Bool.true_eq_false, true_iff, iff_true, false_iff, iff_false, true_and, and_true, false_and, and_false, true_or, or_true, false_or, or_false, ne_eq, eq_self, Bool.not_eq_true', Bool.not_eq_false', Bool.and_eq_true, Bool.or_eq_true, Bool.and_eq_false_iff, Bool.or_eq_false_iff, not_true_eq_false, not_false_eq_true, IntKind.wrap_i64, wrapU64, tdivP, tmodP, fdivP, Int.reduceLT, Int.not_lt, Int.not_le, gt_iff_lt, ge_iff_le] at * <;> first | contradiction | omega)
      · exact h
    exact lawParts_p0 p hq0 hq1 hq2 hq3 hq4 hq5 hq6 hq7 hq8 hq9 hq10 hq11 hq12 hq13 hq14 hq15 hq16 hq17 hq18 hq19 hq20 hq21
  ·
    rcases Bool.eq_false_or_eq_true ((1 : Int) == p % (24 : Int)) with hq22 | hq22
    ·
      have hq3 : (!true == ((1 : Int) == IntKind.i64.wrap ((1 : Int) + IntKind.i64.wrap ((p % (24 : Int)).tdiv (8 : Int))))) = false := by
        rcases Bool.eq_false_or_eq_true (!true == ((1 : Int) == IntKind.i64.wrap ((1 : Int) + IntKind.i64.wrap ((p % (24 : Int)).tdiv (8 : Int))))) with h | h
        · exfalso; (simp only [decide_eq_true_eq, decide_eq_false_iff_not, beqI, beqIf, bneI, bneIf, beqB, beqBf, bneB, bneBf, Bool.false_eq_true, Bool.true_eq_false, true_iff, iff_true, false_iff, iff_false, true_and, and_true, false_and, and_false, true_or, or_true, false_or, or_false, ne_eq, eq_self, Bool.not_eq_true', Bool.not_eq_false', Bool.and_eq_true, Bool.or_eq_true, Bool.and_eq_false_iff, Bool.or_eq_false_iff, not_true_eq_false, not_false_eq_true, IntKind.wrap_i64, wrapU64, tdivP, tmodP, fdivP, Int.reduceLT, Int.not_lt, Int.not_le, gt_iff_lt, ge_iff_le] at * <;> first | contradiction | omega)
        · exact h
      have hq4 : ((8 : Int) == p % (24 : Int)) = false := by
        rcases Bool.eq_false_or_eq_true ((8 : Int) == p % (24 : Int)) with h | h
        · exfalso; (simp only [decide_eq_true_eq, decide_eq_false_iff_not, beqI, beqIf, bneI, bneIf, beqB, beqBf, bneB, bneBf, Bool.false_eq_true, Bool.true_eq_false, true_iff, iff_true, false_iff, iff_false, true_and, and_true, false_and, and_false, true_or, or_true, false_or, or_false, ne_eq, eq_self, Bool.not_eq_true', Bool.not_eq_false', Bool.and_eq_true, Bool.or_eq_true, Bool.and_eq_false_iff, Bool.or_eq_false_iff, not_true_eq_false, not_false_eq_true, IntKind.wrap_i64, wrapU64, tdivP, tmodP, fdivP, Int.reduceLT, Int.not_lt, Int.not_le, gt_iff_lt, ge_iff_le] at * <;> first | contradiction | omega)
        · exact h
      have hq5 : ((9 : Int) == p % (24 : Int)) = false := by
        rcases Bool.eq_false_or_eq_true ((9 : Int) == p % (24 : Int)) with h | h
        · exfalso; (simp only [decide_eq_true_eq, decide_eq_false_iff_not, beqI, beqIf, bneI, bneIf, beqB, beqBf, bneB, bneBf, Bool.false_eq_true, Bool.true_eq_false, true_iff, iff_true, false_iff, iff_false, true_and, and_true, false_and, and_false, true_or, or_true, false_or, or_false, ne_eq, eq_self, Bool.not_eq_true', Bool.not_eq_false', Bool.and_eq_true, Bool.or_eq_true, Bool.and_eq_false_iff, Bool.or_eq_false_iff, not_true_eq_false, not_false_eq_true, IntKind.wrap_i64, wrapU64, tdivP, tmodP, fdivP, Int.reduceLT, Int.not_lt, Int.not_le, gt_iff_lt, ge_iff_le] at * <;> first | contradiction | omega)
        · exact h
      have hq6 : ((10 : Int) == p % (24 : Int)) = false := by
        rcases Bool.eq_false_or_eq_true ((10 : Int) == p % (24 : Int)) with h | h
        · exfalso; (simp only [decide_eq_true_eq, decide_eq_false_iff_not, beqI, beqIf, bneI, bneIf, beqB, beqBf, bneB, bneBf, Bool.false_eq_true, Bool.true_eq_false, true_iff, iff_true, false_iff, iff_false, true_and, and_true, false_and, and_false, true_or, or_true, false_or, or_false, ne_eq, eq_self, Bool.not_eq_true', Bool.not_eq_false', Bool.and_eq_true, Bool.or_eq_true, Bool.and_eq_false_iff, Bool.or_eq_false_iff, not_true_eq_false, not_false_eq_true, IntKind.wrap_i64, wrapU64, tdivP, tmodP, fdivP, Int.reduceLT, Int.not_lt, Int.not_le, gt_iff_lt, ge_iff_le] at * <;> first | contradiction | omega)
        · exact h
      have hq7 : ((11 : Int) == p % (24 : Int)) = false := by
        rcases Bool.eq_false_or_eq_true ((11 : Int) == p % (24 : Int)) with h | h
        · exfalso; (simp only [decide_eq_true_eq, decide_eq_false_iff_not, beqI, beqIf, bneI, bneIf, beqB, beqBf, bneB, bneBf, Bool.false_eq_true, Bool.true_eq_false, true_iff, iff_true, false_iff, iff_false, true_and, and_true, false_and, and_false, true_or, or_true, false_or, or_false, ne_eq, eq_self, Bool.not_eq_true', Bool.not_eq_false', Bool.and_eq_true, Bool.or_eq_true, Bool.and_eq_false_iff, Bool.or_eq_false_iff, not_true_eq_false, not_false_eq_true, IntKind.wrap_i64, wrapU64, tdivP, tmodP, fdivP, Int.reduceLT, Int.not_lt, Int.not_le, gt_iff_lt, ge_iff_le] at * <;> first | contradiction | omega)
        · exact h
      have hq8 : ((12 : Int) == p % (24 : Int)) = false := by
        rcases Bool.eq_false_or_eq_true ((12 : Int) == p % (24 : Int)) with h | h
        · exfalso; (simp only [decide_eq_true_eq, decide_eq_false_iff_not, beqI, beqIf, bneI, bneIf, beqB, beqBf, bneB, bneBf, Bool.false_eq_true, Bool.true_eq_false, true_iff, iff_true, false_iff, iff_false, true_and, and_true, false_and, and_false, true_or, or_true, false_or, or_false, ne_eq, eq_self, Bool.not_eq_true', Bool.not_eq_false', Bool.and_eq_true, Bool.or_eq_true, Bool.and_eq_false_iff, Bool.or_eq_false_iff, not_true_eq_false, not_false_eq_true, IntKind.wrap_i64, wrapU64, tdivP, tmodP, fdivP, Int.reduceLT, Int.not_lt, Int.not_le, gt_iff_lt, ge_iff_le] at * <;> first | contradiction | omega)
        · exact h
      have hq9 : ((13 : Int) == p % (24 : Int)) = false := by
        rcases Bool.eq_false_or_eq_true ((13 : Int) == p % (24 : Int)) with h | h
        · exfalso; (simp only [decide_eq_true_eq, decide_eq_false_iff_not, beqI, beqIf, bneI, bneIf, beqB, beqBf, bneB, bneBf, Bool.false_eq_true, Bool.true_eq_false, true_iff, iff_true, false_iff, iff_false, true_and, and_true, false_and, and_false, true_or, or_true, false_or, or_false, ne_eq, eq_self, Bool.not_eq_true', Bool.not_eq_false', Bool.and_eq_true, Bool.or_eq_true, Bool.and_eq_false_iff, Bool.or_eq_false_iff, not_true_eq_false, not_false_eq_true, IntKind.wrap_i64, wrapU64, tdivP, tmodP, fdivP, Int.reduceLT, Int.not_lt, Int.not_le, gt_iff_lt, ge_iff_le] at * <;> first | contradiction | omega)
        · exact h
      have hq10 : ((14 : Int) == p % (24 : Int)) = false := by
        rcases Bool.eq_false_or_eq_true ((14 : Int) == p % (24 : Int)) with h | h
        · exfalso; (simp only [decide_eq_true_eq, decide_eq_false_iff_not, beqI, beqIf, bneI, bneIf, beqB, beqBf, bneB, bneBf, Bool.false_eq_true, Bool.true_eq_false, true_iff, iff_true, false_iff, iff_false, true_and, and_true, false_and, and_false, true_or, or_true, false_or, or_false, ne_eq, eq_self, Bool.not_eq_true', Bool.not_eq_false', Bool.and_eq_true, Bool.or_eq_true, Bool.and_eq_false_iff, Bool.or_eq_false_iff, not_true_eq_false, not_false_eq_true, IntKind.wrap_i64, wrapU64, tdivP, tmodP, fdivP, Int.reduceLT, Int.not_lt, Int.not_le, gt_iff_lt, ge_iff_le] at * <;> first | contradiction | omega)
        · exact h
      have hq11 : ((15 : Int) == p % (24 : Int)) = false := by
        rcases Bool.eq_false_or_eq_true ((15 : Int) == p % (24 : Int)) with h | h
        · exfalso; (simp only [decide_eq_true_eq, decide_eq_false_iff_not, beqI, beqIf, bneI, bneIf, beqB, beqBf, bneB, bneBf, Bool.false_eq_true, Bool.true_eq_false, true_iff, iff_true, false_iff, iff_false, true_and, and_true, false_and, and_false, true_or, or_true, false_or, or_false, ne_eq, eq_self, Bool.not_eq_true', Bool.not_eq_false', Bool.and_eq_true, Bool.or_eq_true, Bool.and_eq_false_iff, Bool.or_eq_false_iff, not_true_eq_false, not_false_eq_true, IntKind.wrap_i64, wrapU64, tdivP, tmodP, fdivP, Int.reduceLT, Int.not_lt, Int.not_le, gt_iff_lt, ge_iff_le] at * <;> first | contradiction | omega)
        · exact h
      have hq12 : (!false == ((2 : Int) == IntKind.i64.wrap ((1 : Int) + IntKind.i64.wrap ((p % (24 : Int)).tdiv (8 : Int))))) = false := by
        rcases Bool.eq_false_or_eq_true (!false == ((2 : Int) == IntKind.i64.wrap ((1 : Int) + IntKind.i64.wrap ((p % (24 : Int)).tdiv (8 : Int))))) with h | h
        · exfalso; (simp only [decide_eq_true_eq, decide_eq_false_iff_not, beqI, beqIf, bneI, bneIf, beqB, beqBf, bneB, bneBf, Bool.false_eq_true, Bool.true_eq_false, true_iff, iff_true, false_iff, iff_false, true_and, and_true, false_and, and_false, true_or, or_true, false_or, or_false, ne_eq, eq_self, Bool.not_eq_true', Bool.not_eq_false', Bool.and_eq_true, Bool.or_eq_true, Bool.and_eq_false_iff, Bool.or_eq_false_iff, not_true_eq_false, not_false_eq_true, IntKind.wrap_i64, wrapU64, tdivP, tmodP, fdivP, Int.reduceLT, Int.not_lt, Int.not_le, gt_iff_lt, ge_iff_le] at * <;> first | contradiction | omega)
        · exact h
      have hq13 : ((16 : Int) == p % (24 : Int)) = false := by
        rcases Bool.eq_false_or_eq_true ((16 : Int) == p % (24 : Int)) with h | h
        · exfalso; (simp only [decide_eq_true_eq, decide_eq_false_iff_not, beqI, beqIf, bneI, bneIf, beqB, beqBf, bneB, bneBf, Bool.false_eq_true, Bool.true_eq_false, true_iff, iff_true, false_iff, iff_false, true_and, and_true, false_and, and_false, true_or, or_true, false_or, or_false, ne_eq, eq_self, Bool.not_eq_true', Bool.not_eq_false', Bool.and_eq_true, Bool.or_eq_true, Bool.and_eq_false_iff, Bool.or_eq_false_iff, not_true_eq_false, not_false_eq_true, IntKind.wrap_i64, wrapU64, tdivP, tmodP, fdivP, Int.reduceLT, Int.not_lt, Int.not_le, gt_iff_lt, ge_iff_le] at * <;> first | contradiction | omega)
        · exact h
      have hq14 : ((17 : Int) == p % (24 : Int)) = false := by
        rcases Bool.eq_false_or_eq_true ((17 : Int) == p % (24 : Int)) with h | h
        · exfalso; (simp only [decide_eq_true_eq, decide_eq_false_iff_not, beqI, beqIf, bneI, bneIf, beqB, beqBf, bneB, bneBf, Bool.false_eq_true, Bool.true_eq_false, true_iff, iff_true, false_iff, iff_false, true_and, and_true, false_and, and_false, true_or, or_true, false_or, or_false, ne_eq, eq_self, Bool.not_eq_true', Bool.not_eq_false', Bool.and_eq_true, Bool.or_eq_true, Bool.and_eq_false_iff, Bool.or_eq_false_iff, not_true_eq_false, not_false_eq_true, IntKind.wrap_i64, wrapU64, tdivP, tmodP, fdivP, Int.reduceLT, Int.not_lt, Int.not_le, gt_iff_lt, ge_iff_le] at * <;> first | contradiction | omega)
        · exact h
      have hq15 : ((18 : Int) == p % (24 : Int)) = false := by
        rcases Bool.eq_false_or_eq_true ((18 : Int) == p % (24 : Int)) with h | h
        · exfalso; (simp only [decide_eq_true_eq, decide_eq_false_iff_not, beqI, beqIf, bneI, bneIf, beqB, beqBf, bneB, bneBf, Bool.false_eq_true, Bool.true_eq_false, true_iff, iff_true, false_iff, iff_false, true_and, and_true, false_and, and_false, true_or, or_true, false_or, or_false, ne_eq, eq_self, Bool.not_eq_true', Bool.not_eq_false', Bool.and_eq_true, Bool.or_eq_true, Bool.and_eq_false_iff, Bool.or_eq_false_iff, not_true_eq_false, not_false_eq_true, IntKind.wrap_i64, wrapU64, tdivP, tmodP, fdivP, Int.reduceLT, Int.not_lt, Int.not_le, gt_iff_lt, ge_iff_le] at * <;> first | contradiction | omega)
        · exact h
      have hq16 : ((19 : Int) == p % (24 : Int)) = false := by
        rcases Bool.eq_false_or_eq_true ((19 : Int) == p % (24 : Int)) with h | h
        · exfalso; (simp only [decide_eq_true_eq, decide_eq_false_iff_not, beqI, beqIf, bneI, bneIf, beqB, beqBf, bneB, bneBf, Bool.false_eq_true, Bool.true_eq_false, true_iff, iff_true, false_iff, iff_false, true_and, and_true, false_and, and_false, true_or, or_true, false_or, or_false, ne_eq, eq_self, Bool.not_eq_true', Bool.not_eq_false', Bool.and_eq_true, Bool.or_eq_true, Bool.and_eq_false_iff, Bool.or_eq_false_iff, not_true_eq_false, not_false_eq_true, IntKind.wrap_i64, wrapU64, tdivP, tmodP, fdivP, Int.reduceLT, Int.not_lt, Int.not_le, gt_iff_lt, ge_iff_le] at * <;> first | contradiction | omega)
        · exact h
      have hq17 : ((20 : Int) == p % (24 : Int)) = false := by
        rcases Bool.eq_false_or_eq_true ((20 : Int) == p % (24 : Int)) with h | h
        · exfalso; (simp only [decide_eq_true_eq, decide_eq_false_iff_not, beqI, beqIf, bneI, bneIf, beqB, beqBf, bneB, bneBf, Bool.false_eq_true, Bool.true_eq_false, true_iff, iff_true, false_iff, iff_false, true_and, and_true, false_and, and_false, true_or, or_true, false_or, or_false, ne_eq, eq_self, Bool.not_eq_true', Bool.not_eq_false', Bool.and_eq_true, Bool.or_eq_true, Bool.and_eq_false_iff, Bool.or_eq_false_iff, not_true_eq_false, not_false_eq_true, IntKind.wrap_i64, wrapU64, tdivP, tmodP, fdivP, Int.reduceLT, Int.not_lt, Int.not_le, gt_iff_lt, ge_iff_le] at * <;> first | contradiction | omega)
        · exact h
      have hq18 : ((21 : Int) == p % (24 : Int)) = false := by
        rcases Bool.eq_false_or_eq_true ((21 : Int) == p % (24 : Int)) with h | h
        · exfalso; (simp only [decide_eq_true_eq, decide_eq_false_iff_not, beqI, beqIf, bneI, bneIf, beqB, beqBf, bneB, bneBf, Bool.false_eq_true, Bool.true_eq_false, true_iff, iff_true, false_iff, iff_false, true_and, and_true, false_and, and_false, true_or, or_true, false_or, or_false, ne_eq, eq_self, Bool.not_eq_true', Bool.not_eq_false', Bool.and_eq_true, Bool.or_eq_true, Bool.and_eq_false_iff, Bool.or_eq_false_iff, not_true_eq_false, not_false_eq_true, IntKind.wrap_i64, wrapU64, tdivP, tmodP, fdivP, Int.reduceLT, Int.not_lt, Int.not_le, gt_iff_lt, ge_iff_le] at * <;> first | contradiction | omega)
        · exact h
      have hq19 : ((22 : Int) == p % (24 : Int)) = false := by
        rcases Bool.eq_false_or_eq_true ((22 : Int) == p % (24 : Int)) with h | h
        · exfalso; (simp only [decide_eq_true_eq, decide_eq_false_iff_not, beqI, beqIf, bneI, bneIf, beqB, beqBf, bneB, bneBf, Bool.false_eq_true, Bool.true_eq_false, true_iff, iff_true, false_iff, iff_false, true_and, and_true, false_and, and_false, true_or, or_true, false_or, or_false, ne_eq, eq_self, Bool.not_eq_true', Bool.not_eq_false', Bool.and_eq_true, Bool.or_eq_true, Bool.and_eq_false_iff, Bool.or_eq_false_iff, not_true_eq_false, not_false_eq_true, IntKind.wrap_i64, wrapU64, tdivP, tmodP, fdivP, Int.reduceLT, Int.not_lt, Int.not_le, gt_iff_lt, ge_iff_le] at * <;> first | contradiction | omega)
        · exact h
      have hq20 : ((23 : Int) == p % (24 : Int)) = false := by
        rcases Bool.eq_false_or_eq_true ((23 : Int) == p % (24 : Int)) with h | h
        · exfalso; (simp only [decide_eq_true_eq, decide_eq_false_iff_not, beqI, beqIf, bneI, bneIf, beqB, beqBf, bneB, bneBf, Bool.false_eq_true, Bool.true_eq_false, true_iff, iff_true, false_iff, iff_false, true_and, and_true, false_and, and_false, true_or, or_true, false_or, or_false, ne_eq, eq_self, Bool.not_eq_true', Bool.not_eq_false', Bool.and_eq_true, Bool.or_eq_true, Bool.and_eq_false_iff, Bool.or_eq_false_iff, not_true_eq_false, not_false_eq_true, IntKind.wrap_i64, wrapU64, tdivP, tmodP, fdivP, Int.reduceLT, Int.not_lt, Int.not_le, gt_iff_lt, ge_iff_le] at * <;> first | contradiction | omega)
        · exact h
      have hq21 : (!false == ((3 : Int) == IntKind.i64.wrap ((1 : Int) + IntKind.i64.wrap ((p % (24 : Int)).tdiv (8 : Int))))) = false := by
        rcases Bool.eq_false_or_eq_true (!false == ((3 : Int) == IntKind.i64.wrap ((1 : Int) + IntKind.i64.wrap ((p % (24 : Int)).tdiv (8 : Int))))) with h | h
        · exfalso; (simp only [decide_eq_true_eq, decide_eq_false_iff_not, beqI, beqIf, bneI, bneIf, beqB, beqBf, bneB, bneBf, Bool.false_eq_true, Bool.true_eq_false, true_iff, iff_true, false_iff, iff_false, true_and, and_true, false_and, and_false, true_or, or_true, false_or, or_false, ne_eq, eq_self, Bool.not_eq_true', Bool.not_eq_false', Bool.and_eq_true, Bool.or_eq_true, Bool.and_eq_false_iff, Bool.or_eq_false_iff, not_true_eq_false, not_false_eq_true, IntKind.wrap_i64, wrapU64, tdivP, tmodP, fdivP, Int.reduceLT, Int.not_lt, Int.not_le, gt_iff_lt, ge_iff_le] at * <;> first | contradiction | omega)
        · exact h
      exact lawParts_p1 p hq0 hq1 hq2 hq22 hq3 hq4 hq5 hq6 hq7 hq8 hq9 hq10 hq11 hq12 hq13 hq14 hq15 hq16 hq17 hq18 hq19 hq20 hq21
    ·
      rcases Bool.eq_false_or_eq_true ((2 : Int) == p % (24 : Int)) with hq23 | hq23
      ·
        have hq3 : (!true == ((1 : Int) == IntKind.i64.wrap ((1 : Int) + IntKind.i64.wrap ((p % (24 : Int)).tdiv (8 : Int))))) = false := by
          rcases Bool.eq_false_or_eq_true (!true == ((1 : Int) == IntKind.i64.wrap ((1 : Int) + IntKind.i64.wrap ((p % (24 : Int)).tdiv (8 : Int))))) with h | h
          · exfalso; (simp only [decide_eq_true_eq, decide_eq_false_iff_not, beqI, beqIf, bneI, bneIf, beqB, beqBf, bneB, bneBf, Bool.false_eq_true, Bool.true_eq_false, true_iff, iff_true, false_iff, iff_false, true_and, and_true, false_and, and_false, true_or, or_true, false_or, or_false, ne_eq, eq_self, Bool.not_eq_true', Bool.not_eq_false', Bool.and_eq_true, Bool.or_eq_true, Bool.and_eq_false_iff, Bool.or_eq_false_iff, not_true_eq_false, not_false_eq_true, IntKind.wrap_i64, wrapU64, tdivP, tmodP, fdivP, Int.reduceLT, Int.not_lt, Int.not_le, gt_iff_lt, ge_iff_le] at * <;> first | contradiction | omega)
          · exact h
        have hq4 : ((8 : Int) == p % (24 : Int)) = false := by
          rcases Bool.eq_false_or_eq_true ((8 : Int) == p % (24 : Int)) with h | h
          · exfalso; (simp only [decide_eq_true_eq, decide_eq_false_iff_not, beqI, beqIf, bneI, bneIf, beqB, beqBf, bneB, bneBf, Bool.false_eq_true, Bool.true_eq_false, true_iff, iff_true, false_iff, iff_false, true_and, and_true, false_and, and_false, true_or, or_true, false_or, or_false, ne_eq, eq_self, Bool.not_eq_true', Bool.not_eq_false', Bool.and_eq_true, Bool.or_eq_true, Bool.and_eq_false_iff, Bool.or_eq_false_iff, not_true_eq_false, not_false_eq_true, IntKind.wrap_i64, wrapU64, tdivP, tmodP, fdivP, Int.reduceLT, Int.not_lt, Int.not_le, gt_iff_lt, ge_iff_le] at * <;> first | contradiction | omega)
          · exact h
        have hq5 : ((9 : Int) == p % (24 : Int)) = false := by
          rcases Bool.eq_false_or_eq_true ((9 : Int) == p % (24 : Int)) with h | h
          · exfalso; (simp only [decide_eq_true_eq, decide_eq_false_iff_not, beqI, beqIf, bneI, bneIf, beqB, beqBf, bneB, bneBf, Bool.false_eq_true, Bool.true_eq_false, true_iff, iff_true, false_iff, iff_false, true_and, and_true, false_and, and_false, true_or, or_true, false_or, or_false, ne_eq, eq_self, Bool.not_eq_true', Bool.not_eq_false', Bool.and_eq_true, Bool.or_eq_true, Bool.and_eq_false_iff, Bool.or_eq_false_iff, not_true_eq_false, not_false_eq_true, IntKind.wrap_i64, wrapU64, tdivP, tmodP, fdivP, Int.reduceLT, Int.not_lt, Int.not_le, gt_iff_lt, ge_iff_le] at * <;> first | contradiction | omega)
          · exact h
        have hq6 : ((10 : Int) == p % (24 : Int)) = false := by
          rcases Bool.eq_false_or_eq_true ((10 : Int) == p % (24 : Int)) with h | h
          · exfalso; (simp only [decide_eq_true_eq, decide_eq_false_iff_not, beqI, beqIf, bneI, bneIf, beqB, beqBf, bneB, bneBf, Bool.false_eq_true, Bool.true_eq_false, true_iff, iff_true, false_iff, iff_false, true_and, and_true, false_and, and_false, true_or, or_true, false_or, or_false, ne_eq, eq_self, Bool.not_eq_true', Bool.not_eq_false', Bool.and_eq_true, Bool.or_eq_true, Bool.and_eq_false_iff, Bool.or_eq_false_iff, not_true_eq_false, not_false_eq_true, IntKind.wrap_i64, wrapU64, tdivP, tmodP, fdivP, Int.reduceLT, Int.not_lt, Int.not_le, gt_iff_lt, ge_iff_le] at * <;> first | contradiction | omega)
          · exact h
        have hq7 : ((11 : Int) == p % (24 : Int)) = false := by
          rcases Bool.eq_false_or_eq_true ((11 : Int) == p % (24 : Int)) with h | h
          · exfalso; (simp only [decide_eq_true_eq, decide_eq_false_iff_not, beqI, beqIf, bneI, bneIf, beqB, beqBf, bneB, bneBf, Bool.false_eq_true, Bool.true_eq_false, true_iff, iff_true, false_iff, iff_false, true_and, and_true, false_and, and_false, true_or, or_true, false_or, or_false, ne_eq, eq_self, Bool.not_eq_true', Bool.not_eq_false', Bool.and_eq_true, Bool.or_eq_true, Bool.and_eq_false_iff, Bool.or_eq_false_iff, not_true_eq_false, not_false_eq_true, IntKind.wrap_i64, wrapU64, tdivP, tmodP, fdivP, Int.reduceLT, Int.not_lt, Int.not_le, gt_iff_lt, ge_iff_le] at * <;> first | contradiction | omega)
          · exact h
        have hq8 : ((12 : Int) == p % (24 : Int)) = false := by
          rcases Bool.eq_false_or_eq_true ((12 : Int) == p % (24 : Int)) with h | h
          · exfalso; (simp only [decide_eq_true_eq, decide_eq_false_iff_not, beqI, beqIf, bneI, bneIf, beqB, beqBf, bneB, bneBf, Bool.false_eq_true, Bool.true_eq_false, true_iff, iff_true, false_iff, iff_false, true_and, and_true, false_and, and_false, true_or, or_true, false_or, or_false, ne_eq, eq_self, Bool.not_eq_true', Bool.not_eq_false', Bool.and_eq_true, Bool.or_eq_true, Bool.and_eq_false_iff, Bool.or_eq_false_iff, not_true_eq_false, not_false_eq_true, IntKind.wrap_i64, wrapU64, tdivP, tmodP, fdivP, Int.reduceLT, Int.not_lt, Int.not_le, gt_iff_lt, ge_iff_le] at * <;> first | contradiction | omega)
          · exact h
        have hq9 : ((13 : Int) == p % (24 : Int)) = false := by
          rcases Bool.eq_false_or_eq_true ((13 : Int) == p % (24 : Int)) with h | h
          · exfalso; (simp only [decide_eq_true_eq, decide_eq_false_iff_not, beqI, beqIf, bneI, bneIf, beqB, beqBf, bneB, bneBf, Bool.false_eq_true, Bool.true_eq_false, true_iff, iff_true, false_iff, iff_false, true_and, and_true, false_and, and_false, true_or, or_true, false_or, or_false, ne_eq, eq_self, Bool.not_eq_true', Bool.not_eq_false', Bool.and_eq_true, Bool.or_eq_true, Bool.and_eq_false_iff, Bool.or_eq_false_iff, not_true_eq_false, not_false_eq_true, IntKind.wrap_i64, wrapU64, tdivP, tmodP, fdivP, Int.reduceLT, Int.not_lt, Int.not_le, gt_iff_lt, ge_iff_le] at * <;> first | contradiction | omega)
          · exact h
        have hq10 : ((14 : Int) == p % (24 : Int)) = false := by
          rcases Bool.eq_false_or_eq_true ((14 : Int) == p % (24 : Int)) with h | h
          · exfalso; (simp only [decide_eq_true_eq, decide_eq_false_iff_not, beqI, beqIf, bneI, bneIf, beqB, beqBf, bneB, bneBf, Bool.false_eq_true, Bool.true_eq_false, true_iff, iff_true, false_iff, iff_false, true_and, and_true, false_and, and_false, true_or, or_true, false_or, or_false, ne_eq, eq_self, Bool.not_eq_true', Bool.not_eq_false', Bool.and_eq_true, Bool.or_eq_true, Bool.and_eq_false_iff, Bool.or_eq_false_iff, not_true_eq_false, not_false_eq_true, IntKind.wrap_i64, wrapU64, tdivP, tmodP, fdivP, Int.reduceLT, Int.not_lt, Int.not_le, gt_iff_lt, ge_iff_le] at * <;> first | contradiction | omega)
          · exact h
        have hq11 : ((15 : Int) == p % (24 : Int)) = false := by
          rcases Bool.eq_false_or_eq_true ((15 : Int) == p % (24 : Int)) with h | h
          · exfalso; (simp only [decide_eq_true_eq, decide_eq_false_iff_not, beqI, beqIf, bneI, bneIf, beqB, beqBf, bneB, bneBf, Bool.false_eq_true, Bool.true_eq_false, true_iff, iff_true, false_iff, iff_false, true_and, and_true, false_and, and_false, true_or, or_true, false_or, or_false, ne_eq, eq_self, Bool.not_eq_true', Bool.not_eq_false', Bool.and_eq_true, Bool.or_eq_true, Bool.and_eq_false_iff, Bool.or_eq_false_iff, not_true_eq_false, not_false_eq_true, IntKind.wrap_i64, wrapU64, tdivP, tmodP, fdivP, Int.reduceLT, Int.not_lt, Int.not_le, gt_iff_lt, ge_iff_le] at * <;> first | contradiction | omega)
          · exact h
        have hq12 : (!false == ((2 : Int) == IntKind.i64.wrap ((1 : Int) + IntKind.i64.wrap ((p % (24 : Int)).tdiv (8 : Int))))) = false := by
          rcases Bool.eq_false_or_eq_true (!false == ((2 : Int) == IntKind.i64.wrap ((1 : Int) + IntKind.i64.wrap ((p % (24 : Int)).tdiv (8 : Int))))) with h | h
          · exfalso; (simp only [decide_eq_true_eq, decide_eq_false_iff_not, beqI, beqIf, bneI, bneIf, beqB, beqBf, bneB, bneBf, Bool.false_eq_true, Bool.true_eq_false, true_iff, iff_true, false_iff, iff_false, true_and, and_true, false_and, and_false, true_or, or_true, false_or, or_false, ne_eq, eq_self, Bool.not_eq_true', Bool.not_eq_false', Bool.and_eq_true, Bool.or_eq_true, Bool.and_eq_false_iff, Bool.or_eq_false_iff, not_true_eq_false, not_false_eq_true, IntKind.wrap_i64, wrapU64, tdivP, tmodP, fdivP, Int.reduceLT, Int.not_lt, Int.not_le, gt_iff_lt, ge_iff_le] at * <;> first | contradiction | omega)
          · exact h
        have hq13 : ((16 : Int) == p % (24 : Int)) = false := by
          rcases Bool.eq_false_or_eq_true ((16 : Int) == p % (24 : Int)) with h | h
          · exfalso; (simp only [decide_eq_true_eq, decide_eq_false_iff_not, beqI, beqIf, bneI, bneIf, beqB, beqBf, bneB, bneBf, Bool.false_eq_true, Bool.true_eq_false, true_iff, iff_true, false_iff, iff_false, true_and, and_true, false_and, and_false, true_or, or_true, false_or, or_false, ne_eq, eq_self, Bool.not_eq_true', Bool.not_eq_false', Bool.and_eq_true, Bool.or_eq_true, Bool.and_eq_false_iff, Bool.or_eq_false_iff, not_true_eq_false, not_false_eq_true, IntKind.wrap_i64, wrapU64, tdivP, tmodP, fdivP, Int.reduceLT, Int.not_lt, Int.not_le, gt_iff_lt, ge_iff_le] at * <;> first | contradiction | omega)
          · exact h
        have hq14 : ((17 : Int) == p % (24 : Int)) = false := by
          rcases Bool.eq_false_or_eq_true ((17 : Int) == p % (24 : Int)) with h | h
          · exfalso; (simp only [decide_eq_true_eq, decide_eq_false_iff_not, beqI, beqIf, bneI, bneIf, beqB, beqBf, bneB, bneBf, Bool.false_eq_true, Bool.true_eq_false, true_iff, iff_true, false_iff, iff_false, true_and, and_true, false_and, and_false, true_or, or_true, false_or, or_false, ne_eq, eq_self, Bool.not_eq_true', Bool.not_eq_false', Bool.and_eq_true, Bool.or_eq_true, Bool.and_eq_false_iff, Bool.or_eq_false_iff, not_true_eq_false, not_false_eq_true, IntKind.wrap_i64, wrapU64, tdivP, tmodP, fdivP, Int.reduceLT, Int.not_lt, Int.not_le, gt_iff_lt, ge_iff_le] at * <;> first | contradiction | omega)
          · exact h
        have hq15 : ((18 : Int) == p % (24 : Int)) = false := by
          rcases Bool.eq_false_or_eq_true ((18 : Int) == p % (24 : Int)) with h | h
          · exfalso; (simp only [decide_eq_true_eq, decide_eq_false_iff_not, beqI, beqIf, bneI, bneIf, beqB, beqBf, bneB, bneBf, Bool.false_eq_true, Bool.true_eq_false, true_iff, iff_true, false_iff, iff_false, true_and, and_true, false_and, and_false, true_or, or_true, false_or, or_false, ne_eq, eq_self, Bool.not_eq_true', Bool.not_eq_false', Bool.and_eq_true, Bool.or_eq_true, Bool.and_eq_false_iff, Bool.or_eq_false_iff, not_true_eq_false, not_false_eq_true, IntKind.wrap_i64, wrapU64, tdivP, tmodP, fdivP, Int.reduceLT, Int.not_lt, Int.not_le, gt_iff_lt, ge_iff_le] at * <;> first | contradiction | omega)
          · exact h
        have hq16 : ((19 : Int) == p % (24 : Int)) = false := by
          rcases Bool.eq_false_or_eq_true ((19 : Int) == p % (24 : Int)) with h | h
          · exfalso; (simp only [decide_eq_true_eq, decide_eq_false_iff_not, beqI, beqIf, bneI, bneIf, beqB, beqBf, bneB, bneBf, Bool.false_eq_true, Bool.true_eq_false, true_iff, iff_true, false_iff, iff_false, true_and, and_true, false_and, and_false, true_or, or_true, false_or, or_false, ne_eq, eq_self, Bool.not_eq_true', Bool.not_eq_false', Bool.and_eq_true, Bool.or_eq_true, Bool.and_eq_false_iff, Bool.or_eq_false_iff, not_true_eq_false, not_false_eq_true, IntKind.wrap_i64, wrapU64, tdivP, tmodP, fdivP, Int.reduceLT, Int.not_lt, Int.not_le, gt_iff_lt, ge_iff_le] at * <;> first | contradiction | omega)
          · exact h
        have hq17 : ((20 : Int) == p % (24 : Int)) = false := by
          rcases Bool.eq_false_or_eq_true ((20 : Int) == p % (24 : Int)) with h | h
          · exfalso; (simp only [decide_eq_true_eq, decide_eq_false_iff_not, beqI, beqIf, bneI, bneIf, beqB, beqBf, bneB, bneBf, Bool.false_eq_true, Bool.true_eq_false, true_iff, iff_true, false_iff, iff_false, true_and, and_true, false_and, and_false, true_or, or_true, false_or, or_false, ne_eq, eq_self, Bool.not_eq_true', Bool.not_eq_false', Bool.and_eq_true, Bool.or_eq_true, Bool.and_eq_false_iff, Bool.or_eq_false_iff, not_true_eq_false, not_false_eq_true, IntKind.wrap_i64, wrapU64, tdivP, tmodP, fdivP, Int.reduceLT, Int.not_lt, Int.not_le, gt_iff_lt, ge_iff_le] at * <;> first | contradiction | omega)
          · exact h
        have hq18 : ((21 : Int) == p % (24 : Int)) = false := by
          rcases Bool.eq_false_or_eq_true ((21 : Int) == p % (24 : Int)) with h | h
          · exfalso; (simp only [decide_eq_true_eq, decide_eq_false_iff_not, beqI, beqIf, bneI, bneIf, beqB, beqBf, bneB, bneBf, Bool.false_eq_true, Bool.true_eq_false, true_iff, iff_true, false_iff, iff_false, true_and, and_true, false_and, and_false, true_or, or_true, false_or, or_false, ne_eq, eq_self, Bool.not_eq_true', Bool.not_eq_false', Bool.and_eq_true, Bool.or_eq_true, Bool.and_eq_false_iff, Bool.or_eq_false_iff, not_true_eq_false, not_false_eq_true, IntKind.wrap_i64, wrapU64, tdivP, tmodP, fdivP, Int.reduceLT, Int.not_lt, Int.not_le, gt_iff_lt, ge_iff_le] at * <;> first | contradiction | omega)
          · exact h
        have hq19 : ((22 : Int) == p % (24 : Int)) = false := by
          rcases Bool.eq_false_or_eq_true ((22 : Int) == p % (24 : Int)) with h | h
          · exfalso; (simp only [decide_eq_true_eq, decide_eq_false_iff_not, beqI, beqIf, bneI, bneIf, beqB, beqBf, bneB, bneBf, Bool.false_eq_true, Bool.true_eq_false, true_iff, iff_true, false_iff, iff_false, true_and, and_true, false_and, and_false, true_or, or_true, false_or, or_false, ne_eq, eq_self, Bool.not_eq_true', Bool.not_eq_false', Bool.and_eq_true, Bool.or_eq_true, Bool.and_eq_false_iff, Bool.or_eq_false_iff, not_true_eq_false, not_false_eq_true, IntKind.wrap_i64, wrapU64, tdivP, tmodP, fdivP, Int.reduceLT, Int.not_lt, Int.not_le, gt_iff_lt, ge_iff_le] at * <;> first | contradiction | omega)
          · exact h
        have hq20 : ((23 : Int) == p % (24 : Int)) = false := by
          rcases Bool.eq_false_or_eq_true ((23 : Int) == p % (24 : Int)) with h | h
          · exfalso; (simp only [decide_eq_true_eq, decide_eq_false_iff_not, beqI, beqIf, bneI, bneIf, beqB, beqBf, bneB, bneBf, Bool.false_eq_true, Bool.true_eq_false, true_iff, iff_true, false_iff, iff_false, true_and, and_true, false_and, and_false, true_or, or_true, false_or, or_false, ne_eq, eq_self, Bool.not_eq_true', Bool.not_eq_false', Bool.and_eq_true, Bool.or_eq_true, Bool.and_eq_false_iff, Bool.or_eq_false_iff, not_true_eq_false, not_false_eq_true, IntKind.wrap_i64, wrapU64, tdivP, tmodP, fdivP, Int.reduceLT, Int.not_lt, Int.not_le, gt_iff_lt, ge_iff_le] at * <;> first | contradiction | omega)
          · exact h
        have hq21 : (!false == ((3 : Int) == IntKind.i64.wrap ((1 : Int) + IntKind.i64.wrap ((p % (24 : Int)).tdiv (8 : Int))))) = false := by
          rcases Bool.eq_false_or_eq_true (!false == ((3 : Int) == IntKind.i64.wrap ((1 : Int) + IntKind.i64.wrap ((p % (24 : Int)).tdiv (8 : Int))))) with h | h
          · exfalso; (simp only [decide_eq_true_eq, decide_eq_false_iff_not, beqI, beqIf, bneI, bneIf, beqB, beqBf, bneB, bneBf, Bool.false_eq_true, Bool.true_eq_false, true_iff, iff_true, false_iff, iff_false, true_and, and_true, false_and, and_false, true_or, or_true, false_or, or_false, ne_eq, eq_self, Bool.not_eq_true', Bool.not_eq_false', Bool.and_eq_true, Bool.or_eq_true, Bool.and_eq_false_iff, Bool.or_eq_false_iff, not_true_eq_false, not_false_eq_true, IntKind.wrap_i64, wrapU64, tdivP, tmodP, fdivP, Int.reduceLT, Int.not_lt, Int.not_le, gt_iff_lt, ge_iff_le] at * <;> first | contradiction | omega)
          · exact h
        exact lawParts_p2 p hq0 hq1 hq2 hq22 hq23 hq3 hq4 hq5 hq6 hq7 hq8 hq9 hq10 hq11 hq12 hq13 hq14 hq15 hq16 hq17 hq18 hq19 hq20 hq21
      ·
        rcases Bool.eq_false_or_eq_true ((3 : Int) == p % (24 : Int)) with hq24 | hq24
        ·
          have hq3 : (!true == ((1 : Int) == IntKind.i64.wrap ((1 : Int) + IntKind.i64.wrap ((p % (24 : Int)).tdiv (8 : Int))))) = false := by
            rcases Bool.eq_false_or_eq_true (!true == ((1 : Int) == IntKind.i64.wrap ((1 : Int) + IntKind.i64.wrap ((p % (24 : Int)).tdiv (8 : Int))))) with h | h
            · exfalso; (simp only [decide_eq_true_eq, decide_eq_false_iff_not, beqI, beqIf, bneI, bneIf, beqB, beqBf, bneB, bneBf, Bool.false_eq_true, Bool.true_eq_false, true_iff, iff_true, false_iff, iff_false, true_and, and_true, false_and, and_false, true_or, or_true, false_or, or_false, ne_eq, eq_self, Bool.not_eq_true', Bool.not_eq_false', Bool.and_eq_true, Bool.or_eq_true, Bool.and_eq_false_iff, Bool.or_eq_false_iff, not_true_eq_false, not_false_eq_true, IntKind.wrap_i64, wrapU64, tdivP, tmodP, fdivP, Int.reduceLT, Int.not_lt, Int.not_le, gt_iff_lt, ge_iff_le] at * <;> first | contradiction | omega)
            · exact h
          have hq4 : ((8 : Int) == p % (24 : Int)) = false := by
            rcases Bool.eq_false_or_eq_true ((8 : Int) == p % (24 : Int)) with h | h
            · exfalso; (simp only [decide_eq_true_eq, decide_eq_false_iff_not, beqI, beqIf, bneI, bneIf, beqB, beqBf, bneB, bneBf, Bool.false_eq_true, Bool.true_eq_false, true_iff, iff_true, false_iff, iff_false, true_and, and_true, false_and, and_false, true_or, or_true, false_or, or_false, ne_eq, eq_self, Bool.not_eq_true', Bool.not_eq_false', Bool.and_eq_true, Bool.or_eq_true, Bool.and_eq_false_iff, Bool.or_eq_false_iff, not_true_eq_false, not_false_eq_true, IntKind.wrap_i64, wrapU64, tdivP, tmodP, fdivP, Int.reduceLT, Int.not_lt, Int.not_le, gt_iff_lt, ge_iff_le] at * <;> first | contradiction | omega)
            · exact h
          have hq5 : ((9 : Int) == p % (24 : Int)) = false := by
            rcases Bool.eq_false_or_eq_true ((9 : Int) == p % (24 : Int)) with h | h
            · exfalso; (simp only [decide_eq_true_eq, decide_eq_false_iff_not, beqI, beqIf, bneI, bneIf, beqB, beqBf, bneB, bneBf, Bool.false_eq_true, Bool.true_eq_false, true_iff, iff_true, false_iff, iff_false, true_and, and_true, false_and, and_false, true_or, or_true, false_or, or_false, ne_eq, eq_self, Bool.not_eq_true', Bool.not_eq_false', Bool.and_eq_true, Bool.or_eq_true, Bool.and_eq_false_iff, Bool.or_eq_false_iff, not_true_eq_false, not_false_eq_true, IntKind.wrap_i64, wrapU64, tdivP, tmodP, fdivP, Int.reduceLT, Int.not_lt, Int.not_le, gt_iff_lt, ge_iff_le] at * <;> first | contradiction | omega)
            · exact h
          have hq6 : ((10 : Int) == p % (24 : Int)) = false := by
            rcases Bool.eq_false_or_eq_true ((10 : Int) == p % (24 : Int)) with h | h
            · exfalso; (simp only [decide_eq_true_eq, decide_eq_false_iff_not, beqI, beqIf, bneI, bneIf, beqB, beqBf, bneB, bneBf, Bool.false_eq_true, Bool.true_eq_false, true_iff, iff_true, false_iff, iff_false, true_and, and_true, false_and, and_false, true_or, or_true, false_or, or_false, ne_eq, eq_self, Bool.not_eq_true', Bool.not_eq_false', Bool.and_eq_true, Bool.or_eq_true, Bool.and_eq_false_iff, Bool.or_eq_false_iff, not_true_eq_false, not_false_eq_true, IntKind.wrap_i64, wrapU64, tdivP, tmodP, fdivP, Int.reduceLT, Int.not_lt, Int.not_le, gt_iff_lt, ge_iff_le] at * <;> first | contradiction | omega)
            · exact h
          have hq7 : ((11 : Int) == p % (24 : Int)) = false := by
            rcases Bool.eq_false_or_eq_true ((11 : Int) == p % (24 : Int)) with h | h
            · exfalso; (simp only [decide_eq_true_eq, decide_eq_false_iff_not, beqI, beqIf, bneI, bneIf, beqB, beqBf, bneB, bneBf, Bool.false_eq_true, Bool.true_eq_false, true_iff, iff_true, false_iff, iff_false, true_and, and_true, false_and, and_false, true_or, or_true, false_or, or_false, ne_eq, eq_self, Bool.not_eq_true', Bool.not_eq_false', Bool.and_eq_true, Bool.or_eq_true, Bool.and_eq_false_iff, Bool.or_eq_false_iff, not_true_eq_false, not_false_eq_true, IntKind.wrap_i64, wrapU64, tdivP, tmodP, fdivP, Int.reduceLT, Int.not_lt, Int.not_le, gt_iff_lt, ge_iff_le] at * <;> first | contradiction | omega)
            · exact h
          have hq8 : ((12 : Int) == p % (24 : Int)) = false := by
            rcases Bool.eq_false_or_eq_true ((12 : Int) == p % (24 : Int)) with h | h
            · exfalso; (simp only [decide_eq_true_eq, decide_eq_false_iff_not, beqI, beqIf, bneI, bneIf, beqB, beqBf, bneB, bneBf, Bool.false_eq_true, Bool.true_eq_false, true_iff, iff_true, false_iff, iff_false, true_and, and_true, false_and, and_false, true_or, or_true, false_or, or_false, ne_eq, eq_self, Bool.not_eq_true', Bool.not_eq_false', Bool.and_eq_true, Bool.or_eq_true, Bool.and_eq_false_iff, Bool.or_eq_false_iff, not_true_eq_false, not_false_eq_true, IntKind.wrap_i64, wrapU64, tdivP, tmodP, fdivP, Int.reduceLT, Int.not_lt, Int.not_le, gt_iff_lt, ge_iff_le] at * <;> first | contradiction | omega)
            · exact h
          have hq9 : ((13 : Int) == p % (24 : Int)) = false := by
            rcases Bool.eq_false_or_eq_true ((13 : Int) == p % (24 : Int)) with h | h
            · exfalso; (simp only [decide_eq_true_eq, decide_eq_false_iff_not, beqI, beqIf, bneI, bneIf, beqB, beqBf, bneB, bneBf, Bool.false_eq_true, Bool.true_eq_false, true_iff, iff_true, false_iff, iff_false, true_and, and_true, false_and, and_false, true_or, or_true, false_or, or_false, ne_eq, eq_self, Bool.not_eq_true', Bool.not_eq_false', Bool.and_eq_true, Bool.or_eq_true, Bool.and_eq_false_iff, Bool.or_eq_false_iff, not_true_eq_false, not_false_eq_true, IntKind.wrap_i64, wrapU64, tdivP, tmodP, fdivP, Int.reduceLT, Int.not_lt, Int.not_le, gt_iff_lt, ge_iff_le] at * <;> first | contradiction | omega)
            · exact h
          have hq10 : ((14 : Int) == p % (24 : Int)) = false := by
            rcases Bool.eq_false_or_eq_true ((14 : Int) == p % (24 : Int)) with h | h
            · exfalso; (simp only [decide_eq_true_eq, decide_eq_false_iff_not, beqI, beqIf, bneI, bneIf, beqB, beqBf, bneB, bneBf, Bool.false_eq_true, Bool.true_eq_false, true_iff, iff_true, false_iff, iff_false, true_and, and_true, false_and, and_false, true_or, or_true, false_or, or_false, ne_eq, eq_self, Bool.not_eq_true', Bool.not_eq_false', Bool.and_eq_true, Bool.or_eq_true, Bool.and_eq_false_iff, Bool.or_eq_false_iff, not_true_eq_false, not_false_eq_true, IntKind.wrap_i64, wrapU64, tdivP, tmodP, fdivP, Int.reduceLT, Int.not_lt, Int.not_le, gt_iff_lt, ge_iff_le] at * <;> first | contradiction | omega)
            · exact h
          have hq11 : ((15 : Int) == p % (24 : Int)) = false := by
            rcases Bool.eq_false_or_eq_true ((15 : Int) == p % (24 : Int)) with h | h
            · exfalso; (simp only [decide_eq_true_eq, decide_eq_false_iff_not, beqI, beqIf, bneI, bneIf, beqB, beqBf, bneB, bneBf, Bool.false_eq_true, Bool.true_eq_false, true_iff, iff_true, false_iff, iff_false, true_and, and_true, false_and, and_false, true_or, or_true, false_or, or_false, ne_eq, eq_self, Bool.not_eq_true', Bool.not_eq_false', Bool.and_eq_true, Bool.or_eq_true, Bool.and_eq_false_iff, Bool.or_eq_false_iff, not_true_eq_false, not_false_eq_true, IntKind.wrap_i64, wrapU64, tdivP, tmodP, fdivP, Int.reduceLT, Int.not_lt, Int.not_le, gt_iff_lt, ge_iff_le] at * <;> first | contradiction | omega)
            · exact h
          have hq12 : (!false == ((2 : Int) == IntKind.i64.wrap ((1 : Int) + IntKind.i64.wrap ((p % (24 : Int)).tdiv (8 : Int))))) = false := by
            rcases Bool.eq_false_or_eq_true (!false == ((2 : Int) == IntKind.i64.wrap ((1 : Int) + IntKind.i64.wrap ((p % (24 : Int)).tdiv (8 : Int))))) with h | h
            · exfalso; (simp only [decide_eq_true_eq, decide_eq_false_iff_not, beqI, beqIf, bneI, bneIf, beqB, beqBf, bneB, bneBf, Bool.false_eq_true, Bool.true_eq_false, true_iff, iff_true, false_iff, iff_false, true_and, and_true, false_and, and_false, true_or, or_true, false_or, or_false, ne_eq, eq_self, Bool.not_eq_true', Bool.not_eq_false', Bool.and_eq_true, Bool.or_eq_true, Bool.and_eq_false_iff, Bool.or_eq_false_iff, not_true_eq_false, not_false_eq_true, IntKind.wrap_i64, wrapU64, tdivP, tmodP, fdivP, Int.reduceLT, Int.not_lt, Int.not_le, gt_iff_lt, ge_iff_le] at * <;> first | contradiction | omega)
            · exact h
          have hq13 : ((16 : Int) == p % (24 : Int)) = false := by
            rcases Bool.eq_false_or_eq_true ((16 : Int) == p % (24 : Int)) with h | h
            · exfalso; (simp only [decide_eq_true_eq, decide_eq_false_iff_not, beqI, beqIf, bneI, bneIf, beqB, beqBf, bneB, bneBf, Bool.false_eq_true, Bool.true_eq_false, true_iff, iff_true, false_iff, iff_false, true_and, and_true, false_and, and_false, true_or, or_true, false_or, or_false, ne_eq, eq_self, Bool.not_eq_true', Bool.not_eq_false', Bool.and_eq_true, Bool.or_eq_true, Bool.and_eq_false_iff, Bool.or_eq_false_iff, not_true_eq_false, not_false_eq_true, IntKind.wrap_i64, wrapU64, tdivP, tmodP, fdivP, Int.reduceLT, Int.not_lt, Int.not_le, gt_iff_lt, ge_iff_le] at * <;> first | contradiction | omega)
            · exact h
          have hq14 : ((17 : Int) == p % (24 : Int)) = false := by
            rcases Bool.eq_false_or_eq_true ((17 : Int) == p % (24 : Int)) with h | h
            · exfalso; (simp only [decide_eq_true_eq, decide_eq_false_iff_not, beqI, beqIf, bneI, bneIf, beqB, beqBf, bneB, bneBf, Bool.false_eq_true, Bool.true_eq_false, true_iff, iff_true, false_iff, iff_false, true_and, and_true, false_and, and_false, true_or, or_true, false_or, or_false, ne_eq, eq_self, Bool.not_eq_true', Bool.not_eq_false', Bool.and_eq_true, Bool.or_eq_true, Bool.and_eq_false_iff, Bool.or_eq_false_iff, not_true_eq_false, not_false_eq_true, IntKind.wrap_i64, wrapU64, tdivP, tmodP, fdivP, Int.reduceLT, Int.not_lt, Int.not_le, gt_iff_lt, ge_iff_le] at * <;> first | contradiction | omega)
            · exact h
          have hq15 : ((18 : Int) == p % (24 : Int)) = false := by
            rcases Bool.eq_false_or_eq_true ((18 : Int) == p % (24 : Int)) with h | h
            · exfalso; (simp only [decide_eq_true_eq, decide_eq_false_iff_not, beqI, beqIf, bneI, bneIf, beqB, beqBf, bneB, bneBf, Bool.false_eq_true, Bool.true_eq_false, true_iff, iff_true, false_iff, iff_false, true_and, and_true, false_and, and_false, true_or, or_true, false_or, or_false, ne_eq, eq_self, Bool.not_eq_true', Bool.not_eq_false', Bool.and_eq_true, Bool.or_eq_true, Bool.and_eq_false_iff, Bool.or_eq_false_iff, not_true_eq_false, not_false_eq_true, IntKind.wrap_i64, wrapU64, tdivP, tmodP, fdivP, Int.reduceLT, Int.not_lt, Int.not_le, gt_iff_lt, ge_iff_le] at * <;> first | contradiction | omega)
            · exact h
          have hq16 : ((19 : Int) == p % (24 : Int)) = false := by
            rcases Bool.eq_false_or_eq_true ((19 : Int) == p % (24 : Int)) with h | h
            · exfalso; (simp only [decide_eq_true_eq, decide_eq_false_iff_not, beqI, beqIf, bneI, bneIf, beqB, beqBf, bneB, bneBf, Bool.false_eq_true, Bool.true_eq_false, true_iff, iff_true, false_iff, iff_false, true_and, and_true, false_and, and_false, true_or, or_true, false_or, or_false, ne_eq, eq_self, Bool.not_eq_true', Bool.not_eq_false', Bool.and_eq_true, Bool.or_eq_true, Bool.and_eq_false_iff, Bool.or_eq_false_iff, not_true_eq_false, not_false_eq_true, IntKind.wrap_i64, wrapU64, tdivP, tmodP, fdivP, Int.reduceLT, Int.not_lt, Int.not_le, gt_iff_lt, ge_iff_le] at * <;> first | contradiction | omega)
            · exact h
          have hq17 : ((20 : Int) == p % (24 : Int)) = false := by
            rcases Bool.eq_false_or_eq_true ((20 : Int) == p % (24 : Int)) with h | h
            · exfalso; (simp only [decide_eq_true_eq, decide_eq_false_iff_not, beqI, beqIf, bneI, bneIf, beqB, beqBf, bneB, bneBf, Bool.false_eq_true, Bool.true_eq_false, true_iff, iff_true, false_iff, iff_false, true_and, and_true, false_and, and_false, true_or, or_true, false_or, or_false, ne_eq, eq_self, Bool.not_eq_true', Bool.not_eq_false', Bool.and_eq_true, Bool.or_eq_true, Bool.and_eq_false_iff, Bool.or_eq_false_iff, not_true_eq_false, not_false_eq_true, IntKind.wrap_i64, wrapU64, tdivP, tmodP, fdivP, Int.reduceLT, Int.not_lt, Int.not_le, gt_iff_lt, ge_iff_le] at * <;> first | contradiction | omega)
            · exact h
          have hq18 : ((21 : Int) == p % (24 : Int)) = false := by
            rcases Bool.eq_false_or_eq_true ((21 : Int) == p % (24 : Int)) with h | h
            · exfalso; (simp only [decide_eq_true_eq, decide_eq_false_iff_not, beqI, beqIf, bneI, bneIf, beqB, beqBf, bneB, bneBf, Bool.false_eq_true, Bool.true_eq_false, true_iff, iff_true, false_iff, iff_false, true_and, and_true, false_and, and_false, true_or, or_true, false_or, or_false, ne_eq, eq_self, Bool.not_eq_true', Bool.not_eq_false', Bool.and_eq_true, Bool.or_eq_true, Bool.and_eq_false_iff, Bool.or_eq_false_iff, not_true_eq_false, not_false_eq_true, IntKind.wrap_i64, wrapU64, tdivP, tmodP, fdivP, Int.reduceLT, Int.not_lt, Int.not_le, gt_iff_lt, ge_iff_le] at * <;> first | contradiction | omega)
            · exact h
          have hq19 : ((22 : Int) == p % (24 : Int)) = false := by
            rcases Bool.eq_false_or_eq_true ((22 : Int) == p % (24 : Int)) with h | h
            · exfalso; (simp only [decide_eq_true_eq, decide_eq_false_iff_not, beqI, beqIf, bneI, bneIf, beqB, beqBf, bneB, bneBf, Bool.false_eq_true, Bool.true_eq_false, true_iff, iff_true, false_iff, iff_false, true_and, and_true, false_and, and_false, true_or, or_true, false_or, or_false, ne_eq, eq_self, Bool.not_eq_true', Bool.not_eq_false', Bool.and_eq_true, Bool.or_eq_true, Bool.and_eq_false_iff, Bool.or_eq_false_iff, not_true_eq_false, not_false_eq_true, IntKind.wrap_i64, wrapU64, tdivP, tmodP, fdivP, Int.reduceLT, Int.not_lt, Int.not_le, gt_iff_lt, ge_iff_le] at * <;> first | contradiction | omega)
            · exact h
          have hq20 : ((23 : Int) == p % (24 : Int)) = false := by
            rcases Bool.eq_false_or_eq_true ((23 : Int) == p % (24 : Int)) with h | h
            · exfalso; (simp only [decide_eq_true_eq, decide_eq_false_iff_not, beqI, beqIf, bneI, bneIf, beqB, beqBf, bneB, bneBf, Bool.false_eq_true, Bool.true_eq_false, true_iff, iff_true, false_iff, iff_false, true_and, and_true, false_and, and_false, true_or, or_true, false_or, or_false, ne_eq, eq_self, Bool.not_eq_true', Bool.not_eq_false', Bool.and_eq_true, Bool.or_eq_true, Bool.and_eq_false_iff, Bool.or_eq_false_iff, not_true_eq_false, not_false_eq_true, IntKind.wrap_i64, wrapU64, tdivP, tmodP, fdivP, Int.reduceLT, Int.not_lt, Int.not_le, gt_iff_lt, ge_iff_le] at * <;> first | contradiction | omega)
            · exact h
          have hq21 : (!false == ((3 : Int) == IntKind.i64.wrap ((1 : Int) + IntKind.i64.wrap ((p % (24 : Int)).tdiv (8 : Int))))) = false := by
            rcases Bool.eq_false_or_eq_true (!false == ((3 : Int) == IntKind.i64.wrap ((1 : Int) + IntKind.i64.wrap ((p % (24 : Int)).tdiv (8 : Int))))) with h | h
            · exfalso; (simp only [decide_eq_true_eq, decide_eq_false_iff_not, beqI, beqIf, bneI, bneIf, beqB, beqBf, bneB, bneBf, Bool.false_eq_true, Bool.true_eq_false, true_iff, iff_true, false_iff, iff_false, true_and, and_true, false_and, and_false, true_or, or_true, false_or, or_false, ne_eq, eq_self, Bool.not_eq_true', Bool.not_eq_false', Bool.and_eq_true, Bool.or_eq_true, Bool.and_eq_false_iff, Bool.or_eq_false_iff, not_true_eq_false, not_false_eq_true, IntKind.wrap_i64, wrapU64, tdivP, tmodP, fdivP, Int.reduceLT, Int.not_lt, Int.not_le, gt_iff_lt, ge_iff_le] at * <;> first | contradiction | omega)
            · exact h
          exact lawParts_p3 p hq0 hq1 hq2 hq22 hq23 hq24 hq3 hq4 hq5 hq6 hq7 hq8 hq9 hq10 hq11 hq12 hq13 hq14 hq15 hq16 hq17 hq18 hq19 hq20 hq21
        ·
          rcases Bool.eq_false_or_eq_true ((4 : Int) == p % (24 : Int)) with hq25 | hq25
          ·
            have hq3 : (!true == ((1 : Int) == IntKind.i64.wrap ((1 : Int) + IntKind.i64.wrap ((p % (24 : Int)).tdiv (8 : Int))))) = false := by
              rcases Bool.eq_false_or_eq_true (!true == ((1 : Int) == IntKind.i64.wrap ((1 : Int) + IntKind.i64.wrap ((p % (24 : Int)).tdiv (8 : Int))))) with h | h
              · exfalso; (simp only [decide_eq_true_eq, decide_eq_false_iff_not, beqI, beqIf, bneI, bneIf, beqB, beqBf, bneB, bneBf, Bool.false_eq_true, Bool.true_eq_false, true_iff, iff_true, false_iff, iff_false, true_and, and_true, false_and, and_false, true_or, or_true, false_or, or_false, ne_eq, eq_self, Bool.not_eq_true', Bool.not_eq_false', Bool.and_eq_true, Bool.or_eq_true, Bool.and_eq_false_iff, Bool.or_eq_false_iff, not_true_eq_false, not_false_eq_true, IntKind.wrap_i64, wrapU64, tdivP, tmodP, fdivP, Int.reduceLT, Int.not_lt, Int.not_le, gt_iff_lt, ge_iff_le] at * <;> first | contradiction | omega)
              · exact h
            have hq4 : ((8 : Int) == p % (24 : Int)) = false := by
              rcases Bool.eq_false_or_eq_true ((8 : Int) == p % (24 : Int)) with h | h
              · exfalso; (simp only [decide_eq_true_eq, decide_eq_false_iff_not, beqI, beqIf, bneI, bneIf, beqB, beqBf, bneB, bneBf, Bool.false_eq_true, Bool.true_eq_false, true_iff, iff_true, false_iff, iff_false, true_and, and_true, false_and, and_false, true_or, or_true, false_or, or_false, ne_eq, eq_self, Bool.not_eq_true', Bool.not_eq_false', Bool.and_eq_true, Bool.or_eq_true, Bool.and_eq_false_iff, Bool.or_eq_false_iff, not_true_eq_false, not_false_eq_true, IntKind.wrap_i64, wrapU64, tdivP, tmodP, fdivP, Int.reduceLT, Int.not_lt, Int.not_le, gt_iff_lt, ge_iff_le] at * <;> first | contradiction | omega)
              · exact h
            have hq5 : ((9 : Int) == p % (24 : Int)) = false := by
              rcases Bool.eq_false_or_eq_true ((9 : Int) == p % (24 : Int)) with h | h
              · exfalso; (simp only [decide_eq_true_eq, decide_eq_false_iff_not, beqI, beqIf, bneI, bneIf, beqB, beqBf, bneB, bneBf, Bool.false_eq_true, Bool.true_eq_false, true_iff, iff_true, false_iff, iff_false, true_and, and_true, false_and, and_false, true_or, or_true, false_or, or_false, ne_eq, eq_self, Bool.not_eq_true', Bool.not_eq_false', Bool.and_eq_true, Bool.or_eq_true, Bool.and_eq_false_iff, Bool.or_eq_false_iff, not_true_eq_false, not_false_eq_true, IntKind.wrap_i64, wrapU64, tdivP, tmodP, fdivP, Int.reduceLT, Int.not_lt, Int.not_le, gt_iff_lt, ge_iff_le] at * <;> first | contradiction | omega)
              · exact h
            have hq6 : ((10 : Int) == p % (24 : Int)) = false := by
              rcases Bool.eq_false_or_eq_true ((10 : Int) == p % (24 : Int)) with h | h
              · exfalso; (simp only [decide_eq_true_eq, decide_eq_false_iff_not, beqI, beqIf, bneI, bneIf, beqB, beqBf, bneB, bneBf, Bool.false_eq_true, Bool.true_eq_false, true_iff, iff_true, false_iff, iff_false, true_and, and_true, false_and, and_false, true_or, or_true, false_or, or_false, ne_eq, eq_self, Bool.not_eq_true', Bool.not_eq_false', Bool.and_eq_true, Bool.or_eq_true, Bool.and_eq_false_iff, Bool.or_eq_false_iff, not_true_eq_false, not_false_eq_true, IntKind.wrap_i64, wrapU64, tdivP, tmodP, fdivP, Int.reduceLT, Int.not_lt, Int.not_le, gt_iff_lt, ge_iff_le] at * <;> first | contradiction | omega)
              · exact h
            have hq7 : ((11 : Int) == p % (24 : Int)) = false := by
              rcases Bool.eq_false_or_eq_true ((11 : Int) == p % (24 : Int)) with h | h
              · exfalso; (simp only [decide_eq_true_eq, decide_eq_false_iff_not, beqI, beqIf, bneI, bneIf, beqB, beqBf, bneB, bneBf, Bool.false_eq_true, Bool.true_eq_false, true_iff, iff_true, false_iff, iff_false, true_and, and_true, false_and, and_false, true_or, or_true, false_or, or_false, ne_eq, eq_self, Bool.not_eq_true', Bool.not_eq_false', Bool.and_eq_true, Bool.or_eq_true, Bool.and_eq_false_iff, Bool.or_eq_false_iff, not_true_eq_false, not_false_eq_true, IntKind.wrap_i64, wrapU64, tdivP, tmodP, fdivP, Int.reduceLT, Int.not_lt, Int.not_le, gt_iff_lt, ge_iff_le] at * <;> first | contradiction | omega)
              · exact h
            have hq8 : ((12 : Int) == p % (24 : Int)) = false := by
              rcases Bool.eq_false_or_eq_true ((12 : Int) == p % (24 : Int)) with h | h
              · exfalso; (simp only [decide_eq_true_eq, decide_eq_false_iff_not, beqI, beqIf, bneI, bneIf, beqB, beqBf, bneB, bneBf, Bool.false_eq_true, Bool.true_eq_false, true_iff, iff_true, false_iff, iff_false, true_and, and_true, false_and, and_false, true_or, or_true, false_or, or_false, ne_eq, eq_self, Bool.not_eq_true', Bool.not_eq_false', Bool.and_eq_true, Bool.or_eq_true, Bool.and_eq_false_iff, Bool.or_eq_false_iff, not_true_eq_false, not_false_eq_true, IntKind.wrap_i64, wrapU64, tdivP, tmodP, fdivP, Int.reduceLT, Int.not_lt, Int.not_le, gt_iff_lt, ge_iff_le] at * <;> first | contradiction | omega)
              · exact h
            have hq9 : ((13 : Int) == p % (24 : Int)) = false := by
              rcases Bool.eq_false_or_eq_true ((13 : Int) == p % (24 : Int)) with h | h
              · exfalso; (simp only [decide_eq_true_eq, decide_eq_false_iff_not, beqI, beqIf, bneI, bneIf, beqB, beqBf, bneB, bneBf, Bool.false_eq_true, Bool.true_eq_false, true_iff, iff_true, false_iff, iff_false, true_and, and_true, false_and, and_false, true_or, or_true, false_or, or_false, ne_eq, eq_self, Bool.not_eq_true', Bool.not_eq_false', Bool.and_eq_true, Bool.or_eq_true, Bool.and_eq_false_iff, Bool.or_eq_false_iff, not_true_eq_false, not_false_eq_true, IntKind.wrap_i64, wrapU64, tdivP, tmodP, fdivP, Int.reduceLT, Int.not_lt, Int.not_le, gt_iff_lt, ge_iff_le] at * <;> first | contradiction | omega)
              · exact h
            have hq10 : ((14 : Int) == p % (24 : Int)) = false := by
              rcases Bool.eq_false_or_eq_true ((14 : Int) == p % (24 : Int)) with h | h
              · exfalso; (simp only [decide_eq_true_eq, decide_eq_false_iff_not, beqI, beqIf, bneI, bneIf, beqB, beqBf, bneB, bneBf, Bool.false_eq_true, Bool.true_eq_false, true_iff, iff_true, false_iff, iff_false, true_and, and_true, false_and, and_false, true_or, or_true, false_or, or_false, ne_eq, eq_self, Bool.not_eq_true', Bool.not_eq_false', Bool.and_eq_true, Bool.or_eq_true, Bool.and_eq_false_iff, Bool.or_eq_false_iff, not_true_eq_false, not_false_eq_true, IntKind.wrap_i64, wrapU64, tdivP, tmodP, fdivP, Int.reduceLT, Int.not_lt, Int.not_le, gt_iff_lt, ge_iff_le] at * <;> first | contradiction | omega)
              · exact h
            have hq11 : ((15 : Int) == p % (24 : Int)) = false := by
              rcases Bool.eq_false_or_eq_true ((15 : Int) == p % (24 : Int)) with h | h
              · exfalso; (simp only [decide_eq_true_eq, decide_eq_false_iff_not, beqI, beqIf, bneI, bneIf, beqB, beqBf, bneB, bneBf, Bool.false_eq_true, Bool.true_eq_false, true_iff, iff_true, false_iff, iff_false, true_and, and_true, false_and, and_false, true_or, or_true, false_or, or_false, ne_eq, eq_self, Bool.not_eq_true', Bool.not_eq_false', Bool.and_eq_true, Bool.or_eq_true, Bool.and_eq_false_iff, Bool.or_eq_false_iff, not_true_eq_false, not_false_eq_true, IntKind.wrap_i64, wrapU64, tdivP, tmodP, fdivP, Int.reduceLT, Int.not_lt, Int.not_le, gt_iff_lt, ge_iff_le] at * <;> first | contradiction | omega)
              · exact h
            have hq12 : (!false == ((2 : Int) == IntKind.i64.wrap ((1 : Int) + IntKind.i64.wrap ((p % (24 : Int)).tdiv (8 : Int))))) = false := by
              rcases Bool.eq_false_or_eq_true (!false == ((2 : Int) == IntKind.i64.wrap ((1 : Int) + IntKind.i64.wrap ((p % (24 : Int)).tdiv (8 : Int))))) with h | h
              · exfalso; (simp only [decide_eq_true_eq, decide_eq_false_iff_not, beqI, beqIf, bneI, bneIf, beqB, beqBf, bneB, bneBf, Bool.false_eq_true, Bool.true_eq_false, true_iff, iff_true, false_iff, iff_false, true_and, and_true, false_and, and_false, true_or, or_true, false_or, or_false, ne_eq, eq_self, Bool.not_eq_true', Bool.not_eq_false', Bool.and_eq_true, Bool.or_eq_true, Bool.and_eq_false_iff, Bool.or_eq_false_iff, not_true_eq_false, not_false_eq_true, IntKind.wrap_i64, wrapU64, tdivP, tmodP, fdivP, Int.reduceLT, Int.not_lt, Int.not_le, gt_iff_lt, ge_iff_le] at * <;> first | contradiction | omega)
              · exact h
            have hq13 : ((16 : Int) == p % (24 : Int)) = false := by
              rcases Bool.eq_false_or_eq_true ((16 : Int) == p % (24 : Int)) with h | h
              · exfalso; (simp only [decide_eq_true_eq, decide_eq_false_iff_not, beqI, beqIf, bneI, bneIf, beqB, beqBf, bneB, bneBf, Bool.false_eq_true, Bool.true_eq_false, true_iff, iff_true, false_iff, iff_false, true_and, and_true, false_and, and_false, true_or, or_true, false_or, or_false, ne_eq, eq_self, Bool.not_eq_true', Bool.not_eq_false', Bool.and_eq_true, Bool.or_eq_true, Bool.and_eq_false_iff, Bool.or_eq_false_iff, not_true_eq_false, not_false_eq_true, IntKind.wrap_i64, wrapU64, tdivP, tmodP, fdivP, Int.reduceLT, Int.not_lt, Int.not_le, gt_iff_lt, ge_iff_le] at * <;> first | contradiction | omega)
              · exact h
            have hq14 : ((17 : Int) == p % (24 : Int)) = false := by
              rcases Bool.eq_false_or_eq_true ((17 : Int) == p % (24 : Int)) with h | h
              · exfalso; (simp only [decide_eq_true_eq, decide_eq_false_iff_not, beqI, beqIf, bneI, bneIf, beqB, beqBf, bneB, bneBf, Bool.false_eq_true, Bool.true_eq_false, true_iff, iff_true, false_iff, iff_false, true_and, and_true, false_and, and_false, true_or, or_true, false_or, or_false, ne_eq, eq_self, Bool.not_eq_true', Bool.not_eq_false', Bool.and_eq_true, Bool.or_eq_true, Bool.and_eq_false_iff, Bool.or_eq_false_iff, not_true_eq_false, not_false_eq_true, IntKind.wrap_i64, wrapU64, tdivP, tmodP, fdivP, Int.reduceLT, Int.not_lt, Int.not_le, gt_iff_lt, ge_iff_le] at * <;> first | contradiction | omega)
              · exact h
            have hq15 : ((18 : Int) == p % (24 : Int)) = false := by
              rcases Bool.eq_false_or_eq_true ((18 : Int) == p % (24 : Int)) with h | h
              · exfalso; (simp only [decide_eq_true_eq, decide_eq_false_iff_not, beqI, beqIf, bneI, bneIf, beqB, beqBf, bneB, bneBf, Bool.false_eq_true, Bool.true_eq_false, true_iff, iff_true, false_iff, iff_false, true_and, and_true, false_and, and_false, true_or, or_true, false_or, or_false, ne_eq, eq_self, Bool.not_eq_true', Bool.not_eq_false', Bool.and_eq_true, Bool.or_eq_true, Bool.and_eq_false_iff, Bool.or_eq_false_iff, not_true_eq_false, not_false_eq_true, IntKind.wrap_i64, wrapU64, tdivP, tmodP, fdivP, Int.reduceLT, Int.not_lt, Int.not_le, gt_iff_lt, ge_iff_le] at * <;> first | contradiction | omega)
              · exact h
            have hq16 : ((19 : Int) == p % (24 : Int)) = false := by
              rcases Bool.eq_false_or_eq_true ((19 : Int) == p % (24 : Int)) with h | h
              · exfalso; (simp only [decide_eq_true_eq, decide_eq_false_iff_not, beqI, beqIf, bneI, bneIf, beqB, beqBf, bneB, bneBf, Bool.false_eq_true, Bool.true_eq_false, true_iff, iff_true, false_iff, iff_false, true_and, and_true, false_and, and_false, true_or, or_true, false_or, or_false, ne_eq, eq_self, Bool.not_eq_true', Bool.not_eq_false', Bool.and_eq_true, Bool.or_eq_true, Bool.and_eq_false_iff, Bool.or_eq_false_iff, not_true_eq_false, not_false_eq_true, IntKind.wrap_i64, wrapU64, tdivP, tmodP, fdivP, Int.reduceLT, Int.not_lt, Int.not_le, gt_iff_lt, ge_iff_le] at * <;> first | contradiction | omega)
              · exact h
            have hq17 : ((20 : Int) == p % (24 : Int)) = false := by
              rcases Bool.eq_false_or_eq_true ((20 : Int) == p % (24 : Int)) with h | h
              · exfalso; (simp only [decide_eq_true_eq, decide_eq_false_iff_not, beqI, beqIf, bneI, bneIf, beqB, beqBf, bneB, bneBf, Bool.false_eq_true, Bool.true_eq_false, true_iff, iff_true, false_iff, iff_false, true_and, and_true, false_and, and_false, true_or, or_true, false_or, or_false, ne_eq, eq_self, Bool.not_eq_true', Bool.not_eq_false', Bool.and_eq_true, Bool.or_eq_true, Bool.and_eq_false_iff, Bool.or_eq_false_iff, not_true_eq_false, not_false_eq_true, IntKind.wrap_i64, wrapU64, tdivP, tmodP, fdivP, Int.reduceLT, Int.not_lt, Int.not_le, gt_iff_lt, ge_iff_le] at * <;> first | contradiction | omega)
              · exact h
            have hq18 : ((21 : Int) == p % (24 : Int)) = false := by
              rcases Bool.eq_false_or_eq_true ((21 : Int) == p % (24 : Int)) with h | h
              · exfalso; (simp only [decide_eq_true_eq, decide_eq_false_iff_not, beqI, beqIf, bneI, bneIf, beqB, beqBf, bneB, bneBf, Bool.false_eq_true, Bool.true_eq_false, true_iff, iff_true, false_iff, iff_false, true_and, and_true, false_and, and_false, true_or, or_true, false_or, or_false, ne_eq, eq_self, Bool.not_eq_true', Bool.not_eq_false', Bool.and_eq_true, Bool.or_eq_true, Bool.and_eq_false_iff, Bool.or_eq_false_iff, not_true_eq_false, not_false_eq_true, IntKind.wrap_i64, wrapU64, tdivP, tmodP, fdivP, Int.reduceLT, Int.not_lt, Int.not_le, gt_iff_lt, ge_iff_le] at * <;> first | contradiction | omega)
              · exact h
            have hq19 : ((22 : Int) == p % (24 : Int)) = false := by
              rcases Bool.eq_false_or_eq_true ((22 : Int) == p % (24 : Int)) with h | h
              · exfalso; (simp only [decide_eq_true_eq, decide_eq_false_iff_not, beqI, beqIf, bneI, bneIf, beqB, beqBf, bneB, bneBf, Bool.false_eq_true, Bool.true_eq_false, true_iff, iff_true, false_iff, iff_false, true_and, and_true, false_and, and_false, true_or, or_true, false_or, or_false, ne_eq, eq_self, Bool.not_eq_true', Bool.not_eq_false', Bool.and_eq_true, Bool.or_eq_true, Bool.and_eq_false_iff, Bool.or_eq_false_iff, not_true_eq_false, not_false_eq_true, IntKind.wrap_i64, wrapU64, tdivP, tmodP, fdivP, Int.reduceLT, Int.not_lt, Int.not_le, gt_iff_lt, ge_iff_le] at * <;> first | contradiction | omega)
              · exact h
            have hq20 : ((23 : Int) == p % (24 : Int)) = false := by
              rcases Bool.eq_false_or_eq_true ((23 : Int) == p % (24 : Int)) with h | h
              · exfalso; (simp only [decide_eq_true_eq, decide_eq_false_iff_not, beqI, beqIf, bneI, bneIf, beqB, beqBf, bneB, bneBf, Bool.false_eq_true, Bool.true_eq_false, true_iff, iff_true, false_iff, iff_false, true_and, and_true, false_and, and_false, true_or, or_true, false_or, or_false, ne_eq, eq_self, Bool.not_eq_true', Bool.not_eq_false', Bool.and_eq_true, Bool.or_eq_true, Bool.and_eq_false_iff, Bool.or_eq_false_iff, not_true_eq_false, not_false_eq_true, IntKind.wrap_i64, wrapU64, tdivP, tmodP, fdivP, Int.reduceLT, Int.not_lt, Int.not_le, gt_iff_lt, ge_iff_le] at * <;> first | contradiction | omega)
              · exact h
            have hq21 : (!false == ((3 : Int) == IntKind.i64.wrap ((1 : Int) + IntKind.i64.wrap ((p % (24 : Int)).tdiv (8 : Int))))) = false := by
              rcases Bool.eq_false_or_eq_true (!false == ((3 : Int) == IntKind.i64.wrap ((1 : Int) + IntKind.i64.wrap ((p % (24 : Int)).tdiv (8 : Int))))) with h | h
              · exfalso; (simp only [decide_eq_true_eq, decide_eq_false_iff_not, beqI, beqIf, bneI, bneIf, beqB, beqBf, bneB, bneBf, Bool.false_eq_true, Bool.true_eq_false, true_iff, iff_true, false_iff, iff_false, true_and, and_true, false_and, and_false, true_or, or_true, false_or, or_false, ne_eq, eq_self, Bool.not_eq_true', Bool.not_eq_false', Bool.and_eq_true, Bool.or_eq_true, Bool.and_eq_false_iff, Bool.or_eq_false_iff, not_true_eq_false, not_false_eq_true, IntKind.wrap_i64, wrapU64, tdivP, tmodP, fdivP, Int.reduceLT, Int.not_lt, Int.not_le, gt_iff_lt, ge_iff_le] at * <;> first | contradiction | omega)
              · exact h
            exact lawParts_p4 p hq0 hq1 hq2 hq22 hq23 hq24 hq25 hq3 hq4 hq5 hq6 hq7 hq8 hq9 hq10 hq11 hq12 hq13 hq14 hq15 hq16 hq17 hq18 hq19 hq20 hq21
          ·
            rcases Bool.eq_false_or_eq_true ((5 : Int) == p % (24 : Int)) with hq26 | hq26
            ·
              have hq3 : (!true == ((1 : Int) == IntKind.i64.wrap ((1 : Int) + IntKind.i64.wrap ((p % (24 : Int)).tdiv (8 : Int))))) = false := by
                rcases Bool.eq_false_or_eq_true (!true == ((1 : Int) == IntKind.i64.wrap ((1 : Int) + IntKind.i64.wrap ((p % (24 : Int)).tdiv (8 : Int))))) with h | h
                · exfalso; (simp only [decide_eq_true_eq, decide_eq_false_iff_not, beqI, beqIf, bneI, bneIf, beqB, beqBf, bneB, bneBf, Bool.false_eq_true, Bool.true_eq_false, true_iff, iff_true, false_iff, iff_false, true_and, and_true, false_and, and_false, true_or, or_true, false_or, or_false, ne_eq, eq_self, Bool.not_eq_true', Bool.not_eq_false', Bool.and_eq_true, Bool.or_eq_true, Bool.and_eq_false_iff, Bool.or_eq_false_iff, not_true_eq_false, not_false_eq_true, IntKind.wrap_i64, wrapU64, tdivP, tmodP, fdivP, Int.reduceLT, Int.not_lt, Int.not_le, gt_iff_lt, ge_iff_le] at * <;> first | contradiction | omega)
                · exact h
              have hq4 : ((8 : Int) == p % (24 : Int)) = false := by
                rcases Bool.eq_false_or_eq_true ((8 : Int) == p % (24 : Int)) with h | h
                · exfalso; (simp only [decide_eq_true_eq, decide_eq_false_iff_not, beqI, beqIf, bneI, bneIf, beqB, beqBf, bneB, bneBf, Bool.false_eq_true, Bool.true_eq_false, true_iff, iff_true, false_iff, iff_false, true_and, and_true, false_and, and_false, true_or, or_true, false_or, or_false, ne_eq, eq_self, Bool.not_eq_true', Bool.not_eq_false', Bool.and_eq_true, Bool.or_eq_true, Bool.and_eq_false_iff, Bool.or_eq_false_iff, not_true_eq_false, not_false_eq_true, IntKind.wrap_i64, wrapU64, tdivP, tmodP, fdivP, Int.reduceLT, Int.not_lt, Int.not_le, gt_iff_lt, ge_iff_le] at * <;> first | contradiction | omega)
                · exact h
              have hq5 : ((9 : Int) == p % (24 : Int)) = false := by
                rcases Bool.eq_false_or_eq_true ((9 : Int) == p % (24 : Int)) with h | h
                · exfalso; (simp only [decide_eq_true_eq, decide_eq_false_iff_not, beqI, beqIf, bneI, bneIf, beqB, beqBf, bneB, bneBf, Bool.false_eq_true, Bool.true_eq_false, true_iff, iff_true, false_iff, iff_false, true_and, and_true, false_and, and_false, true_or, or_true, false_or, or_false, ne_eq, eq_self, Bool.not_eq_true', Bool.not_eq_false', Bool.and_eq_true, Bool.or_eq_true, Bool.and_eq_false_iff, Bool.or_eq_false_iff, not_true_eq_false, not_false_eq_true, IntKind.wrap_i64, wrapU64, tdivP, tmodP, fdivP, Int.reduceLT, Int.not_lt, Int.not_le, gt_iff_lt, ge_iff_le] at * <;> first | contradiction | omega)
                · exact h
              have hq6 : ((10 : Int) == p % (24 : Int)) = false := by
                rcases Bool.eq_false_or_eq_true ((10 : Int) == p % (24 : Int)) with h | h
                · exfalso; (simp only [decide_eq_true_eq, decide_eq_false_iff_not, beqI, beqIf, bneI, bneIf, beqB, beqBf, bneB, bneBf, Bool.false_eq_true, Bool.true_eq_false, true_iff, iff_true, false_iff, iff_false, true_and, and_true, false_and, and_false, true_or, or_true, false_or, or_false, ne_eq, eq_self, Bool.not_eq_true', Bool.not_eq_false', Bool.and_eq_true, Bool.or_eq_true, Bool.and_eq_false_iff, Bool.or_eq_false_iff, not_true_eq_false, not_false_eq_true, IntKind.wrap_i64, wrapU64, tdivP, tmodP, fdivP, Int.reduceLT, Int.not_lt, Int.not_le, gt_iff_lt, ge_iff_le] at * <;> first | contradiction | omega)
                · exact h
              have hq7 : ((11 : Int) == p % (24 : Int)) = false := by
                rcases Bool.eq_false_or_eq_true ((11 : Int) == p % (24 : Int)) with h | h
                · exfalso; (simp only [decide_eq_true_eq, decide_eq_false_iff_not, beqI, beqIf, bneI, bneIf, beqB, beqBf, bneB, bneBf, Bool.false_eq_true, Bool.true_eq_false, true_iff, iff_true, false_iff, iff_false, true_and, and_true, false_and, and_false, true_or, or_true, false_or, or_false, ne_eq, eq_self, Bool.not_eq_true', Bool.not_eq_false', Bool.and_eq_true, Bool.or_eq_true, Bool.and_eq_false_iff, Bool.or_eq_false_iff, not_true_eq_false, not_false_eq_true, IntKind.wrap_i64, wrapU64, tdivP, tmodP, fdivP, Int.reduceLT, Int.not_lt, Int.not_le, gt_iff_lt, ge_iff_le] at * <;> first | contradiction | omega)
                · exact h
              have hq8 : ((12 : Int) == p % (24 : Int)) = false := by
                rcases Bool.eq_false_or_eq_true ((12 : Int) == p % (24 : Int)) with h | h
                · exfalso; (simp only [decide_eq_true_eq, decide_eq_false_iff_not, beqI, beqIf, bneI, bneIf, beqB, beqBf, bneB, bneBf, Bool.false_eq_true, Bool.true_eq_false, true_iff, iff_true, false_iff, iff_false, true_and, and_true, false_and, and_false, true_or, or_true, false_or, or_false, ne_eq, eq_self, Bool.not_eq_true', Bool.not_eq_false', Bool.and_eq_true, Bool.or_eq_true, Bool.and_eq_false_iff, Bool.or_eq_false_iff, not_true_eq_false, not_false_eq_true, IntKind.wrap_i64, wrapU64, tdivP, tmodP, fdivP, Int.reduceLT, Int.not_lt, Int.not_le, gt_iff_lt, ge_iff_le] at * <;> first | contradiction | omega)
                · exact h
              have hq9 : ((13 : Int) == p % (24 : Int)) = false := by
                rcases Bool.eq_false_or_eq_true ((13 : Int) == p % (24 : Int)) with h | h
                · exfalso; (simp only [decide_eq_true_eq, decide_eq_false_iff_not, beqI, beqIf, bneI, bneIf, beqB, beqBf, bneB, bneBf, Bool.false_eq_true, Bool.true_eq_false, true_iff, iff_true, false_iff, iff_false, true_and, and_true, false_and, and_false, true_or, or_true, false_or, or_false, ne_eq, eq_self, Bool.not_eq_true', Bool.not_eq_false', Bool.and_eq_true, Bool.or_eq_true, Bool.and_eq_false_iff, Bool.or_eq_false_iff, not_true_eq_false, not_false_eq_true, IntKind.wrap_i64, wrapU64, tdivP, tmodP, fdivP, Int.reduceLT, Int.not_lt, Int.not_le, gt_iff_lt, ge_iff_le] at * <;> first | contradiction | omega)
                · exact h
              have hq10 : ((14 : Int) == p % (24 : Int)) = false := by
                rcases Bool.eq_false_or_eq_true ((14 : Int) == p % (24 : Int)) with h | h
                · exfalso; (simp only [decide_eq_true_eq, decide_eq_false_iff_not, beqI, beqIf, bneI, bneIf, beqB, beqBf, bneB, bneBf, Bool.false_eq_true, Bool.true_eq_false, true_iff, iff_true, false_iff, iff_false, true_and, and_true, false_and, and_false, true_or, or_true, false_or, or_false, ne_eq, eq_self, Bool.not_eq_true', Bool.not_eq_false', Bool.and_eq_true, Bool.or_eq_true, Bool.and_eq_false_iff, Bool.or_eq_false_iff, not_true_eq_false, not_false_eq_true, IntKind.wrap_i64, wrapU64, tdivP, tmodP, fdivP, Int.reduceLT, Int.not_lt, Int.not_le, gt_iff_lt, ge_iff_le] at * <;> first | contradiction | omega)
                · exact h
              have hq11 : ((15 : Int) == p % (24 : Int)) = false := by
                rcases Bool.eq_false_or_eq_true ((15 : Int) == p % (24 : Int)) with h | h
                · exfalso; (simp only [decide_eq_true_eq, decide_eq_false_iff_not, beqI, beqIf, bneI, bneIf, beqB, beqBf, bneB, bneBf, Bool.false_eq_true, Bool.true_eq_false, true_iff, iff_true, false_iff, iff_false, true_and, and_true, false_and, and_false, true_or, or_true, false_or, or_false, ne_eq, eq_self, Bool.not_eq_true', Bool.not_eq_false', Bool.and_eq_true, Bool.or_eq_true, Bool.and_eq_false_iff, Bool.or_eq_false_iff, not_true_eq_false, not_false_eq_true, IntKind.wrap_i64, wrapU64, tdivP, tmodP, fdivP, Int.reduceLT, Int.not_lt, Int.not_le, gt_iff_lt, ge_iff_le] at * <;> first | contradiction | omega)
                · exact h
              have hq12 : (!false == ((2 : Int) == IntKind.i64.wrap ((1 : Int) + IntKind.i64.wrap ((p % (24 : Int)).tdiv (8 : Int))))) = false := by
                rcases Bool.eq_false_or_eq_true (!false == ((2 : Int) == IntKind.i64.wrap ((1 : Int) + IntKind.i64.wrap ((p % (24 : Int)).tdiv (8 : Int))))) with h | h
                · exfalso; (simp only [decide_eq_true_eq, decide_eq_false_iff_not, beqI, beqIf, bneI, bneIf, beqB, beqBf, bneB, bneBf, Bool.false_eq_true, Bool.true_eq_false, true_iff, iff_true, false_iff, iff_false, true_and, and_true, false_and, and_false, true_or, or_true, false_or, or_false, ne_eq, eq_self, Bool.not_eq_true', Bool.not_eq_false', Bool.and_eq_true, Bool.or_eq_true, Bool.and_eq_false_iff, Bool.or_eq_false_iff, not_true_eq_false, not_false_eq_true, IntKind.wrap_i64, wrapU64, tdivP, tmodP, fdivP, Int.reduceLT, Int.not_lt, Int.not_le, gt_iff_lt, ge_iff_le] at * <;> first | contradiction | omega)
                · exact h
              have hq13 : ((16 : Int) == p % (24 : Int)) = false := by
                rcases Bool.eq_false_or_eq_true ((16 : Int) == p % (24 : Int)) with h | h
                · exfalso; (simp only [decide_eq_true_eq, decide_eq_false_iff_not, beqI, beqIf, bneI, bneIf, beqB, beqBf, bneB, bneBf, Bool.false_eq_true, Bool.true_eq_false, true_iff, iff_true, false_iff, iff_false, true_and, and_true, false_and, and_false, true_or, or_true, false_or, or_false, ne_eq, eq_self, Bool.not_eq_true', Bool.not_eq_false', Bool.and_eq_true, Bool.or_eq_true, Bool.and_eq_false_iff, Bool.or_eq_false_iff, not_true_eq_false, not_false_eq_true, IntKind.wrap_i64, wrapU64, tdivP, tmodP, fdivP, Int.reduceLT, Int.not_lt, Int.not_le, gt_iff_lt, ge_iff_le] at * <;> first | contradiction | omega)
                · exact h
              have hq14 : ((17 : Int) == p % (24 : Int)) = false := by
                rcases Bool.eq_false_or_eq_true ((17 : Int) == p % (24 : Int)) with h | h
                · exfalso; (simp only [decide_eq_true_eq, decide_eq_false_iff_not, beqI, beqIf, bneI, bneIf, beqB, beqBf, bneB, bneBf, Bool.false_eq_true, Bool.true_eq_false, true_iff, iff_true, false_iff, iff_false, true_and, and_true, false_and, and_false, true_or, or_true, false_or, or_false, ne_eq, eq_self, Bool.not_eq_true', Bool.not_eq_false', Bool.and_eq_true, Bool.or_eq_true, Bool.and_eq_false_iff, Bool.or_eq_false_iff, not_true_eq_false, not_false_eq_true, IntKind.wrap_i64, wrapU64, tdivP, tmodP, fdivP, Int.reduceLT, Int.not_lt, Int.not_le, gt_iff_lt, ge_iff_le] at * <;> first | contradiction | omega)
                · exact h
              have hq15 : ((18 : Int) == p % (24 : Int)) = false := by
                rcases Bool.eq_false_or_eq_true ((18 : Int) == p % (24 : Int)) with h | h
                · exfalso; (simp only [decide_eq_true_eq, decide_eq_false_iff_not, beqI, beqIf, bneI, bneIf, beqB, beqBf, bneB, bneBf, Bool.false_eq_true, Bool.true_eq_false, true_iff, iff_true, false_iff, iff_false, true_and, and_true, false_and, and_false, true_or, or_true, false_or, or_false, ne_eq, eq_self, Bool.not_eq_true', Bool.not_eq_false', Bool.and_eq_true, Bool.or_eq_true, Bool.and_eq_false_iff, Bool.or_eq_false_iff, not_true_eq_false, not_false_eq_true, IntKind.wrap_i64, wrapU64, tdivP, tmodP, fdivP, Int.reduceLT, Int.not_lt, Int.not_le, gt_iff_lt, ge_iff_le] at * <;> first | contradiction | omega)
                · exact h
              have hq16 : ((19 : Int) == p % (24 : Int)) = false := by
                rcases Bool.eq_false_or_eq_true ((19 : Int) == p % (24 : Int)) with h | h
                · exfalso; (simp only [decide_eq_true_eq, decide_eq_false_iff_not, beqI, beqIf, bneI, bneIf, beqB, beqBf, bneB, bneBf, Bool.false_eq_true, Bool.true_eq_false, true_iff, iff_true, false_iff, iff_false, true_and, and_true, false_and, and_false, true_or, or_true, false_or, or_false, ne_eq, eq_self, Bool.not_eq_true', Bool.not_eq_false', Bool.and_eq_true, Bool.or_eq_true, Bool.and_eq_false_iff, Bool.or_eq_false_iff, not_true_eq_false, not_false_eq_true, IntKind.wrap_i64, wrapU64, tdivP, tmodP, fdivP, Int.reduceLT, Int.not_lt, Int.not_le, gt_iff_lt, ge_iff_le] at * <;> first | contradiction | omega)
                · exact h
              have hq17 : ((20 : Int) == p % (24 : Int)) = false := by
                rcases Bool.eq_false_or_eq_true ((20 : Int) == p % (24 : Int)) with h | h
                · exfalso; (simp only [decide_eq_true_eq, decide_eq_false_iff_not, beqI, beqIf, bneI, bneIf, beqB, beqBf, bneB, bneBf, Bool.false_eq_true, Bool.true_eq_false, true_iff, iff_true, false_iff, iff_false, true_and, and_true, false_and, and_false, true_or, or_true, false_or, or_false, ne_eq, eq_self, Bool.not_eq_true', Bool.not_eq_false', Bool.and_eq_true, Bool.or_eq_true, Bool.and_eq_false_iff, Bool.or_eq_false_iff, not_true_eq_false, not_false_eq_true, IntKind.wrap_i64, wrapU64, tdivP, tmodP, fdivP, Int.reduceLT, Int.not_lt, Int.not_le, gt_iff_lt, ge_iff_le] at * <;> first | contradiction | omega)
                · exact h
              have hq18 : ((21 : Int) == p % (24 : Int)) = false := by
                rcases Bool.eq_false_or_eq_true ((21 : Int) == p % (24 : Int)) with h | h
                · exfalso; (simp only [decide_eq_true_eq, decide_eq_false_iff_not, beqI, beqIf, bneI, bneIf, beqB, beqBf, bneB, bneBf, Bool.false_eq_true, Bool.true_eq_false, true_iff, iff_true, false_iff, iff_false, true_and, and_true, false_and, and_false, true_or, or_true, false_or, or_false, ne_eq, eq_self, Bool.not_eq_true', Bool.not_eq_false', Bool.and_eq_true, Bool.or_eq_true, Bool.and_eq_false_iff, Bool.or_eq_false_iff, not_true_eq_false, not_false_eq_true, IntKind.wrap_i64, wrapU64, tdivP, tmodP, fdivP, Int.reduceLT, Int.not_lt, Int.not_le, gt_iff_lt, ge_iff_le] at * <;> first | contradiction | omega)
                · exact h
              have hq19 : ((22 : Int) == p % (24 : Int)) = false := by
                rcases Bool.eq_false_or_eq_true ((22 : Int) == p % (24 : Int)) with h | h
                · exfalso; (simp only [decide_eq_true_eq, decide_eq_false_iff_not, beqI, beqIf, bneI, bneIf, beqB, beqBf, bneB, bneBf, Bool.false_eq_true, Bool.true_eq_false, true_iff, iff_true, false_iff, iff_false, true_and, and_true, false_and, and_false, true_or, or_true, false_or, or_false, ne_eq, eq_self, Bool.not_eq_true', Bool.not_eq_false', Bool.and_eq_true, Bool.or_eq_true, Bool.and_eq_false_iff, Bool.or_eq_false_iff, not_true_eq_false, not_false_eq_true, IntKind.wrap_i64, wrapU64, tdivP, tmodP, fdivP, Int.reduceLT, Int.not_lt, Int.not_le, gt_iff_lt, ge_iff_le] at * <;> first | contradiction | omega)
                · exact h
              have hq20 : ((23 : Int) == p % (24 : Int)) = false := by
                rcases Bool.eq_false_or_eq_true ((23 : Int) == p % (24 : Int)) with h | h
                · exfalso; (simp only [decide_eq_true_eq, decide_eq_false_iff_not, beqI, beqIf, bneI, bneIf, beqB, beqBf, bneB, bneBf, Bool.false_eq_true, Bool.true_eq_false, true_iff, iff_true, false_iff, iff_false, true_and, and_true, false_and, and_false, true_or, or_true, false_or, or_false, ne_eq, eq_self, Bool.not_eq_true', Bool.not_eq_false', Bool.and_eq_true, Bool.or_eq_true, Bool.and_eq_false_iff, Bool.or_eq_false_iff, not_true_eq_false, not_false_eq_true, IntKind.wrap_i64, wrapU64, tdivP, tmodP, fdivP, Int.reduceLT, Int.not_lt, Int.not_le, gt_iff_lt, ge_iff_le] at * <;> first | contradiction | omega)
                · exact h
              have hq21 : (!false == ((3 : Int) == IntKind.i64.wrap ((1 : Int) + IntKind.i64.wrap ((p % (24 : Int)).tdiv (8 : Int))))) = false := by
                rcases Bool.eq_false_or_eq_true (!false == ((3 : Int) == IntKind.i64.wrap ((1 : Int) + IntKind.i64.wrap ((p % (24 : Int)).tdiv (8 : Int))))) with h | h
                · exfalso; (simp only [decide_eq_true_eq, decide_eq_false_iff_not, beqI, beqIf, bneI, bneIf, beqB, beqBf, bneB, bneBf, Bool.false_eq_true, Bool.true_eq_false, true_iff, iff_true, false_iff, iff_false, true_and, and_true, false_and, and_false, true_or, or_true, false_or, or_false, ne_eq, eq_self, Bool.not_eq_true', Bool.not_eq_false', Bool.and_eq_true, Bool.or_eq_true, Bool.and_eq_false_iff, Bool.or_eq_false_iff, not_true_eq_false, not_false_eq_true, IntKind.wrap_i64, wrapU64, tdivP, tmodP, fdivP, Int.reduceLT, Int.not_lt, Int.not_le, gt_iff_lt, ge_iff_le] at * <;> first | contradiction | omega)
                · exact h
              exact lawParts_p5 p hq0 hq1 hq2 hq22 hq23 hq24 hq25 hq26 hq3 hq4 hq5 hq6 hq7 hq8 hq9 hq10 hq11 hq12 hq13 hq14 hq15 hq16 hq17 hq18 hq19 hq20 hq21
            ·
              rcases Bool.eq_false_or_eq_true ((6 : Int) == p % (24 : Int)) with hq27 | hq27
              ·
                have hq3 : (!true == ((1 : Int) == IntKind.i64.wrap ((1 : Int) + IntKind.i64.wrap ((p % (24 : Int)).tdiv (8 : Int))))) = false := by
                  rcases Bool.eq_false_or_eq_true (!true == ((1 : Int) == IntKind.i64.wrap ((1 : Int) + IntKind.i64.wrap ((p % (24 : Int)).tdiv (8 : Int))))) with h | h
                  · exfalso; (simp only [decide_eq_true_eq, decide_eq_false_iff_not, beqI, beqIf, bneI, bneIf, beqB, beqBf, bneB, bneBf, Bool.false_eq_true, Bool.true_eq_false, true_iff, iff_true, false_iff, iff_false, true_and, and_true, false_and, and_false, true_or, or_true, false_or, or_false, ne_eq, eq_self, Bool.not_eq_true', Bool.not_eq_false', Bool.and_eq_true, Bool.or_eq_true, Bool.and_eq_false_iff, Bool.or_eq_false_iff, not_true_eq_false, not_false_eq_true, IntKind.wrap_i64, wrapU64, tdivP, tmodP, fdivP, Int.reduceLT, Int.not_lt, Int.not_le, gt_iff_lt, ge_iff_le] at * <;> first | contradiction | omega)
                  · exact h
                have hq4 : ((8 : Int) == p % (24 : Int)) = false := by
                  rcases Bool.eq_false_or_eq_true ((8 : Int) == p % (24 : Int)) with h | h
                  · exfalso; (simp only [decide_eq_true_eq, decide_eq_false_iff_not, beqI, beqIf, bneI, bneIf, beqB, beqBf, bneB, bneBf, Bool.false_eq_true, Bool.true_eq_false, true_iff, iff_true, false_iff, iff_false, true_and, and_true, false_and, and_false, true_or, or_true, false_or, or_false, ne_eq, eq_self, Bool.not_eq_true', Bool.not_eq_false', Bool.and_eq_true, Bool.or_eq_true, Bool.and_eq_false_iff, Bool.or_eq_false_iff, not_true_eq_false, not_false_eq_true, IntKind.wrap_i64, wrapU64, tdivP, tmodP, fdivP, Int.reduceLT, Int.not_lt, Int.not_le, gt_iff_lt, ge_iff_le] at * <;> first | contradiction | omega)
                  · exact h
                have hq5 : ((9 : Int) == p % (24 : Int)) = false := by
                  rcases Bool.eq_false_or_eq_true ((9 : Int) == p % (24 : Int)) with h | h
                  · exfalso; (simp only [decide_eq_true_eq, decide_eq_false_iff_not, beqI, beqIf, bneI, bneIf, beqB, beqBf, bneB, bneBf, Bool.false_eq_true, Bool.true_eq_false, true_iff, iff_true, false_iff, iff_false, true_and, and_true, false_and, and_false, true_or, or_true, false_or, or_false, ne_eq, eq_self, Bool.not_eq_true', Bool.not_eq_false', Bool.and_eq_true, Bool.or_eq_true, Bool.and_eq_false_iff, Bool.or_eq_false_iff, not_true_eq_false, not_false_eq_true, IntKind.wrap_i64, wrapU64, tdivP, tmodP, fdivP, Int.reduceLT, Int.not_lt, Int.not_le, gt_iff_lt, ge_iff_le] at * <;> first | contradiction | omega)
                  · exact h
                have hq6 : ((10 : Int) == p % (24 : Int)) = false := by
                  rcases Bool.eq_false_or_eq_true ((10 : Int) == p % (24 : Int)) with h | h
                  · exfalso; (simp only [decide_eq_true_eq, decide_eq_false_iff_not, beqI, beqIf, bneI, bneIf, beqB, beqBf, bneB, bneBf, Bool.false_eq_true, Bool.true_eq_false, true_iff, iff_true, false_iff, iff_false, true_and, and_true, false_and, and_false, true_or, or_true, false_or, or_false, ne_eq, eq_self, Bool.not_eq_true', Bool.not_eq_false', Bool.and_eq_true, Bool.or_eq_true, Bool.and_eq_false_iff, Bool.or_eq_false_iff, not_true_eq_false, not_false_eq_true, IntKind.wrap_i64, wrapU64, tdivP, tmodP, fdivP, Int.reduceLT, Int.not_lt, Int.not_le, gt_iff_lt, ge_iff_le] at * <;> first | contradiction | omega)
                  · exact h
                have hq7 : ((11 : Int) == p % (24 : Int)) = false := by
                  rcases Bool.eq_false_or_eq_true ((11 : Int) == p % (24 : Int)) with h | h
                  · exfalso; (simp only [decide_eq_true_eq, decide_eq_false_iff_not, beqI, beqIf, bneI, bneIf, beqB, beqBf, bneB, bneBf, Bool.false_eq_true, Bool.true_eq_false, true_iff, iff_true, false_iff, iff_false, true_and, and_true, false_and, and_false, true_or, or_true, false_or, or_false, ne_eq, eq_self, Bool.not_eq_true', Bool.not_eq_false', Bool.and_eq_true, Bool.or_eq_true, Bool.and_eq_false_iff, Bool.or_eq_false_iff, not_true_eq_false, not_false_eq_true, IntKind.wrap_i64, wrapU64, tdivP, tmodP, fdivP, Int.reduceLT, Int.not_lt, Int.not_le, gt_iff_lt, ge_iff_le] at * <;> first | contradiction | omega)
                  · exact h
                have hq8 : ((12 : Int) == p % (24 : Int)) = false := by
                  rcases Bool.eq_false_or_eq_true ((12 : Int) == p % (24 : Int)) with h | h
                  · exfalso; (simp only [decide_eq_true_eq, decide_eq_false_iff_not, beqI, beqIf, bneI, bneIf, beqB, beqBf, bneB, bneBf, Bool.false_eq_true, Bool.true_eq_false, true_iff, iff_true, false_iff, iff_false, true_and, and_true, false_and, and_false, true_or, or_true, false_or, or_false, ne_eq, eq_self, Bool.not_eq_true', Bool.not_eq_false', Bool.and_eq_true, Bool.or_eq_true, Bool.and_eq_false_iff, Bool.or_eq_false_iff, not_true_eq_false, not_false_eq_true, IntKind.wrap_i64, wrapU64, tdivP, tmodP, fdivP, Int.reduceLT, Int.not_lt, Int.not_le, gt_iff_lt, ge_iff_le] at * <;> first | contradiction | omega)
                  · exact h
                have hq9 : ((13 : Int) == p % (24 : Int)) = false := by
                  rcases Bool.eq_false_or_eq_true ((13 : Int) == p % (24 : Int)) with h | h
                  · exfalso; (simp only [decide_eq_true_eq, decide_eq_false_iff_not, beqI, beqIf, bneI, bneIf, beqB, beqBf, bneB, bneBf, Bool.false_eq_true, Bool.true_eq_false, true_iff, iff_true, false_iff, iff_false, true_and, and_true, false_and, and_false, true_or, or_true, false_or, or_false, ne_eq, eq_self, Bool.not_eq_true', Bool.not_eq_false', Bool.and_eq_true, Bool.or_eq_true, Bool.and_eq_false_iff, Bool.or_eq_false_iff, not_true_eq_false, not_false_eq_true, IntKind.wrap_i64, wrapU64, tdivP, tmodP, fdivP, Int.reduceLT, Int.not_lt, Int.not_le, gt_iff_lt, ge_iff_le] at * <;> first | contradiction | omega)
                  · exact h
                have hq10 : ((14 : Int) == p % (24 : Int)) = false := by
                  rcases Bool.eq_false_or_eq_true ((14 : Int) == p % (24 : Int)) with h | h
                  · exfalso; (simp only [decide_eq_true_eq, decide_eq_false_iff_not, beqI, beqIf, bneI, bneIf, beqB, beqBf, bneB, bneBf, Bool.false_eq_true, Bool.true_eq_false, true_iff, iff_true, false_iff, iff_false, true_and, and_true, false_and, and_false, true_or, or_true, false_or, or_false, ne_eq, eq_self, Bool.not_eq_true', Bool.not_eq_false', Bool.and_eq_true, Bool.or_eq_true, Bool.and_eq_false_iff, Bool.or_eq_false_iff, not_true_eq_false, not_false_eq_true, IntKind.wrap_i64, wrapU64, tdivP, tmodP, fdivP, Int.reduceLT, Int.not_lt, Int.not_le, gt_iff_lt, ge_iff_le] at * <;> first | contradiction | omega)
                  · exact h
                have hq11 : ((15 : Int) == p % (24 : Int)) = false := by
                  rcases Bool.eq_false_or_eq_true ((15 : Int) == p % (24 : Int)) with h | h
                  · exfalso; (simp only [decide_eq_true_eq, decide_eq_false_iff_not, beqI, beqIf, bneI, bneIf, beqB, beqBf, bneB, bneBf, Bool.false_eq_true, Bool.true_eq_false, true_iff, iff_true, false_iff, iff_false, true_and, and_true, false_and, and_false, true_or, or_true, false_or, or_false, ne_eq, eq_self, Bool.not_eq_true', Bool.not_eq_false', Bool.and_eq_true, Bool.or_eq_true, Bool.and_eq_false_iff, Bool.or_eq_false_iff, not_true_eq_false, not_false_eq_true, IntKind.wrap_i64, wrapU64, tdivP, tmodP, fdivP, Int.reduceLT, Int.not_lt, Int.not_le, gt_iff_lt, ge_iff_le] at * <;> first | contradiction | omega)
                  · exact h
                have hq12 : (!false == ((2 : Int) == IntKind.i64.wrap ((1 : Int) + IntKind.i64.wrap ((p % (24 : Int)).tdiv (8 : Int))))) = false := by
                  rcases Bool.eq_false_or_eq_true (!false == ((2 : Int) == IntKind.i64.wrap ((1 : Int) + IntKind.i64.wrap ((p % (24 : Int)).tdiv (8 : Int))))) with h | h
                  · exfalso; (simp only [decide_eq_true_eq, decide_eq_false_iff_not, beqI, beqIf, bneI, bneIf, beqB, beqBf, bneB, bneBf, Bool.false_eq_true, Bool.true_eq_false, true_iff, iff_true, false_iff, iff_false, true_and, and_true, false_and, and_false, true_or, or_true, false_or, or_false, ne_eq, eq_self, Bool.not_eq_true', Bool.not_eq_false', Bool.and_eq_true, Bool.or_eq_true, Bool.and_eq_false_iff, Bool.or_eq_false_iff, not_true_eq_false, not_false_eq_true, IntKind.wrap_i64, wrapU64, tdivP, tmodP, fdivP, Int.reduceLT, Int.not_lt, Int.not_le, gt_iff_lt, ge_iff_le] at * <;> first | contradiction | omega)
                  · exact h
                have hq13 : ((16 : Int) == p % (24 : Int)) = false := by
                  rcases Bool.eq_false_or_eq_true ((16 : Int) == p % (24 : Int)) with h | h
                  · exfalso; (simp only [decide_eq_true_eq, decide_eq_false_iff_not, beqI, beqIf, bneI, bneIf, beqB, beqBf, bneB, bneBf, Bool.false_eq_true, Bool.true_eq_false, true_iff, iff_true, false_iff, iff_false, true_and, and_true, false_and, and_false, true_or, or_true, false_or, or_false, ne_eq, eq_self, Bool.not_eq_true', Bool.not_eq_false', Bool.and_eq_true, Bool.or_eq_true, Bool.and_eq_false_iff, Bool.or_eq_false_iff, not_true_eq_false, not_false_eq_true, IntKind.wrap_i64, wrapU64, tdivP, tmodP, fdivP, Int.reduceLT, Int.not_lt, Int.not_le, gt_iff_lt, ge_iff_le] at * <;> first | contradiction | omega)
                  · exact h
                have hq14 : ((17 : Int) == p % (24 : Int)) = false := by
                  rcases Bool.eq_false_or_eq_true ((17 : Int) == p % (24 : Int)) with h | h
                  · exfalso; (simp only [decide_eq_true_eq, decide_eq_false_iff_not, beqI, beqIf, bneI, bneIf, beqB, beqBf, bneB, bneBf, Bool.false_eq_true, Bool.true_eq_false, true_iff, iff_true, false_iff, iff_false, true_and, and_true, false_and, and_false, true_or, or_true, false_or, or_false, ne_eq, eq_self, Bool.not_eq_true', Bool.not_eq_false', Bool.and_eq_true, Bool.or_eq_true, Bool.and_eq_false_iff, Bool.or_eq_false_iff, not_true_eq_false, not_false_eq_true, IntKind.wrap_i64, wrapU64, tdivP, tmodP, fdivP, Int.reduceLT, Int.not_lt, Int.not_le, gt_iff_lt, ge_iff_le] at * <;> first | contradiction | omega)
                  · exact h
                have hq15 : ((18 : Int) == p % (24 : Int)) = false := by
                  rcases Bool.eq_false_or_eq_true ((18 : Int) == p % (24 : Int)) with h | h
                  · exfalso; (simp only [decide_eq_true_eq, decide_eq_false_iff_not, beqI, beqIf, bneI, bneIf, beqB, beqBf, bneB, bneBf, Bool.false_eq_true, Bool.true_eq_false, true_iff, iff_true, false_iff, iff_false, true_and, and_true, false_and, and_false, true_or, or_true, false_or, or_false, ne_eq, eq_self, Bool.not_eq_true', Bool.not_eq_false', Bool.and_eq_true, Bool.or_eq_true, Bool.and_eq_false_iff, Bool.or_eq_false_iff, not_true_eq_false, not_false_eq_true, IntKind.wrap_i64, wrapU64, tdivP, tmodP, fdivP, Int.reduceLT, Int.not_lt, Int.not_le, gt_iff_lt, ge_iff_le] at * <;> first | contradiction | omega)
                  · exact h
                have hq16 : ((19 : Int) == p % (24 : Int)) = false := by
                  rcases Bool.eq_false_or_eq_true ((19 : Int) == p % (24 : Int)) with h | h
                  · exfalso; (simp only [decide_eq_true_eq, decide_eq_false_iff_not, beqI, beqIf, bneI, bneIf, beqB, beqBf, bneB, bneBf, Bool.false_eq_true, Bool.true_eq_false, true_iff, iff_true, false_iff, iff_false, true_and, and_true, false_and, and_false, true_or, or_true, false_or, or_false, ne_eq, eq_self, Bool.not_eq_true', Bool.not_eq_false', Bool.and_eq_true, Bool.or_eq_true, Bool.and_eq_false_iff, Bool.or_eq_false_iff, not_true_eq_false, not_false_eq_true, IntKind.wrap_i64, wrapU64, tdivP, tmodP, fdivP, Int.reduceLT, Int.not_lt, Int.not_le, gt_iff_lt, ge_iff_le] at * <;> first | contradiction | omega)
                  · exact h
                have hq17 : ((20 : Int) == p % (24 : Int)) = false := by
                  rcases Bool.eq_false_or_eq_true ((20 : Int) == p % (24 : Int)) with h | h
                  · exfalso; (simp only [decide_eq_true_eq, decide_eq_false_iff_not, beqI, beqIf, bneI, bneIf, beqB, beqBf, bneB, bneBf, Bool.false_eq_true, Bool.true_eq_false, true_iff, iff_true, false_iff, iff_false, true_and, and_true, false_and, and_false, true_or, or_true, false_or, or_false, ne_eq, eq_self, Bool.not_eq_true', Bool.not_eq_false', Bool.and_eq_true, Bool.or_eq_true, Bool.and_eq_false_iff, Bool.or_eq_false_iff, not_true_eq_false, not_false_eq_true, IntKind.wrap_i64, wrapU64, tdivP, tmodP, fdivP, Int.reduceLT, Int.not_lt, Int.not_le, gt_iff_lt, ge_iff_le] at * <;> first | contradiction | omega)
                  · exact h
                have hq18 : ((21 : Int) == p % (24 : Int)) = false := by
                  rcases Bool.eq_false_or_eq_true ((21 : Int) == p % (24 : Int)) with h | h
                  · exfalso; (simp only [decide_eq_true_eq, decide_eq_false_iff_not, beqI, beqIf, bneI, bneIf, beqB, beqBf, bneB, bneBf, Bool.false_eq_true, Bool.true_eq_false, true_iff, iff_true, false_iff, iff_false, true_and, and_true, false_and, and_false, true_or, or_true, false_or, or_false, ne_eq, eq_self, Bool.not_eq_true', Bool.not_eq_false', Bool.and_eq_true, Bool.or_eq_true, Bool.and_eq_false_iff, Bool.or_eq_false_iff, not_true_eq_false, not_false_eq_true, IntKind.wrap_i64, wrapU64, tdivP, tmodP, fdivP, Int.reduceLT, Int.not_lt, Int.not_le, gt_iff_lt, ge_iff_le] at * <;> first | contradiction | omega)
                  · exact h
                have hq19 : ((22 : Int) == p % (24 : Int)) = false := by
                  rcases Bool.eq_false_or_eq_true ((22 : Int) == p % (24 : Int)) with h | h
                  · exfalso; (simp only [decide_eq_true_eq, decide_eq_false_iff_not, beqI, beqIf, bneI, bneIf, beqB, beqBf, bneB, bneBf, Bool.false_eq_true, Bool.true_eq_false, true_iff, iff_true, false_iff, iff_false, true_and, and_true, false_and, and_false, true_or, or_true, false_or, or_false, ne_eq, eq_self, Bool.not_eq_true', Bool.not_eq_false', Bool.and_eq_true, Bool.or_eq_true, Bool.and_eq_false_iff, Bool.or_eq_false_iff, not_true_eq_false, not_false_eq_true, IntKind.wrap_i64, wrapU64, tdivP, tmodP, fdivP, Int.reduceLT, Int.not_lt, Int.not_le, gt_iff_lt, ge_iff_le] at * <;> first | contradiction | omega)
                  · exact h
                have hq20 : ((23 : Int) == p % (24 : Int)) = false := by
                  rcases Bool.eq_false_or_eq_true ((23 : Int) == p % (24 : Int)) with h | h
                  · exfalso; (simp only [decide_eq_true_eq, decide_eq_false_iff_not, beqI, beqIf, bneI, bneIf, beqB, beqBf, bneB, bneBf, Bool.false_eq_true, Bool.true_eq_false, true_iff, iff_true, false_iff, iff_false, true_and, and_true, false_and, and_false, true_or, or_true, false_or, or_false, ne_eq, eq_self, Bool.not_eq_true', Bool.not_eq_false', Bool.and_eq_true, Bool.or_eq_true, Bool.and_eq_false_iff, Bool.or_eq_false_iff, not_true_eq_false, not_false_eq_true, IntKind.wrap_i64, wrapU64, tdivP, tmodP, fdivP, Int.reduceLT, Int.not_lt, Int.not_le, gt_iff_lt, ge_iff_le] at * <;> first | contradiction | omega)
                  · exact h
                have hq21 : (!false == ((3 : Int) == IntKind.i64.wrap ((1 : Int) + IntKind.i64.wrap ((p % (24 : Int)).tdiv (8 : Int))))) = false := by
                  rcases Bool.eq_false_or_eq_true (!false == ((3 : Int) == IntKind.i64.wrap ((1 : Int) + IntKind.i64.wrap ((p % (24 : Int)).tdiv (8 : Int))))) with h | h
                  · exfalso; (simp only [decide_eq_true_eq, decide_eq_false_iff_not, beqI, beqIf, bneI, bneIf, beqB, beqBf, bneB, bneBf, Bool.false_eq_true, Bool.true_eq_false, true_iff, iff_true, false_iff, iff_false, true_and, and_true, false_and, and_false, true_or, or_true, false_or, or_false, ne_eq, eq_self, Bool.not_eq_true', Bool.not_eq_false', Bool.and_eq_true, Bool.or_eq_true, Bool.and_eq_false_iff, Bool.or_eq_false_iff, not_true_eq_false, not_false_eq_true, IntKind.wrap_i64, wrapU64, tdivP, tmodP, fdivP, Int.reduceLT, Int.not_lt, Int.not_le, gt_iff_lt, ge_iff_le] at * <;> first | contradiction | omega)
                  · exact h
                exact lawParts_p6 p hq0 hq1 hq2 hq22 hq23 hq24 hq25 hq26 hq27 hq3 hq4 hq5 hq6 hq7 hq8 hq9 hq10 hq11 hq12 hq13 hq14 hq15 hq16 hq17 hq18 hq19 hq20 hq21
              ·
                rcases Bool.eq_false_or_eq_true ((7 : Int) == p % (24 : Int)) with hq28 | hq28
                ·
                  have hq3 : (!true == ((1 : Int) == IntKind.i64.wrap ((1 : Int) + IntKind.i64.wrap ((p % (24 : Int)).tdiv (8 : Int))))) = false := by
                    rcases Bool.eq_false_or_eq_true (!true == ((1 : Int) == IntKind.i64.wrap ((1 : Int) + IntKind.i64.wrap ((p % (24 : Int)).tdiv (8 : Int))))) with h | h
                    · exfalso; (simp only [decide_eq_true_eq, decide_eq_false_iff_not, beqI, beqIf, bneI, bneIf, beqB, beqBf, bneB, bneBf, Bool.false_eq_true, Bool.true_eq_false, true_iff, iff_true, false_iff, iff_false, true_and, and_true, false_and, and_false, true_or, or_true, false_or, or_false, ne_eq, eq_self, Bool.not_eq_true', Bool.not_eq_false', Bool.and_eq_true, Bool.or_eq_true, Bool.and_eq_false_iff, Bool.or_eq_false_iff, not_true_eq_false, not_false_eq_true, IntKind.wrap_i64, wrapU64, tdivP, tmodP, fdivP, Int.reduceLT, Int.not_lt, Int.not_le, gt_iff_lt, ge_iff_le] at * <;> first | contradiction | omega)
                    · exact h
                  have hq4 : ((8 : Int) == p % (24 : Int)) = false := by
                    rcases Bool.eq_false_or_eq_true ((8 : Int) == p % (24 : Int)) with h | h
                    · exfalso; (simp only [decide_eq_true_eq, decide_eq_false_iff_not, beqI, beqIf, bneI, bneIf, beqB, beqBf, bneB, bneBf, Bool.false_eq_true, Bool.true_eq_false, true_iff, iff_true, false_iff, iff_false, true_and, and_true, false_and, and_false, true_or, or_true, false_or, or_false, ne_eq, eq_self, Bool.not_eq_true', Bool.not_eq_false', Bool.and_eq_true, Bool.or_eq_true, Bool.and_eq_false_iff, Bool.or_eq_false_iff, not_true_eq_false, not_false_eq_true, IntKind.wrap_i64, wrapU64, tdivP, tmodP, fdivP, Int.reduceLT, Int.not_lt, Int.not_le, gt_iff_lt, ge_iff_le] at * <;> first | contradiction | omega)
                    · exact h
                  have hq5 : ((9 : Int) == p % (24 : Int)) = false := by
                    rcases Bool.eq_false_or_eq_true ((9 : Int) == p % (24 : Int)) with h | h
                    · exfalso; (simp only [decide_eq_true_eq, decide_eq_false_iff_not, beqI, beqIf, bneI, bneIf, beqB, beqBf, bneB, bneBf, Bool.false_eq_true, Bool.true_eq_false, true_iff, iff_true, false_iff, iff_false, true_and, and_true, false_and, and_false, true_or, or_true, false_or, or_false, ne_eq, eq_self, Bool.not_eq_true', Bool.not_eq_false', Bool.and_eq_true, Bool.or_eq_true, Bool.and_eq_false_iff, Bool.or_eq_false_iff, not_true_eq_false, not_false_eq_true, IntKind.wrap_i64, wrapU64, tdivP, tmodP, fdivP, Int.reduceLT, Int.not_lt, Int.not_le, gt_iff_lt, ge_iff_le] at * <;> first | contradiction | omega)
                    · exact h
                  have hq6 : ((10 : Int) == p % (24 : Int)) = false := by
                    rcases Bool.eq_false_or_eq_true ((10 : Int) == p % (24 : Int)) with h | h
                    · exfalso; (simp only [decide_eq_true_eq, decide_eq_false_iff_not, beqI, beqIf, bneI, bneIf, beqB, beqBf, bneB, bneBf, Bool.false_eq_true, Bool.true_eq_false, true_iff, iff_true, false_iff, iff_false, true_and, and_true, false_and, and_false, true_or, or_true, false_or, or_false, ne_eq, eq_self, Bool.not_eq_true', Bool.not_eq_false', Bool.and_eq_true, Bool.or_eq_true, Bool.and_eq_false_iff, Bool.or_eq_false_iff, not_true_eq_false, not_false_eq_true, IntKind.wrap_i64, wrapU64, tdivP, tmodP, fdivP, Int.reduceLT, Int.not_lt, Int.not_le, gt_iff_lt, ge_iff_le] at * <;> first | contradiction | omega)
                    · exact h
                  have hq7 : ((11 : Int) == p % (24 : Int)) = false := by
                    rcases Bool.eq_false_or_eq_true ((11 : Int) == p % (24 : Int)) with h | h
                    · exfalso; (simp only [decide_eq_true_eq, decide_eq_false_iff_not, beqI, beqIf, bneI, bneIf, beqB, beqBf, bneB, bneBf, Bool.false_eq_true, Bool.true_eq_false, true_iff, iff_true, false_iff, iff_false, true_and, and_true, false_and, and_false, true_or, or_true, false_or, or_false, ne_eq, eq_self, Bool.not_eq_true', Bool.not_eq_false', Bool.and_eq_true, Bool.or_eq_true, Bool.and_eq_false_iff, Bool.or_eq_false_iff, not_true_eq_false, not_false_eq_true, IntKind.wrap_i64, wrapU64, tdivP, tmodP, fdivP, Int.reduceLT, Int.not_lt, Int.not_le, gt_iff_lt, ge_iff_le] at * <;> first | contradiction | omega)
                    · exact h
                  have hq8 : ((12 : Int) == p % (24 : Int)) = false := by
                    rcases Bool.eq_false_or_eq_true ((12 : Int) == p % (24 : Int)) with h | h
                    · exfalso; (simp only [decide_eq_true_eq, decide_eq_false_iff_not, beqI, beqIf, bneI, bneIf, beqB, beqBf, bneB, bneBf, Bool.false_eq_true, Bool.true_eq_false, true_iff, iff_true, false_iff, iff_false, true_and, and_true, false_and, and_false, true_or, or_true, false_or, or_false, ne_eq, eq_self, Bool.not_eq_true', Bool.not_eq_false', Bool.and_eq_true, Bool.or_eq_true, Bool.and_eq_false_iff, Bool.or_eq_false_iff, not_true_eq_false, not_false_eq_true, IntKind.wrap_i64, wrapU64, tdivP, tmodP, fdivP, Int.reduceLT, Int.not_lt, Int.not_le, gt_iff_lt, ge_iff_le] at * <;> first | contradiction | omega)
                    · exact h
                  have hq9 : ((13 : Int) == p % (24 : Int)) = false := by
                    rcases Bool.eq_false_or_eq_true ((13 : Int) == p % (24 : Int)) with h | h
                    · exfalso; (simp only [decide_eq_true_eq, decide_eq_false_iff_not, beqI, beqIf, bneI, bneIf, beqB, beqBf, bneB, bneBf, Bool.false_eq_true, Bool.true_eq_false, true_iff, iff_true, false_iff, iff_false, true_and, and_true, false_and, and_false, true_or, or_true, false_or, or_false, ne_eq, eq_self, Bool.not_eq_true', Bool.not_eq_false', Bool.and_eq_true, Bool.or_eq_true, Bool.and_eq_false_iff, Bool.or_eq_false_iff, not_true_eq_false, not_false_eq_true, IntKind.wrap_i64, wrapU64, tdivP, tmodP, fdivP, Int.reduceLT, Int.not_lt, Int.not_le, gt_iff_lt, ge_iff_le] at * <;> first | contradiction | omega)
                    · exact h
                  have hq10 : ((14 : Int) == p % (24 : Int)) = false := by
                    rcases Bool.eq_false_or_eq_true ((14 : Int) == p % (24 : Int)) with h | h
                    · exfalso; (simp only [decide_eq_true_eq, decide_eq_false_iff_not, beqI, beqIf, bneI, bneIf, beqB, beqBf, bneB, bneBf, Bool.false_eq_true, Bool.true_eq_false, true_iff, iff_true, false_iff, iff_false, true_and, and_true, false_and, and_false, true_or, or_true, false_or, or_false, ne_eq, eq_self, Bool.not_eq_true', Bool.not_eq_false', Bool.and_eq_true, Bool.or_eq_true, Bool.and_eq_false_iff, Bool.or_eq_false_iff, not_true_eq_false, not_false_eq_true, IntKind.wrap_i64, wrapU64, tdivP, tmodP, fdivP, Int.reduceLT, Int.not_lt, Int.not_le, gt_iff_lt, ge_iff_le] at * <;> first | contradiction | omega)
                    · exact h
                  have hq11 : ((15 : Int) == p % (24 : Int)) = false := by
                    rcases Bool.eq_false_or_eq_true ((15 : Int) == p % (24 : Int)) with h | h
                    · exfalso; (simp only [decide_eq_true_eq, decide_eq_false_iff_not, beqI, beqIf, bneI, bneIf, beqB, beqBf, bneB, bneBf, Bool.false_eq_true, Bool.true_eq_false, true_iff, iff_true, false_iff, iff_false, true_and, and_true, false_and, and_false, true_or, or_true, false_or, or_false, ne_eq, eq_self, Bool.not_eq_true', Bool.not_eq_false', Bool.and_eq_true, Bool.or_eq_true, Bool.and_eq_false_iff, Bool.or_eq_false_iff, not_true_eq_false, not_false_eq_true, IntKind.wrap_i64, wrapU64, tdivP, tmodP, fdivP, Int.reduceLT, Int.not_lt, Int.not_le, gt_iff_lt, ge_iff_le] at * <;> first | contradiction | omega)
                    · exact h
                  have hq12 : (!false == ((2 : Int) == IntKind.i64.wrap ((1 : Int) + IntKind.i64.wrap ((p % (24 : Int)).tdiv (8 : Int))))) = false := by
                    rcases Bool.eq_false_or_eq_true (!false == ((2 : Int) == IntKind.i64.wrap ((1 : Int) + IntKind.i64.wrap ((p % (24 : Int)).tdiv (8 : Int))))) with h | h
                    · exfalso; (simp only [decide_eq_true_eq, decide_eq_false_iff_not, beqI, beqIf, bneI, bneIf, beqB, beqBf, bneB, bneBf, Bool.false_eq_true, Bool.true_eq_false, true_iff, iff_true, false_iff, iff_false, true_and, and_true, false_and, and_false, true_or, or_true, false_or, or_false, ne_eq, eq_self, Bool.not_eq_true', Bool.not_eq_false', Bool.and_eq_true, Bool.or_eq_true, Bool.and_eq_false_iff, Bool.or_eq_false_iff, not_true_eq_false, not_false_eq_true, IntKind.wrap_i64, wrapU64, tdivP, tmodP, fdivP, Int.reduceLT, Int.not_lt, Int.not_le, gt_iff_lt, ge_iff_le] at * <;> first | contradiction | omega)
                    · exact h
                  have hq13 : ((16 : Int) == p % (24 : Int)) = false := by
                    rcases Bool.eq_false_or_eq_true ((16 : Int) == p % (24 : Int)) with h | h
                    · exfalso; (simp only [decide_eq_true_eq, decide_eq_false_iff_not, beqI, beqIf, bneI, bneIf, beqB, beqBf, bneB, bneBf, Bool.false_eq_true, Bool.true_eq_false, true_iff, iff_true, false_iff, iff_false, true_and, and_true, false_and, and_false, true_or, or_true, false_or, or_false, ne_eq, eq_self, Bool.not_eq_true', Bool.not_eq_false', Bool.and_eq_true, Bool.or_eq_true, Bool.and_eq_false_iff, Bool.or_eq_false_iff, not_true_eq_false, not_false_eq_true, IntKind.wrap_i64, wrapU64, tdivP, tmodP, fdivP, Int.reduceLT, Int.not_lt, Int.not_le, gt_iff_lt, ge_iff_le] at * <;> first | contradiction | omega)
                    · exact h
                  have hq14 : ((17 : Int) == p % (24 : Int)) = false := by
                    rcases Bool.eq_false_or_eq_true ((17 : Int) == p % (24 : Int)) with h | h
                    · exfalso; (simp only [decide_eq_true_eq, decide_eq_false_iff_not, beqI, beqIf, bneI, bneIf, beqB, beqBf, bneB, bneBf, Bool.false_eq_true, Bool.true_eq_false, true_iff, iff_true, false_iff, iff_false, true_and, and_true, false_and, and_false, true_or, or_true, false_or, or_false, ne_eq, eq_self, Bool.not_eq_true', Bool.not_eq_false', Bool.and_eq_true, Bool.or_eq_true, Bool.and_eq_false_iff, Bool.or_eq_false_iff, not_true_eq_false, not_false_eq_true, IntKind.wrap_i64, wrapU64, tdivP, tmodP, fdivP, Int.reduceLT, Int.not_lt, Int.not_le, gt_iff_lt, ge_iff_le] at * <;> first | contradiction | omega)
                    · exact h
                  have hq15 : ((18 : Int) == p % (24 : Int)) = false := by
                    rcases Bool.eq_false_or_eq_true ((18 : Int) == p % (24 : Int)) with h | h
                    · exfalso; (simp only [decide_eq_true_eq, decide_eq_false_iff_not, beqI, beqIf, bneI, bneIf, beqB, beqBf, bneB, bneBf, Bool.false_eq_true, Bool.true_eq_false, true_iff, iff_true, false_iff, iff_false, true_and, and_true, false_and, and_false, true_or, or_true, false_or, or_false, ne_eq, eq_self, Bool.not_eq_true', Bool.not_eq_false', Bool.and_eq_true, Bool.or_eq_true, Bool.and_eq_false_iff, Bool.or_eq_false_iff, not_true_eq_false, not_false_eq_true, IntKind.wrap_i64, wrapU64, tdivP, tmodP, fdivP, Int.reduceLT, Int.not_lt, Int.not_le, gt_iff_lt, ge_iff_le] at * <;> first | contradiction | omega)
                    · exact h
                  have hq16 : ((19 : Int) == p % (24 : Int)) = false := by
                    rcases Bool.eq_false_or_eq_true ((19 : Int) == p % (24 : Int)) with h | h
                    · exfalso; (simp only [decide_eq_true_eq, decide_eq_false_iff_not, beqI, beqIf, bneI, bneIf, beqB, beqBf, bneB, bneBf, Bool.false_eq_true, Bool.true_eq_false, true_iff, iff_true, false_iff, iff_false, true_and, and_true, false_and, and_false, true_or, or_true, false_or, or_false, ne_eq, eq_self, Bool.not_eq_true', Bool.not_eq_false', Bool.and_eq_true, Bool.or_eq_true, Bool.and_eq_false_iff, Bool.or_eq_false_iff, not_true_eq_false, not_false_eq_true, IntKind.wrap_i64, wrapU64, tdivP, tmodP, fdivP, Int.reduceLT, Int.not_lt, Int.not_le, gt_iff_lt, ge_iff_le] at * <;> first | contradiction | omega)
                    · exact h
                  have hq17 : ((20 : Int) == p % (24 : Int)) = false := by
                    rcases Bool.eq_false_or_eq_true ((20 : Int) == p % (24 : Int)) with h | h
                    · exfalso; (simp only [decide_eq_true_eq, decide_eq_false_iff_not, beqI, beqIf, bneI, bneIf, beqB, beqBf, bneB, bneBf, Bool.false_eq_true, Bool.true_eq_false, true_iff, iff_true, false_iff, iff_false, true_and, and_true, false_and, and_false, true_or, or_true, false_or, or_false, ne_eq, eq_self, Bool.not_eq_true', Bool.not_eq_false', Bool.and_eq_true, Bool.or_eq_true, Bool.and_eq_false_iff, Bool.or_eq_false_iff, not_true_eq_false, not_false_eq_true, IntKind.wrap_i64, wrapU64, tdivP, tmodP, fdivP, Int.reduceLT, Int.not_lt, Int.not_le, gt_iff_lt, ge_iff_le] at * <;> first | contradiction | omega)
                    · exact h
                  have hq18 : ((21 : Int) == p % (24 : Int)) = false := by
                    rcases Bool.eq_false_or_eq_true ((21 : Int) == p % (24 : Int)) with h | h
                    · exfalso; (simp only [decide_eq_true_eq, decide_eq_false_iff_not, beqI, beqIf, bneI, bneIf, beqB, beqBf, bneB, bneBf, Bool.false_eq_true, Bool.true_eq_false, true_iff, iff_true, false_iff, iff_false, true_and, and_true, false_and, and_false, true_or, or_true, false_or, or_false, ne_eq, eq_self, Bool.not_eq_true', Bool.not_eq_false', Bool.and_eq_true, Bool.or_eq_true, Bool.and_eq_false_iff, Bool.or_eq_false_iff, not_true_eq_false, not_false_eq_true, IntKind.wrap_i64, wrapU64, tdivP, tmodP, fdivP, Int.reduceLT, Int.not_lt, Int.not_le, gt_iff_lt, ge_iff_le] at * <;> first | contradiction | omega)
                    · exact h
                  have hq19 : ((22 : Int) == p % (24 : Int)) = false := by
                    rcases Bool.eq_false_or_eq_true ((22 : Int) == p % (24 : Int)) with h | h
                    · exfalso; (simp only [decide_eq_true_eq, decide_eq_false_iff_not, beqI, beqIf, bneI, bneIf, beqB, beqBf, bneB, bneBf, Bool.false_eq_true, Bool.true_eq_false, true_iff, iff_true, false_iff, iff_false, true_and, and_true, false_and, and_false, true_or, or_true, false_or, or_false, ne_eq, eq_self, Bool.not_eq_true', Bool.not_eq_false', Bool.and_eq_true, Bool.or_eq_true, Bool.and_eq_false_iff, Bool.or_eq_false_iff, not_true_eq_false, not_false_eq_true, IntKind.wrap_i64, wrapU64, tdivP, tmodP, fdivP, Int.reduceLT, Int.not_lt, Int.not_le, gt_iff_lt, ge_iff_le] at * <;> first | contradiction | omega)
                    · exact h
                  have hq20 : ((23 : Int) == p % (24 : Int)) = false := by
                    rcases Bool.eq_false_or_eq_true ((23 : Int) == p % (24 : Int)) with h | h
                    · exfalso; (simp only [decide_eq_true_eq, decide_eq_false_iff_not, beqI, beqIf, bneI, bneIf, beqB, beqBf, bneB, bneBf, Bool.false_eq_true, Bool.true_eq_false, true_iff, iff_true, false_iff, iff_false, true_and, and_true, false_and, and_false, true_or, or_true, false_or, or_false, ne_eq, eq_self, Bool.not_eq_true', Bool.not_eq_false', Bool.and_eq_true, Bool.or_eq_true, Bool.and_eq_false_iff, Bool.or_eq_false_iff, not_true_eq_false, not_false_eq_true, IntKind.wrap_i64, wrapU64, tdivP, tmodP, fdivP, Int.reduceLT, Int.not_lt, Int.not_le, gt_iff_lt, ge_iff_le] at * <;> first | contradiction | omega)
                    · exact h
                  have hq21 : (!false == ((3 : Int) == IntKind.i64.wrap ((1 : Int) + IntKind.i64.wrap ((p % (24 : Int)).tdiv (8 : Int))))) = false := by
                    rcases Bool.eq_false_or_eq_true (!false == ((3 : Int) == IntKind.i64.wrap ((1 : Int) + IntKind.i64.wrap ((p % (24 : Int)).tdiv (8 : Int))))) with h | h
                    · exfalso; (simp only [decide_eq_true_eq, decide_eq_false_iff_not, beqI, beqIf, bneI, bneIf, beqB, beqBf, bneB, bneBf, Bool.false_eq_true, Bool.true_eq_false, true_iff, iff_true, false_iff, iff_false, true_and, and_true, false_and, and_false, true_or, or_true, false_or, or_false, ne_eq, eq_self, Bool.not_eq_true', Bool.not_eq_false', Bool.and_eq_true, Bool.or_eq_true, Bool.and_eq_false_iff, Bool.or_eq_false_iff, not_true_eq_false, not_false_eq_true, IntKind.wrap_i64, wrapU64, tdivP, tmodP, fdivP, Int.reduceLT, Int.not_lt, Int.not_le, gt_iff_lt, ge_iff_le] at * <;> first | contradiction | omega)
                    · exact h
                  exact lawParts_p7 p hq0 hq1 hq2 hq22 hq23 hq24 hq25 hq26 hq27 hq28 hq3 hq4 hq5 hq6 hq7 hq8 hq9 hq10 hq11 hq12 hq13 hq14 hq15 hq16 hq17 hq18 hq19 hq20 hq21
                ·
                  have hq29 : (!false == ((1 : Int) == IntKind.i64.wrap ((1 : Int) + IntKind.i64.wrap ((p % (24 : Int)).tdiv (8 : Int))))) = false := by
                    rcases Bool.eq_false_or_eq_true (!false == ((1 : Int) == IntKind.i64.wrap ((1 : Int) + IntKind.i64.wrap ((p % (24 : Int)).tdiv (8 : Int))))) with h | h
                    · exfalso; (simp only [decide_eq_true_eq, decide_eq_false_iff_not, beqI, beqIf, bneI, bneIf, beqB, beqBf, bneB, bneBf, Bool.false_eq_true, Bool.true_eq_false, true_iff, iff_true, false_iff, iff_false, true_and, and_true, false_and, and_false, true_or, or_true, false_or, or_false, ne_eq, eq_self, Bool.not_eq_true', Bool.not_eq_false', Bool.and_eq_true, Bool.or_eq_true, Bool.and_eq_false_iff, Bool.or_eq_false_iff, not_true_eq_false, not_false_eq_true, IntKind.wrap_i64, wrapU64, tdivP, tmodP, fdivP, Int.reduceLT, Int.not_lt, Int.not_le, gt_iff_lt, ge_iff_le] at * <;> first | contradiction | omega)
                    · exact h
                  rcases Bool.eq_false_or_eq_true ((8 : Int) == p % (24 : Int)) with hq4 | hq4
                  ·
                    have hq30 : (!true == ((2 : Int) == IntKind.i64.wrap ((1 : Int) + IntKind.i64.wrap ((p % (24 : Int)).tdiv (8 : Int))))) = false := by
                      rcases Bool.eq_false_or_eq_true (!true == ((2 : Int) == IntKind.i64.wrap ((1 : Int) + IntKind.i64.wrap ((p % (24 : Int)).tdiv (8 : Int))))) with h | h
                      · exfalso; (simp only [decide_eq_true_eq, decide_eq_false_iff_not, beqI, beqIf, bneI, bneIf, beqB, beqBf, bneB, bneBf, Bool.false_eq_true, Bool.true_eq_false, true_iff, iff_true, false_iff, iff_false, true_and, and_true, false_and, and_false, true_or, or_true, false_or, or_false, ne_eq, eq_self, Bool.not_eq_true', Bool.not_eq_false', Bool.and_eq_true, Bool.or_eq_true, Bool.and_eq_false_iff, Bool.or_eq_false_iff, not_true_eq_false, not_false_eq_true, IntKind.wrap_i64, wrapU64, tdivP, tmodP, fdivP, Int.reduceLT, Int.not_lt, Int.not_le, gt_iff_lt, ge_iff_le] at * <;> first | contradiction | omega)
                      · exact h
                    have hq13 : ((16 : Int) == p % (24 : Int)) = false := by
                      rcases Bool.eq_false_or_eq_true ((16 : Int) == p % (24 : Int)) with h | h
                      · exfalso; (simp only [decide_eq_true_eq, decide_eq_false_iff_not, beqI, beqIf, bneI, bneIf, beqB, beqBf, bneB, bneBf, Bool.false_eq_true, Bool.true_eq_false, true_iff, iff_true, false_iff, iff_false, true_and, and_true, false_and, and_false, true_or, or_true, false_or, or_false, ne_eq, eq_self, Bool.not_eq_true', Bool.not_eq_false', Bool.and_eq_true, Bool.or_eq_true, Bool.and_eq_false_iff, Bool.or_eq_false_iff, not_true_eq_false, not_false_eq_true, IntKind.wrap_i64, wrapU64, tdivP, tmodP, fdivP, Int.reduceLT, Int.not_lt, Int.not_le, gt_iff_lt, ge_iff_le] at * <;> first | contradiction | omega)
                      · exact h
                    have hq14 : ((17 : Int) == p % (24 : Int)) = false := by
                      rcases Bool.eq_false_or_eq_true ((17 : Int) == p % (24 : Int)) with h | h
                      · exfalso; (simp only [decide_eq_true_eq, decide_eq_false_iff_not, beqI, beqIf, bneI, bneIf, beqB, beqBf, bneB, bneBf, Bool.false_eq_true, Bool.true_eq_false, true_iff, iff_true, false_iff, iff_false, true_and, and_true, false_and, and_false, true_or, or_true, false_or, or_false, ne_eq, eq_self, Bool.not_eq_true', Bool.not_eq_false', Bool.and_eq_true, Bool.or_eq_true, Bool.and_eq_false_iff, Bool.or_eq_false_iff, not_true_eq_false, not_false_eq_true, IntKind.wrap_i64, wrapU64, tdivP, tmodP, fdivP, Int.reduceLT, Int.not_lt, Int.not_le, gt_iff_lt, ge_iff_le] at * <;> first | contradiction | omega)
                      · exact h
                    have hq15 : ((18 : Int) == p % (24 : Int)) = false := by
                      rcases Bool.eq_false_or_eq_true ((18 : Int) == p % (24 : Int)) with h | h
                      · exfalso; (simp only [decide_eq_true_eq, decide_eq_false_iff_not, beqI, beqIf, bneI, bneIf, beqB, beqBf, bneB, bneBf, Bool.false_eq_true, Bool.true_eq_false, true_iff, iff_true, false_iff, iff_false, true_and, and_true, false_and, and_false, true_or, or_true, false_or, or_false, ne_eq, eq_self, Bool.not_eq_true', Bool.not_eq_false', Bool.and_eq_true, Bool.or_eq_true, Bool.and_eq_false_iff, Bool.or_eq_false_iff, not_true_eq_false, not_false_eq_true, IntKind.wrap_i64, wrapU64, tdivP, tmodP, fdivP, Int.reduceLT, Int.not_lt, Int.not_le, gt_iff_lt, ge_iff_le] at * <;> first | contradiction | omega)
                      · exact h
                    have hq16 : ((19 : Int) == p % (24 : Int)) = false := by
                      rcases Bool.eq_false_or_eq_true ((19 : Int) == p % (24 : Int)) with h | h
                      · exfalso; (simp only [decide_eq_true_eq, decide_eq_false_iff_not, beqI, beqIf, bneI, bneIf, beqB, beqBf, bneB, bneBf, Bool.false_eq_true, Bool.true_eq_false, true_iff, iff_true, false_iff, iff_false, true_and, and_true, false_and, and_false, true_or, or_true, false_or, or_false, ne_eq, eq_self, Bool.not_eq_true', Bool.not_eq_false', Bool.and_eq_true, Bool.or_eq_true, Bool.and_eq_false_iff, Bool.or_eq_false_iff, not_true_eq_false, not_false_eq_true, IntKind.wrap_i64, wrapU64, tdivP, tmodP, fdivP, Int.reduceLT, Int.not_lt, Int.not_le, gt_iff_lt, ge_iff_le] at * <;> first | contradiction | omega)
                      · exact h
                    have hq17 : ((20 : Int) == p % (24 : Int)) = false := by
                      rcases Bool.eq_false_or_eq_true ((20 : Int) == p % (24 : Int)) with h | h
                      · exfalso; (simp only [decide_eq_true_eq, decide_eq_false_iff_not, beqI, beqIf, bneI, bneIf, beqB, beqBf, bneB, bneBf, Bool.false_eq_true, Bool.true_eq_false, true_iff, iff_true, false_iff, iff_false, true_and, and_true, false_and, and_false, true_or, or_true, false_or, or_false, ne_eq, eq_self, Bool.not_eq_true', Bool.not_eq_false', Bool.and_eq_true, Bool.or_eq_true, Bool.and_eq_false_iff, Bool.or_eq_false_iff, not_true_eq_false, not_false_eq_true, IntKind.wrap_i64, wrapU64, tdivP, tmodP, fdivP, Int.reduceLT, Int.not_lt, Int.not_le, gt_iff_lt, ge_iff_le] at * <;> first | contradiction | omega)
                      · exact h
                    have hq18 : ((21 : Int) == p % (24 : Int)) = false := by
                      rcases Bool.eq_false_or_eq_true ((21 : Int) == p % (24 : Int)) with h | h
                      · exfalso; (simp only [decide_eq_true_eq, decide_eq_false_iff_not, beqI, beqIf, bneI, bneIf, beqB, beqBf, bneB, bneBf, Bool.false_eq_true, Bool.true_eq_false, true_iff, iff_true, false_iff, iff_false, true_and, and_true, false_and, and_false, true_or, or_true, false_or, or_false, ne_eq, eq_self, Bool.not_eq_true', Bool.not_eq_false', Bool.and_eq_true, Bool.or_eq_true, Bool.and_eq_false_iff, Bool.or_eq_false_iff, not_true_eq_false, not_false_eq_true, IntKind.wrap_i64, wrapU64, tdivP, tmodP, fdivP, Int.reduceLT, Int.not_lt, Int.not_le, gt_iff_lt, ge_iff_le] at * <;> first | contradiction | omega)
                      · exact h
                    have hq19 : ((22 : Int) == p % (24 : Int)) = false := by
                      rcases Bool.eq_false_or_eq_true ((22 : Int) == p % (24 : Int)) with h | h
                      · exfalso; (simp only [decide_eq_true_eq, decide_eq_false_iff_not, beqI, beqIf, bneI, bneIf, beqB, beqBf, bneB, bneBf, Bool.false_eq_true, Bool.true_eq_false, true_iff, iff_true, false_iff, iff_false, true_and, and_true, false_and, and_false, true_or, or_true, false_or, or_false, ne_eq, eq_self, Bool.not_eq_true', Bool.not_eq_false', Bool.and_eq_true, Bool.or_eq_true, Bool.and_eq_false_iff, Bool.or_eq_false_iff, not_true_eq_false, not_false_eq_true, IntKind.wrap_i64, wrapU64, tdivP, tmodP, fdivP, Int.reduceLT, Int.not_lt, Int.not_le, gt_iff_lt, ge_iff_le] at * <;> first | contradiction | omega)
                      · exact h
                    have hq20 : ((23 : Int) == p % (24 : Int)) = false := by
                      rcases Bool.eq_false_or_eq_true ((23 : Int) == p % (24 : Int)) with h | h
                      · exfalso; (simp only [decide_eq_true_eq, decide_eq_false_iff_not, beqI, beqIf, bneI, bneIf, beqB, beqBf, bneB, bneBf, Bool.false_eq_true, Bool.true_eq_false, true_iff, iff_true, false_iff, iff_false, true_and, and_true, false_and, and_false, true_or, or_true, false_or, or_false, ne_eq, eq_self, Bool.not_eq_true', Bool.not_eq_false', Bool.and_eq_true, Bool.or_eq_true, Bool.and_eq_false_iff, Bool.or_eq_false_iff, not_true_eq_false, not_false_eq_true, IntKind.wrap_i64, wrapU64, tdivP, tmodP, fdivP, Int.reduceLT, Int.not_lt, Int.not_le, gt_iff_lt, ge_iff_le] at * <;> first | contradiction | omega)
                      · exact h
                    have hq21 : (!false == ((3 : Int) == IntKind.i64.wrap ((1 : Int) + IntKind.i64.wrap ((p % (24 : Int)).tdiv (8 : Int))))) = false := by
                      rcases Bool.eq_false_or_eq_true (!false == ((3 : Int) == IntKind.i64.wrap ((1 : Int) + IntKind.i64.wrap ((p % (24 : Int)).tdiv (8 : Int))))) with h | h
                      · exfalso; (simp only [decide_eq_true_eq, decide_eq_false_iff_not, beqI, beqIf, bneI, bneIf, beqB, beqBf, bneB, bneBf, Bool.false_eq_true, Bool.true_eq_false, true_iff, iff_true, false_iff, iff_false, true_and, and_true, false_and, and_false, true_or, or_true, false_or, or_false, ne_eq, eq_self, Bool.not_eq_true', Bool.not_eq_false', Bool.and_eq_true, Bool.or_eq_true, Bool.and_eq_false_iff, Bool.or_eq_false_iff, not_true_eq_false, not_false_eq_true, IntKind.wrap_i64, wrapU64, tdivP, tmodP, fdivP, Int.reduceLT, Int.not_lt, Int.not_le, gt_iff_lt, ge_iff_le] at * <;> first | contradiction | omega)
                      · exact h
                    exact lawParts_p8 p hq0 hq1 hq2 hq22 hq23 hq24 hq25 hq26 hq27 hq28 hq29 hq4 hq30 hq13 hq14 hq15 hq16 hq17 hq18 hq19 hq20 hq21
                  ·
                    rcases Bool.eq_false_or_eq_true ((9 : Int) == p % (24 : Int)) with hq5 | hq5
                    ·
                      have hq30 : (!true == ((2 : Int) == IntKind.i64.wrap ((1 : Int) + IntKind.i64.wrap ((p % (24 : Int)).tdiv (8 : Int))))) = false := by
                        rcases Bool.eq_false_or_eq_true (!true == ((2 : Int) == IntKind.i64.wrap ((1 : Int) + IntKind.i64.wrap ((p % (24 : Int)).tdiv (8 : Int))))) with h | h
                        · exfalso; (simp only [decide_eq_true_eq, decide_eq_false_iff_not, beqI, beqIf, bneI, bneIf, beqB, beqBf, bneB, bneBf, Bool.false_eq_true, Bool.true_eq_false, true_iff, iff_true, false_iff, iff_false, true_and, and_true, false_and, and_false, true_or, or_true, false_or, or_false, ne_eq, eq_self, Bool.not_eq_true', Bool.not_eq_false', Bool.and_eq_true, Bool.or_eq_true, Bool.and_eq_false_iff, Bool.or_eq_false_iff, not_true_eq_false, not_false_eq_true, IntKind.wrap_i64, wrapU64, tdivP, tmodP, fdivP, Int.reduceLT, Int.not_lt, Int.not_le, gt_iff_lt, ge_iff_le] at * <;> first | contradiction | omega)
                        · exact h
                      have hq13 : ((16 : Int) == p % (24 : Int)) = false := by
                        rcases Bool.eq_false_or_eq_true ((16 : Int) == p % (24 : Int)) with h | h
                        · exfalso; (simp only [decide_eq_true_eq, decide_eq_false_iff_not, beqI, beqIf, bneI, bneIf, beqB, beqBf, bneB, bneBf, Bool.false_eq_true, Bool.true_eq_false, true_iff, iff_true, false_iff, iff_false, true_and, and_true, false_and, and_false, true_or, or_true, false_or, or_false, ne_eq, eq_self, Bool.not_eq_true', Bool.not_eq_false', Bool.and_eq_true, Bool.or_eq_true, Bool.and_eq_false_iff, Bool.or_eq_false_iff, not_true_eq_false, not_false_eq_true, IntKind.wrap_i64, wrapU64, tdivP, tmodP, fdivP, Int.reduceLT, Int.not_lt, Int.not_le, gt_iff_lt, ge_iff_le] at * <;> first | contradiction | omega)
                        · exact h
                      have hq14 : ((17 : Int) == p % (24 : Int)) = false := by
                        rcases Bool.eq_false_or_eq_true ((17 : Int) == p % (24 : Int)) with h | h
                        · exfalso; (simp only [decide_eq_true_eq, decide_eq_false_iff_not, beqI, beqIf, bneI, bneIf, beqB, beqBf, bneB, bneBf, Bool.false_eq_true, Bool.true_eq_false, true_iff, iff_true, false_iff, iff_false, true_and, and_true, false_and, and_false, true_or, or_true, false_or, or_false, ne_eq, eq_self, Bool.not_eq_true', Bool.not_eq_false', Bool.and_eq_true, Bool.or_eq_true, Bool.and_eq_false_iff, Bool.or_eq_false_iff, not_true_eq_false, not_false_eq_true, IntKind.wrap_i64, wrapU64, tdivP, tmodP, fdivP, Int.reduceLT, Int.not_lt, Int.not_le, gt_iff_lt, ge_iff_le] at * <;> first | contradiction | omega)
                        · exact h
                      have hq15 : ((18 : Int) == p % (24 : Int)) = false := by
                        rcases Bool.eq_false_or_eq_true ((18 : Int) == p % (24 : Int)) with h | h
                        · exfalso; (simp only [decide_eq_true_eq, decide_eq_false_iff_not, beqI, beqIf, bneI, bneIf, beqB, beqBf, bneB, bneBf, Bool.false_eq_true, Bool.true_eq_false, true_iff, iff_true, false_iff, iff_false, true_and, and_true, false_and, and_false, true_or, or_true, false_or, or_false, ne_eq, eq_self, Bool.not_eq_true', Bool.not_eq_false', Bool.and_eq_true, Bool.or_eq_true, Bool.and_eq_false_iff, Bool.or_eq_false_iff, not_true_eq_false, not_false_eq_true, IntKind.wrap_i64, wrapU64, tdivP, tmodP, fdivP, Int.reduceLT, Int.not_lt, Int.not_le, gt_iff_lt, ge_iff_le] at * <;> first | contradiction | omega)
                        · exact h
                      have hq16 : ((19 : Int) == p % (24 : Int)) = false := by
                        rcases Bool.eq_false_or_eq_true ((19 : Int) == p % (24 : Int)) with h | h
                        · exfalso; (simp only [decide_eq_true_eq, decide_eq_false_iff_not, beqI, beqIf, bneI, bneIf, beqB, beqBf, bneB, bneBf, Bool.false_eq_true, Bool.true_eq_false, true_iff, iff_true, false_iff, iff_false, true_and, and_true, false_and, and_false, true_or, or_true, false_or, or_false, ne_eq, eq_self, Bool.not_eq_true', Bool.not_eq_false', Bool.and_eq_true, Bool.or_eq_true, Bool.and_eq_false_iff, Bool.or_eq_false_iff, not_true_eq_false, not_false_eq_true, IntKind.wrap_i64, wrapU64, tdivP, tmodP, fdivP, Int.reduceLT, Int.not_lt, Int.not_le, gt_iff_lt, ge_iff_le] at * <;> first | contradiction | omega)
                        · exact h
                      have hq17 : ((20 : Int) == p % (24 : Int)) = false := by
                        rcases Bool.eq_false_or_eq_true ((20 : Int) == p % (24 : Int)) with h | h
                        · exfalso; (simp only [decide_eq_true_eq, decide_eq_false_iff_not, beqI, beqIf, bneI, bneIf, beqB, beqBf, bneB, bneBf, Bool.false_eq_true, Bool.true_eq_false, true_iff, iff_true, false_iff, iff_false, true_and, and_true, false_and, and_false, true_or, or_true, false_or, or_false, ne_eq, eq_self, Bool.not_eq_true', Bool.not_eq_false', Bool.and_eq_true, Bool.or_eq_true, Bool.and_eq_false_iff, Bool.or_eq_false_iff, not_true_eq_false, not_false_eq_true, IntKind.wrap_i64, wrapU64, tdivP, tmodP, fdivP, Int.reduceLT, Int.not_lt, Int.not_le, gt_iff_lt, ge_iff_le] at * <;> first | contradiction | omega)
                        · exact h
                      have hq18 : ((21 : Int) == p % (24 : Int)) = false := by
                        rcases Bool.eq_false_or_eq_true ((21 : Int) == p % (24 : Int)) with h | h
                        · exfalso; (simp only [decide_eq_true_eq, decide_eq_false_iff_not, beqI, beqIf, bneI, bneIf, beqB, beqBf, bneB, bneBf, Bool.false_eq_true, Bool.true_eq_false, true_iff, iff_true, false_iff, iff_false, true_and, and_true, false_and, and_false, true_or, or_true, false_or, or_false, ne_eq, eq_self, Bool.not_eq_true', Bool.not_eq_false', Bool.and_eq_true, Bool.or_eq_true, Bool.and_eq_false_iff, Bool.or_eq_false_iff, not_true_eq_false, not_false_eq_true, IntKind.wrap_i64, wrapU64, tdivP, tmodP, fdivP, Int.reduceLT, Int.not_lt, Int.not_le, gt_iff_lt, ge_iff_le] at * <;> first | contradiction | omega)
                        · exact h
                      have hq19 : ((22 : Int) == p % (24 : Int)) = false := by
                        rcases Bool.eq_false_or_eq_true ((22 : Int) == p % (24 : Int)) with h | h
                        · exfalso; (simp only [decide_eq_true_eq, decide_eq_false_iff_not, beqI, beqIf, bneI, bneIf, beqB, beqBf, bneB, bneBf, Bool.false_eq_true, Bool.true_eq_false, true_iff, iff_true, false_iff, iff_false, true_and, and_true, false_and, and_false, true_or, or_true, false_or, or_false, ne_eq, eq_self, Bool.not_eq_true', Bool.not_eq_false', Bool.and_eq_true, Bool.or_eq_true, Bool.and_eq_false_iff, Bool.or_eq_false_iff, not_true_eq_false, not_false_eq_true, IntKind.wrap_i64, wrapU64, tdivP, tmodP, fdivP, Int.reduceLT, Int.not_lt, Int.not_le, gt_iff_lt, ge_iff_le] at * <;> first | contradiction | omega)
                        · exact h
                      have hq20 : ((23 : Int) == p % (24 : Int)) = false := by
                        rcases Bool.eq_false_or_eq_true ((23 : Int) == p % (24 : Int)) with h | h
                        · exfalso; (simp only [decide_eq_true_eq, decide_eq_false_iff_not, beqI, beqIf, bneI, bneIf, beqB, beqBf, bneB, bneBf, Bool.false_eq_true, Bool.true_eq_false, true_iff, iff_true, false_iff, iff_false, true_and, and_true, false_and, and_false, true_or, or_true, false_or, or_false, ne_eq, eq_self, Bool.not_eq_true', Bool.not_eq_false', Bool.and_eq_true, Bool.or_eq_true, Bool.and_eq_false_iff, Bool.or_eq_false_iff, not_true_eq_false, not_false_eq_true, IntKind.wrap_i64, wrapU64, tdivP, tmodP, fdivP, Int.reduceLT, Int.not_lt, Int.not_le, gt_iff_lt, ge_iff_le] at * <;> first | contradiction | omega)
                        · exact h
                      have hq21 : (!false == ((3 : Int) == IntKind.i64.wrap ((1 : Int) + IntKind.i64.wrap ((p % (24 : Int)).tdiv (8 : Int))))) = false := by
                        rcases Bool.eq_false_or_eq_true (!false == ((3 : Int) == IntKind.i64.wrap ((1 : Int) + IntKind.i64.wrap ((p % (24 : Int)).tdiv (8 : Int))))) with h | h
                        · exfalso; (simp only [decide_eq_true_eq, decide_eq_false_iff_not, beqI, beqIf, bneI, bneIf, beqB, beqBf, bneB, bneBf, Bool.false_eq_true, Bool.true_eq_false, true_iff, iff_true, false_iff, iff_false, true_and, and_true, false_and, and_false, true_or, or_true, false_or, or_false, ne_eq, eq_self, Bool.not_eq_true', Bool.not_eq_false', Bool.and_eq_true, Bool.or_eq_true, Bool.and_eq_false_iff, Bool.or_eq_false_iff, not_true_eq_false, not_false_eq_true, IntKind.wrap_i64, wrapU64, tdivP, tmodP, fdivP, Int.reduceLT, Int.not_lt, Int.not_le, gt_iff_lt, ge_iff_le] at * <;> first | contradiction | omega)
                        · exact h
                      exact lawParts_p9 p hq0 hq1 hq2 hq22 hq23 hq24 hq25 hq26 hq27 hq28 hq29 hq4 hq5 hq30 hq13 hq14 hq15 hq16 hq17 hq18 hq19 hq20 hq21
                    ·
                      rcases Bool.eq_false_or_eq_true ((10 : Int) == p % (24 : Int)) with hq6 | hq6
                      ·
                        have hq30 : (!true == ((2 : Int) == IntKind.i64.wrap ((1 : Int) + IntKind.i64.wrap ((p % (24 : Int)).tdiv (8 : Int))))) = false := by
                          rcases Bool.eq_false_or_eq_true (!true == ((2 : Int) == IntKind.i64.wrap ((1 : Int) + IntKind.i64.wrap ((p % (24 : Int)).tdiv (8 : Int))))) with h | h
                          · exfalso; (simp only [decide_eq_true_eq, decide_eq_false_iff_not, beqI, beqIf, bneI, bneIf, beqB, beqBf, bneB, bneBf, Bool.false_eq_true, Bool.true_eq_false, true_iff, iff_true, false_iff, iff_false, true_and, and_true, false_and, and_false, true_or, or_true, false_or, or_false, ne_eq, eq_self, Bool.not_eq_true', Bool.not_eq_false', Bool.and_eq_true, Bool.or_eq_true, Bool.and_eq_false_iff, Bool.or_eq_false_iff, not_true_eq_false, not_false_eq_true, IntKind.wrap_i64, wrapU64, tdivP, tmodP, fdivP, Int.reduceLT, Int.not_lt, Int.not_le, gt_iff_lt, ge_iff_le] at * <;> first | contradiction | omega)
                          · exact h
                        have hq13 : ((16 : Int) == p % (24 : Int)) = false := by
                          rcases Bool.eq_false_or_eq_true ((16 : Int) == p % (24 : Int)) with h | h
                          · exfalso; (simp only [decide_eq_true_eq, decide_eq_false_iff_not, beqI, beqIf, bneI, bneIf, beqB, beqBf, bneB, bneBf, Bool.false_eq_true, Bool.true_eq_false, true_iff, iff_true, false_iff, iff_false, true_and, and_true, false_and, and_false, true_or, or_true, false_or, or_false, ne_eq, eq_self, Bool.not_eq_true', Bool.not_eq_false', Bool.and_eq_true, Bool.or_eq_true, Bool.and_eq_false_iff, Bool.or_eq_false_iff, not_true_eq_false, not_false_eq_true, IntKind.wrap_i64, wrapU64, tdivP, tmodP, fdivP, Int.reduceLT, Int.not_lt, Int.not_le, gt_iff_lt, ge_iff_le] at * <;> first | contradiction | omega)
                          · exact h
                        have hq14 : ((17 : Int) == p % (24 : Int)) = false := by
                          rcases Bool.eq_false_or_eq_true ((17 : Int) == p % (24 : Int)) with h | h
                          · exfalso; (simp only [decide_eq_true_eq, decide_eq_false_iff_not, beqI, beqIf, bneI, bneIf, beqB, beqBf, bneB, bneBf, Bool.false_eq_true, Bool.true_eq_false, true_iff, iff_true, false_iff, iff_false, true_and, and_true, false_and, and_false, true_or, or_true, false_or, or_false, ne_eq, eq_self, Bool.not_eq_true', Bool.not_eq_false', Bool.and_eq_true, Bool.or_eq_true, Bool.and_eq_false_iff, Bool.or_eq_false_iff, not_true_eq_false, not_false_eq_true, IntKind.wrap_i64, wrapU64, tdivP, tmodP, fdivP, Int.reduceLT, Int.not_lt, Int.not_le, gt_iff_lt, ge_iff_le] at * <;> first | contradiction | omega)
                          · exact h
                        have hq15 : ((18 : Int) == p % (24 : Int)) = false := by
                          rcases Bool.eq_false_or_eq_true ((18 : Int) == p % (24 : Int)) with h | h
                          · exfalso; (simp only [decide_eq_true_eq, decide_eq_false_iff_not, beqI, beqIf, bneI, bneIf, beqB, beqBf, bneB, bneBf, Bool.false_eq_true, Bool.true_eq_false, true_iff, iff_true, false_iff, iff_false, true_and, and_true, false_and, and_false, true_or, or_true, false_or, or_false, ne_eq, eq_self, Bool.not_eq_true', Bool.not_eq_false', Bool.and_eq_true, Bool.or_eq_true, Bool.and_eq_false_iff, Bool.or_eq_false_iff, not_true_eq_false, not_false_eq_true, IntKind.wrap_i64, wrapU64, tdivP, tmodP, fdivP, Int.reduceLT, Int.not_lt, Int.not_le, gt_iff_lt, ge_iff_le] at * <;> first | contradiction | omega)
                          · exact h
                        have hq16 : ((19 : Int) == p % (24 : Int)) = false := by
                          rcases Bool.eq_false_or_eq_true ((19 : Int) == p % (24 : Int)) with h | h
                          · exfalso; (simp only [decide_eq_true_eq, decide_eq_false_iff_not, beqI, beqIf, bneI, bneIf, beqB, beqBf, bneB, bneBf, Bool.false_eq_true, Bool.true_eq_false, true_iff, iff_true, false_iff, iff_false, true_and, and_true, false_and, and_false, true_or, or_true, false_or, or_false, ne_eq, eq_self, Bool.not_eq_true', Bool.not_eq_false', Bool.and_eq_true, Bool.or_eq_true, Bool.and_eq_false_iff, Bool.or_eq_false_iff, not_true_eq_false, not_false_eq_true, IntKind.wrap_i64, wrapU64, tdivP, tmodP, fdivP, Int.reduceLT, Int.not_lt, Int.not_le, gt_iff_lt, ge_iff_le] at * <;> first | contradiction | omega)
                          · exact h
                        have hq17 : ((20 : Int) == p % (24 : Int)) = false := by
                          rcases Bool.eq_false_or_eq_true ((20 : Int) == p % (24 : Int)) with h | h
                          · exfalso; (simp only [decide_eq_true_eq, decide_eq_false_iff_not, beqI, beqIf, bneI, bneIf, beqB, beqBf, bneB, bneBf, Bool.false_eq_true, Bool.true_eq_false, true_iff, iff_true, false_iff, iff_false, true_and, and_true, false_and, and_false, true_or, or_true, false_or, or_false, ne_eq, eq_self, Bool.not_eq_true', Bool.not_eq_false', Bool.and_eq_true, Bool.or_eq_true, Bool.and_eq_false_iff, Bool.or_eq_false_iff, not_true_eq_false, not_false_eq_true, IntKind.wrap_i64, wrapU64, tdivP, tmodP, fdivP, Int.reduceLT, Int.not_lt, Int.not_le, gt_iff_lt, ge_iff_le] at * <;> first | contradiction | omega)
                          · exact h
                        have hq18 : ((21 : Int) == p % (24 : Int)) = false := by
                          rcases Bool.eq_false_or_eq_true ((21 : Int) == p % (24 : Int)) with h | h
                          · exfalso; (simp only [decide_eq_true_eq, decide_eq_false_iff_not, beqI, beqIf, bneI, bneIf, beqB, beqBf, bneB, bneBf, Bool.false_eq_true, Bool.true_eq_false, true_iff, iff_true, false_iff, iff_false, true_and, and_true, false_and, and_false, true_or, or_true, false_or, or_false, ne_eq, eq_self, Bool.not_eq_true', Bool.not_eq_false', Bool.and_eq_true, Bool.or_eq_true, Bool.and_eq_false_iff, Bool.or_eq_false_iff, not_true_eq_false, not_false_eq_true, IntKind.wrap_i64, wrapU64, tdivP, tmodP, fdivP, Int.reduceLT, Int.not_lt, Int.not_le, gt_iff_lt, ge_iff_le] at * <;> first | contradiction | omega)
                          · exact h
                        have hq19 : ((22 : Int) == p % (24 : Int)) = false := by
                          rcases Bool.eq_false_or_eq_true ((22 : Int) == p % (24 : Int)) with h | h
                          · exfalso; (simp only [decide_eq_true_eq, decide_eq_false_iff_not, beqI, beqIf, bneI, bneIf, beqB, beqBf, bneB, bneBf, Bool.false_eq_true, Bool.true_eq_false, true_iff, iff_true, false_iff, iff_false, true_and, and_true, false_and, and_false, true_or, or_true, false_or, or_false, ne_eq, eq_self, Bool.not_eq_true', Bool.not_eq_false', Bool.and_eq_true, Bool.or_eq_true, Bool.and_eq_false_iff, Bool.or_eq_false_iff, not_true_eq_false, not_false_eq_true, IntKind.wrap_i64, wrapU64, tdivP, tmodP, fdivP, Int.reduceLT, Int.not_lt, Int.not_le, gt_iff_lt, ge_iff_le] at * <;> first | contradiction | omega)
                          · exact h
                        have hq20 : ((23 : Int) == p % (24 : Int)) = false := by
                          rcases Bool.eq_false_or_eq_true ((23 : Int) == p % (24 : Int)) with h | h
                          · exfalso; (simp only [decide_eq_true_eq, decide_eq_false_iff_not, beqI, beqIf, bneI, bneIf, beqB, beqBf, bneB, bneBf, Bool.false_eq_true, Bool.true_eq_false, true_iff, iff_true, false_iff, iff_false, true_and, and_true, false_and, and_false, true_or, or_true, false_or, or_false, ne_eq, eq_self, Bool.not_eq_true', Bool.not_eq_false', Bool.and_eq_true, Bool.or_eq_true, Bool.and_eq_false_iff, Bool.or_eq_false_iff, not_true_eq_false, not_false_eq_true, IntKind.wrap_i64, wrapU64, tdivP, tmodP, fdivP, Int.reduceLT, Int.not_lt, Int.not_le, gt_iff_lt, ge_iff_le] at * <;> first | contradiction | omega)
                          · exact h
                        have hq21 : (!false == ((3 : Int) == IntKind.i64.wrap ((1 : Int) + IntKind.i64.wrap ((p % (24 : Int)).tdiv (8 : Int))))) = false := by
                          rcases Bool.eq_false_or_eq_true (!false == ((3 : Int) == IntKind.i64.wrap ((1 : Int) + IntKind.i64.wrap ((p % (24 : Int)).tdiv (8 : Int))))) with h | h
                          · exfalso; (simp only [decide_eq_true_eq, decide_eq_false_iff_not, beqI, beqIf, bneI, bneIf, beqB, beqBf, bneB, bneBf, Bool.false_eq_true, Bool.true_eq_false, true_iff, iff_true, false_iff, iff_false, true_and, and_true, false_and, and_false, true_or, or_true, false_or, or_false, ne_eq, eq_self, Bool.not_eq_true', Bool.not_eq_false', Bool.and_eq_true, Bool.or_eq_true, Bool.and_eq_false_iff, Bool.or_eq_false_iff, not_true_eq_false, not_false_eq_true, IntKind.wrap_i64, wrapU64, tdivP, tmodP, fdivP, Int.reduceLT, Int.not_lt, Int.not_le, gt_iff_lt, ge_iff_le] at * <;> first | contradiction | omega)
                          · exact h
                        exact lawParts_p10 p hq0 hq1 hq2 hq22 hq23 hq24 hq25 hq26 hq27 hq28 hq29 hq4 hq5 hq6 hq30 hq13 hq14 hq15 hq16 hq17 hq18 hq19 hq20 hq21
                      ·
                        rcases Bool.eq_false_or_eq_true ((11 : Int) == p % (24 : Int)) with hq7 | hq7
                        ·
                          have hq30 : (!true == ((2 : Int) == IntKind.i64.wrap ((1 : Int) + IntKind.i64.wrap ((p % (24 : Int)).tdiv (8 : Int))))) = false := by
                            rcases Bool.eq_false_or_eq_true (!true == ((2 : Int) == IntKind.i64.wrap ((1 : Int) + IntKind.i64.wrap ((p % (24 : Int)).tdiv (8 : Int))))) with h | h
                            · exfalso; (simp only [decide_eq_true_eq, decide_eq_false_iff_not, beqI, beqIf, bneI, bneIf, beqB, beqBf, bneB, bneBf, Bool.false_eq_true, Bool.true_eq_false, true_iff, iff_true, false_iff, iff_false, true_and, and_true, false_and, and_false, true_or, or_true, false_or, or_false, ne_eq, eq_self, Bool.not_eq_true', Bool.not_eq_false', Bool.and_eq_true, Bool.or_eq_true, Bool.and_eq_false_iff, Bool.or_eq_false_iff, not_true_eq_false, not_false_eq_true, IntKind.wrap_i64, wrapU64, tdivP, tmodP, fdivP, Int.reduceLT, Int.not_lt, Int.not_le, gt_iff_lt, ge_iff_le] at * <;> first | contradiction | omega)
                            · exact h
                          have hq13 : ((16 : Int) == p % (24 : Int)) = false := by
                            rcases Bool.eq_false_or_eq_true ((16 : Int) == p % (24 : Int)) with h | h
                            · exfalso; (simp only [decide_eq_true_eq, decide_eq_false_iff_not, beqI, beqIf, bneI, bneIf, beqB, beqBf, bneB, bneBf, Bool.false_eq_true, Bool.true_eq_false, true_iff, iff_true, false_iff, iff_false, true_and, and_true, false_and, and_false, true_or, or_true, false_or, or_false, ne_eq, eq_self, Bool.not_eq_true', Bool.not_eq_false', Bool.and_eq_true, Bool.or_eq_true, Bool.and_eq_false_iff, Bool.or_eq_false_iff, not_true_eq_false, not_false_eq_true, IntKind.wrap_i64, wrapU64, tdivP, tmodP, fdivP, Int.reduceLT, Int.not_lt, Int.not_le, gt_iff_lt, ge_iff_le] at * <;> first | contradiction | omega)
                            · exact h
                          have hq14 : ((17 : Int) == p % (24 : Int)) = false := by
                            rcases Bool.eq_false_or_eq_true ((17 : Int) == p % (24 : Int)) with h | h
                            · exfalso; (simp only [decide_eq_true_eq, decide_eq_false_iff_not, beqI, beqIf, bneI, bneIf, beqB, beqBf, bneB, bneBf, Bool.false_eq_true, Bool.true_eq_false, true_iff, iff_true, false_iff, iff_false, true_and, and_true, false_and, and_false, true_or, or_true, false_or, or_false, ne_eq, eq_self, Bool.not_eq_true', Bool.not_eq_false', Bool.and_eq_true, Bool.or_eq_true, Bool.and_eq_false_iff, Bool.or_eq_false_iff, not_true_eq_false, not_false_eq_true, IntKind.wrap_i64, wrapU64, tdivP, tmodP, fdivP, Int.reduceLT, Int.not_lt, Int.not_le, gt_iff_lt, ge_iff_le] at * <;> first | contradiction | omega)
                            · exact h
                          have hq15 : ((18 : Int) == p % (24 : Int)) = false := by
                            rcases Bool.eq_false_or_eq_true ((18 : Int) == p % (24 : Int)) with h | h
                            · exfalso; (simp only [decide_eq_true_eq, decide_eq_false_iff_not, beqI, beqIf, bneI, bneIf, beqB, beqBf, bneB, bneBf, Bool.false_eq_true, Bool.true_eq_false, true_iff, iff_true, false_iff, iff_false, true_and, and_true, false_and, and_false, true_or, or_true, false_or, or_false, ne_eq, eq_self, Bool.not_eq_true', Bool.not_eq_false', Bool.and_eq_true, Bool.or_eq_true, Bool.and_eq_false_iff, Bool.or_eq_false_iff, not_true_eq_false, not_false_eq_true, IntKind.wrap_i64, wrapU64, tdivP, tmodP, fdivP, Int.reduceLT, Int.not_lt, Int.not_le, gt_iff_lt, ge_iff_le] at * <;> first | contradiction | omega)
                            · exact h
                          have hq16 : ((19 : Int) == p % (24 : Int)) = false := by
                            rcases Bool.eq_false_or_eq_true ((19 : Int) == p % (24 : Int)) with h | h
                            · exfalso; (simp only [decide_eq_true_eq, decide_eq_false_iff_not, beqI, beqIf, bneI, bneIf, beqB, beqBf, bneB, bneBf, Bool.false_eq_true, Bool.true_eq_false, true_iff, iff_true, false_iff, iff_false, true_and, and_true, false_and, and_false, true_or, or_true, false_or, or_false, ne_eq, eq_self, Bool.not_eq_true', Bool.not_eq_false', Bool.and_eq_true, Bool.or_eq_true, Bool.and_eq_false_iff, Bool.or_eq_false_iff, not_true_eq_false, not_false_eq_true, IntKind.wrap_i64, wrapU64, tdivP, tmodP, fdivP, Int.reduceLT, Int.not_lt, Int.not_le, gt_iff_lt, ge_iff_le] at * <;> first | contradiction | omega)
                            · exact h
                          have hq17 : ((20 : Int) == p % (24 : Int)) = false := by
                            rcases Bool.eq_false_or_eq_true ((20 : Int) == p % (24 : Int)) with h | h
                            · exfalso; (simp only [decide_eq_true_eq, decide_eq_false_iff_not, beqI, beqIf, bneI, bneIf, beqB, beqBf, bneB, bneBf, Bool.false_eq_true, Bool.true_eq_false, true_iff, iff_true, false_iff, iff_false, true_and, and_true, false_and, and_false, true_or, or_true, false_or, or_false, ne_eq, eq_self, Bool.not_eq_true', Bool.not_eq_false', Bool.and_eq_true, Bool.or_eq_true, Bool.and_eq_false_iff, Bool.or_eq_false_iff, not_true_eq_false, not_false_eq_true, IntKind.wrap_i64, wrapU64, tdivP, tmodP, fdivP, Int.reduceLT, Int.not_lt, Int.not_le, gt_iff_lt, ge_iff_le] at * <;> first | contradiction | omega)
                            · exact h
                          have hq18 : ((21 : Int) == p % (24 : Int)) = false := by
                            rcases Bool.eq_false_or_eq_true ((21 : Int) == p % (24 : Int)) with h | h
                            · exfalso; (simp only [decide_eq_true_eq, decide_eq_false_iff_not, beqI, beqIf, bneI, bneIf, beqB, beqBf, bneB, bneBf, Bool.false_eq_true, Bool.true_eq_false, true_iff, iff_true, false_iff, iff_false, true_and, and_true, false_and, and_false, true_or, or_true, false_or, or_false, ne_eq, eq_self, Bool.not_eq_true', Bool.not_eq_false', Bool.and_eq_true, Bool.or_eq_true, Bool.and_eq_false_iff, Bool.or_eq_false_iff, not_true_eq_false, not_false_eq_true, IntKind.wrap_i64, wrapU64, tdivP, tmodP, fdivP, Int.reduceLT, Int.not_lt, Int.not_le, gt_iff_lt, ge_iff_le] at * <;> first | contradiction | omega)
                            · exact h
                          have hq19 : ((22 : Int) == p % (24 : Int)) = false := by
                            rcases Bool.eq_false_or_eq_true ((22 : Int) == p % (24 : Int)) with h | h
                            · exfalso; (simp only [decide_eq_true_eq, decide_eq_false_iff_not, beqI, beqIf, bneI, bneIf, beqB, beqBf, bneB, bneBf, Bool.false_eq_true, Bool.true_eq_false, true_iff, iff_true, false_iff, iff_false, true_and, and_true, false_and, and_false, true_or, or_true, false_or, or_false, ne_eq, eq_self, Bool.not_eq_true', Bool.not_eq_false', Bool.and_eq_true, Bool.or_eq_true, Bool.and_eq_false_iff, Bool.or_eq_false_iff, not_true_eq_false, not_false_eq_true, IntKind.wrap_i64, wrapU64, tdivP, tmodP, fdivP, Int.reduceLT, Int.not_lt, Int.not_le, gt_iff_lt, ge_iff_le] at * <;> first | contradiction | omega)
                            · exact h
                          have hq20 : ((23 : Int) == p % (24 : Int)) = false := by
                            rcases Bool.eq_false_or_eq_true ((23 : Int) == p % (24 : Int)) with h | h
                            · exfalso; (simp only [decide_eq_true_eq, decide_eq_false_iff_not, beqI, beqIf, bneI, bneIf, beqB, beqBf, bneB, bneBf, Bool.false_eq_true, Bool.true_eq_false, true_iff, iff_true, false_iff, iff_false, true_and, and_true, false_and, and_false, true_or, or_true, false_or, or_false, ne_eq, eq_self, Bool.not_eq_true', Bool.not_eq_false', Bool.and_eq_true, Bool.or_eq_true, Bool.and_eq_false_iff, Bool.or_eq_false_iff, not_true_eq_false, not_false_eq_true, IntKind.wrap_i64, wrapU64, tdivP, tmodP, fdivP, Int.reduceLT, Int.not_lt, Int.not_le, gt_iff_lt, ge_iff_le] at * <;> first | contradiction | omega)
                            · exact h
                          have hq21 : (!false == ((3 : Int) == IntKind.i64.wrap ((1 : Int) + IntKind.i64.wrap ((p % (24 : Int)).tdiv (8 : Int))))) = false := by
                            rcases Bool.eq_false_or_eq_true (!false == ((3 : Int) == IntKind.i64.wrap ((1 : Int) + IntKind.i64.wrap ((p % (24 : Int)).tdiv (8 : Int))))) with h | h
                            · exfalso; (simp only [decide_eq_true_eq, decide_eq_false_iff_not, beqI, beqIf, bneI, bneIf, beqB, beqBf, bneB, bneBf, Bool.false_eq_true, Bool.true_eq_false, true_iff, iff_true, false_iff, iff_false, true_and, and_true, false_and, and_false, true_or, or_true, false_or, or_false, ne_eq, eq_self, Bool.not_eq_true', Bool.not_eq_false', Bool.and_eq_true, Bool.or_eq_true, Bool.and_eq_false_iff, Bool.or_eq_false_iff, not_true_eq_false, not_false_eq_true, IntKind.wrap_i64, wrapU64, tdivP, tmodP, fdivP, Int.reduceLT, Int.not_lt, Int.not_le, gt_iff_lt, ge_iff_le] at * <;> first | contradiction | omega)
                            · exact h
                          exact lawParts_p11 p hq0 hq1 hq2 hq22 hq23 hq24 hq25 hq26 hq27 hq28 hq29 hq4 hq5 hq6 hq7 hq30 hq13 hq14 hq15 hq16 hq17 hq18 hq19 hq20 hq21
                        ·
                          rcases Bool.eq_false_or_eq_true ((12 : Int) == p % (24 : Int)) with hq8 | hq8
                          ·
                            have hq30 : (!true == ((2 : Int) == IntKind.i64.wrap ((1 : Int) + IntKind.i64.wrap ((p % (24 : Int)).tdiv (8 : Int))))) = false := by
                              rcases Bool.eq_false_or_eq_true (!true == ((2 : Int) == IntKind.i64.wrap ((1 : Int) + IntKind.i64.wrap ((p % (24 : Int)).tdiv (8 : Int))))) with h | h
                              · exfalso; (simp only [decide_eq_true_eq, decide_eq_false_iff_not, beqI, beqIf, bneI, bneIf, beqB, beqBf, bneB, bneBf, Bool.false_eq_true, Bool.true_eq_false, true_iff, iff_true, false_iff, iff_false, true_and, and_true, false_and, and_false, true_or, or_true, false_or, or_false, ne_eq, eq_self, Bool.not_eq_true', Bool.not_eq_false', Bool.and_eq_true, Bool.or_eq_true, Bool.and_eq_false_iff, Bool.or_eq_false_iff, not_true_eq_false, not_false_eq_true, IntKind.wrap_i64, wrapU64, tdivP, tmodP, fdivP, Int.reduceLT, Int.not_lt, Int.not_le, gt_iff_lt, ge_iff_le] at * <;> first | contradiction | omega)
                              · exact h
                            have hq13 : ((16 : Int) == p % (24 : Int)) = false := by
                              rcases Bool.eq_false_or_eq_true ((16 : Int) == p % (24 : Int)) with h | h
                              · exfalso; (simp only [decide_eq_true_eq, decide_eq_false_iff_not, beqI, beqIf, bneI, bneIf, beqB, beqBf, bneB, bneBf, Bool.false_eq_true, Bool.true_eq_false, true_iff, iff_true, false_iff, iff_false, true_and, and_true, false_and, and_false, true_or, or_true, false_or, or_false, ne_eq, eq_self, Bool.not_eq_true', Bool.not_eq_false', Bool.and_eq_true, Bool.or_eq_true, Bool.and_eq_false_iff, Bool.or_eq_false_iff, not_true_eq_false, not_false_eq_true, IntKind.wrap_i64, wrapU64, tdivP, tmodP, fdivP, Int.reduceLT, Int.not_lt, Int.not_le, gt_iff_lt, ge_iff_le] at * <;> first | contradiction | omega)
                              · exact h
                            have hq14 : ((17 : Int) == p % (24 : Int)) = false := by
                              rcases Bool.eq_false_or_eq_true ((17 : Int) == p % (24 : Int)) with h | h
                              · exfalso; (simp only [decide_eq_true_eq, decide_eq_false_iff_not, beqI, beqIf, bneI, bneIf, beqB, beqBf, bneB, bneBf, Bool.false_eq_true, Bool.true_eq_false, true_iff, iff_true, false_iff, iff_false, true_and, and_true, false_and, and_false, true_or, or_true, false_or, or_false, ne_eq, eq_self, Bool.not_eq_true', Bool.not_eq_false', Bool.and_eq_true, Bool.or_eq_true, Bool.and_eq_false_iff, Bool.or_eq_false_iff, not_true_eq_false, not_false_eq_true, IntKind.wrap_i64, wrapU64, tdivP, tmodP, fdivP, Int.reduceLT, Int.not_lt, Int.not_le, gt_iff_lt, ge_iff_le] at * <;> first | contradiction | omega)
                              · exact h
                            have hq15 : ((18 : Int) == p % (24 : Int)) = false := by
                              rcases Bool.eq_false_or_eq_true ((18 : Int) == p % (24 : Int)) with h | h
                              · exfalso; (simp only [decide_eq_true_eq, decide_eq_false_iff_not, beqI, beqIf, bneI, bneIf, beqB, beqBf, bneB, bneBf, Bool.false_eq_true, Bool.true_eq_false, true_iff, iff_true, false_iff, iff_false, true_and, and_true, false_and, and_false, true_or, or_true, false_or, or_false, ne_eq, eq_self, Bool.not_eq_true', Bool.not_eq_false', Bool.and_eq_true, Bool.or_eq_true, Bool.and_eq_false_iff, Bool.or_eq_false_iff, not_true_eq_false, not_false_eq_true, IntKind.wrap_i64, wrapU64, tdivP, tmodP, fdivP, Int.reduceLT, Int.not_lt, Int.not_le, gt_iff_lt, ge_iff_le] at * <;> first | contradiction | omega)
                              · exact h
                            have hq16 : ((19 : Int) == p % (24 : Int)) = false := by
                              rcases Bool.eq_false_or_eq_true ((19 : Int) == p % (24 : Int)) with h | h
                              · exfalso; (simp only [decide_eq_true_eq, decide_eq_false_iff_not, beqI, beqIf, bneI, bneIf, beqB, beqBf, bneB, bneBf, Bool.false_eq_true, Bool.true_eq_false, true_iff, iff_true, false_iff, iff_false, true_and, and_true, false_and, and_false, true_or, or_true, false_or, or_false, ne_eq, eq_self, Bool.not_eq_true', Bool.not_eq_false', Bool.and_eq_true, Bool.or_eq_true, Bool.and_eq_false_iff, Bool.or_eq_false_iff, not_true_eq_false, not_false_eq_true, IntKind.wrap_i64, wrapU64, tdivP, tmodP, fdivP, Int.reduceLT, Int.not_lt, Int.not_le, gt_iff_lt, ge_iff_le] at * <;> first | contradiction | omega)
                              · exact h
                            have hq17 : ((20 : Int) == p % (24 : Int)) = false := by
                              rcases Bool.eq_false_or_eq_true ((20 : Int) == p % (24 : Int)) with h | h
                              · exfalso; (simp only [decide_eq_true_eq, decide_eq_false_iff_not, beqI, beqIf, bneI, bneIf, beqB, beqBf, bneB, bneBf, Bool.false_eq_true, Bool.true_eq_false, true_iff, iff_true, false_iff, iff_false, true_and, and_true, false_and, and_false, true_or, or_true, false_or, or_false, ne_eq, eq_self, Bool.not_eq_true', Bool.not_eq_false', Bool.and_eq_true, Bool.or_eq_true, Bool.and_eq_false_iff, Bool.or_eq_false_iff, not_true_eq_false, not_false_eq_true, IntKind.wrap_i64, wrapU64, tdivP, tmodP, fdivP, Int.reduceLT, Int.not_lt, Int.not_le, gt_iff_lt, ge_iff_le] at * <;> first | contradiction | omega)
                              · exact h
                            have hq18 : ((21 : Int) == p % (24 : Int)) = false := by
                              rcases Bool.eq_false_or_eq_true ((21 : Int) == p % (24 : Int)) with h | h
                              · exfalso; (simp only [decide_eq_true_eq, decide_eq_false_iff_not, beqI, beqIf, bneI, bneIf, beqB, beqBf, bneB, bneBf, Bool.false_eq_true, Bool.true_eq_false, true_iff, iff_true, false_iff, iff_false, true_and, and_true, false_and, and_false, true_or, or_true, false_or, or_false, ne_eq, eq_self, Bool.not_eq_true', Bool.not_eq_false', Bool.and_eq_true, Bool.or_eq_true, Bool.and_eq_false_iff, Bool.or_eq_false_iff, not_true_eq_false, not_false_eq_true, IntKind.wrap_i64, wrapU64, tdivP, tmodP, fdivP, Int.reduceLT, Int.not_lt, Int.not_le, gt_iff_lt, ge_iff_le] at * <;> first | contradiction | omega)
                              · exact h
                            have hq19 : ((22 : Int) == p % (24 : Int)) = false := by
                              rcases Bool.eq_false_or_eq_true ((22 : Int) == p % (24 : Int)) with h | h
                              · exfalso; (simp only [decide_eq_true_eq, decide_eq_false_iff_not, beqI, beqIf, bneI, bneIf, beqB, beqBf, bneB, bneBf, Bool.false_eq_true, Bool.true_eq_false, true_iff, iff_true, false_iff, iff_false, true_and, and_true, false_and, and_false, true_or, or_true, false_or, or_false, ne_eq, eq_self, Bool.not_eq_true', Bool.not_eq_false', Bool.and_eq_true, Bool.or_eq_true, Bool.and_eq_false_iff, Bool.or_eq_false_iff, not_true_eq_false, not_false_eq_true, IntKind.wrap_i64, wrapU64, tdivP, tmodP, fdivP, Int.reduceLT, Int.not_lt, Int.not_le, gt_iff_lt, ge_iff_le] at * <;> first | contradiction | omega)
                              · exact h
                            have hq20 : ((23 : Int) == p % (24 : Int)) = false := by
                              rcases Bool.eq_false_or_eq_true ((23 : Int) == p % (24 : Int)) with h | h
                              · exfalso; (simp only [decide_eq_true_eq, decide_eq_false_iff_not, beqI, beqIf, bneI, bneIf, beqB, beqBf, bneB, bneBf, Bool.false_eq_true, Bool.true_eq_false, true_iff, iff_true, false_iff, iff_false, true_and, and_true, false_and, and_false, true_or, or_true, false_or, or_false, ne_eq, eq_self, Bool.not_eq_true', Bool.not_eq_false', Bool.and_eq_true, Bool.or_eq_true, Bool.and_eq_false_iff, Bool.or_eq_false_iff, not_true_eq_false, not_false_eq_true, IntKind.wrap_i64, wrapU64, tdivP, tmodP, fdivP, Int.reduceLT, Int.not_lt, Int.not_le, gt_iff_lt, ge_iff_le] at * <;> first | contradiction | omega)
                              · exact h
                            have hq21 : (!false == ((3 : Int) == IntKind.i64.wrap ((1 : Int) + IntKind.i64.wrap ((p % (24 : Int)).tdiv (8 : Int))))) = false := by
                              rcases Bool.eq_false_or_eq_true (!false == ((3 : Int) == IntKind.i64.wrap ((1 : Int) + IntKind.i64.wrap ((p % (24 : Int)).tdiv (8 : Int))))) with h | h
                              · exfalso; (simp only [decide_eq_true_eq, decide_eq_false_iff_not, beqI, beqIf, bneI, bneIf, beqB, beqBf, bneB, bneBf, Bool.false_eq_true, Bool.true_eq_false, true_iff, iff_true, false_iff, iff_false, true_and, and_true, false_and, and_false, true_or, or_true, false_or, or_false, ne_eq, eq_self, Bool.not_eq_true', Bool.not_eq_false', Bool.and_eq_true, Bool.or_eq_true, Bool.and_eq_false_iff, Bool.or_eq_false_iff, not_true_eq_false, not_false_eq_true, IntKind.wrap_i64, wrapU64, tdivP, tmodP, fdivP, Int.reduceLT, Int.not_lt, Int.not_le, gt_iff_lt, ge_iff_le] at * <;> first | contradiction | omega)
                              · exact h
                            exact lawParts_p12 p hq0 hq1 hq2 hq22 hq23 hq24 hq25 hq26 hq27 hq28 hq29 hq4 hq5 hq6 hq7 hq8 hq30 hq13 hq14 hq15 hq16 hq17 hq18 hq19 hq20 hq21
                          ·
                            rcases Bool.eq_false_or_eq_true ((13 : Int) == p % (24 : Int)) with hq9 | hq9
                            ·
                              have hq30 : (!true == ((2 : Int) == IntKind.i64.wrap ((1 : Int) + IntKind.i64.wrap ((p % (24 : Int)).tdiv (8 : Int))))) = false := by
                                rcases Bool.eq_false_or_eq_true (!true == ((2 : Int) == IntKind.i64.wrap ((1 : Int) + IntKind.i64.wrap ((p % (24 : Int)).tdiv (8 : Int))))) with h | h
                                · exfalso; (simp only [decide_eq_true_eq, decide_eq_false_iff_not, beqI, beqIf, bneI, bneIf, beqB, beqBf, bneB, bneBf, Bool.false_eq_true, Bool.true_eq_false, true_iff, iff_true, false_iff, iff_false, true_and, and_true, false_and, and_false, true_or, or_true, false_or, or_false, ne_eq, eq_self, Bool.not_eq_true', Bool.not_eq_false', Bool.and_eq_true, Bool.or_eq_true, Bool.and_eq_false_iff, Bool.or_eq_false_iff, not_true_eq_false, not_false_eq_true, IntKind.wrap_i64, wrapU64, tdivP, tmodP, fdivP, Int.reduceLT, Int.not_lt, Int.not_le, gt_iff_lt, ge_iff_le] at * <;> first | contradiction | omega)
                                · exact h
                              have hq13 : ((16 : Int) == p % (24 : Int)) = false := by
                                rcases Bool.eq_false_or_eq_true ((16 : Int) == p % (24 : Int)) with h | h
                                · exfalso; (simp only [decide_eq_true_eq, decide_eq_false_iff_not, beqI, beqIf, bneI, bneIf, beqB, beqBf, bneB, bneBf, Bool.false_eq_true, Bool.true_eq_false, true_iff, iff_true, false_iff, iff_false, true_and, and_true, false_and, and_false, true_or, or_true, false_or, or_false, ne_eq, eq_self, Bool.not_eq_true', Bool.not_eq_false', Bool.and_eq_true, Bool.or_eq_true, Bool.and_eq_false_iff, Bool.or_eq_false_iff, not_true_eq_false, not_false_eq_true, IntKind.wrap_i64, wrapU64, tdivP, tmodP, fdivP, Int.reduceLT, Int.not_lt, Int.not_le, gt_iff_lt, ge_iff_le] at * <;> first | contradiction | omega)
                                · exact h
                              have hq14 : ((17 : Int) == p % (24 : Int)) = false := by
                                rcases Bool.eq_false_or_eq_true ((17 : Int) == p % (24 : Int)) with h | h
                                · exfalso; (simp only [decide_eq_true_eq, decide_eq_false_iff_not, beqI, beqIf, bneI, bneIf, beqB, beqBf, bneB, bneBf, Bool.false_eq_true, Bool.true_eq_false, true_iff, iff_true, false_iff, iff_false, true_and, and_true, false_and, and_false, true_or, or_true, false_or, or_false, ne_eq, eq_self, Bool.not_eq_true', Bool.not_eq_false', Bool.and_eq_true, Bool.or_eq_true, Bool.and_eq_false_iff, Bool.or_eq_false_iff, not_true_eq_false, not_false_eq_true, IntKind.wrap_i64, wrapU64, tdivP, tmodP, fdivP, Int.reduceLT, Int.not_lt, Int.not_le, gt_iff_lt, ge_iff_le] at * <;> first | contradiction | omega)
                                · exact h
                              have hq15 : ((18 : Int) == p % (24 : Int)) = false := by
                                rcases Bool.eq_false_or_eq_true ((18 : Int) == p % (24 : Int)) with h | h
                                · exfalso; (simp only [decide_eq_true_eq, decide_eq_false_iff_not, beqI, beqIf, bneI, bneIf, beqB, beqBf, bneB, bneBf, Bool.false_eq_true, Bool.true_eq_false, true_iff, iff_true, false_iff, iff_false, true_and, and_true, false_and, and_false, true_or, or_true, false_or, or_false, ne_eq, eq_self, Bool.not_eq_true', Bool.not_eq_false', Bool.and_eq_true, Bool.or_eq_true, Bool.and_eq_false_iff, Bool.or_eq_false_iff, not_true_eq_false, not_false_eq_true, IntKind.wrap_i64, wrapU64, tdivP, tmodP, fdivP, Int.reduceLT, Int.not_lt, Int.not_le, gt_iff_lt, ge_iff_le] at * <;> first | contradiction | omega)
                                · exact h
                              have hq16 : ((19 : Int) == p % (24 : Int)) = false := by
                                rcases Bool.eq_false_or_eq_true ((19 : Int) == p % (24 : Int)) with h | h
                                · exfalso; (simp only [decide_eq_true_eq, decide_eq_false_iff_not, beqI, beqIf, bneI, bneIf, beqB, beqBf, bneB, bneBf, Bool.false_eq_true, Bool.true_eq_false, true_iff, iff_true, false_iff, iff_false, true_and, and_true, false_and, and_false, true_or, or_true, false_or, or_false, ne_eq, eq_self, Bool.not_eq_true', Bool.not_eq_false', Bool.and_eq_true, Bool.or_eq_true, Bool.and_eq_false_iff, Bool.or_eq_false_iff, not_true_eq_false, not_false_eq_true, IntKind.wrap_i64, wrapU64, tdivP, tmodP, fdivP, Int.reduceLT, Int.not_lt, Int.not_le, gt_iff_lt, ge_iff_le] at * <;> first | contradiction | omega)
                                · exact h
                              have hq17 : ((20 : Int) == p % (24 : Int)) = false := by
                                rcases Bool.eq_false_or_eq_true ((20 : Int) == p % (24 : Int)) with h | h
                                · exfalso; (simp only [decide_eq_true_eq, decide_eq_false_iff_not, beqI, beqIf, bneI, bneIf, beqB, beqBf, bneB, bneBf, Bool.false_eq_true, Bool.true_eq_false, true_iff, iff_true, false_iff, iff_false, true_and, and_true, false_and, and_false, true_or, or_true, false_or, or_false, ne_eq, eq_self, Bool.not_eq_true', Bool.not_eq_false', Bool.and_eq_true, Bool.or_eq_true, Bool.and_eq_false_iff, Bool.or_eq_false_iff, not_true_eq_false, not_false_eq_true, IntKind.wrap_i64, wrapU64, tdivP, tmodP, fdivP, Int.reduceLT, Int.not_lt, Int.not_le, gt_iff_lt, ge_iff_le] at * <;> first | contradiction | omega)
                                · exact h
                              have hq18 : ((21 : Int) == p % (24 : Int)) = false := by
                                rcases Bool.eq_false_or_eq_true ((21 : Int) == p % (24 : Int)) with h | h
                                · exfalso; (simp only [decide_eq_true_eq, decide_eq_false_iff_not, beqI, beqIf, bneI, bneIf, beqB, beqBf, bneB, bneBf, Bool.false_eq_true, Bool.true_eq_false, true_iff, iff_true, false_iff, iff_false, true_and, and_true, false_and, and_false, true_or, or_true, false_or, or_false, ne_eq, eq_self, Bool.not_eq_true', Bool.not_eq_false', Bool.and_eq_true, Bool.or_eq_true, Bool.and_eq_false_iff, Bool.or_eq_false_iff, not_true_eq_false, not_false_eq_true, IntKind.wrap_i64, wrapU64, tdivP, tmodP, fdivP, Int.reduceLT, Int.not_lt, Int.not_le, gt_iff_lt, ge_iff_le] at * <;> first | contradiction | omega)
                                · exact h
                              have hq19 : ((22 : Int) == p % (24 : Int)) = false := by
                                rcases Bool.eq_false_or_eq_true ((22 : Int) == p % (24 : Int)) with h | h
                                · exfalso; (simp only [decide_eq_true_eq, decide_eq_false_iff_not, beqI, beqIf, bneI, bneIf, beqB, beqBf, bneB, bneBf, Bool.false_eq_true, Bool.true_eq_false, true_iff, iff_true, false_iff, iff_false, true_and, and_true, false_and, and_false, true_or, or_true, false_or, or_false, ne_eq, eq_self, Bool.not_eq_true', Bool.not_eq_false', Bool.and_eq_true, Bool.or_eq_true, Bool.and_eq_false_iff, Bool.or_eq_false_iff, not_true_eq_false, not_false_eq_true, IntKind.wrap_i64, wrapU64, tdivP, tmodP, fdivP, Int.reduceLT, Int.not_lt, Int.not_le, gt_iff_lt, ge_iff_le] at * <;> first | contradiction | omega)
                                · exact h
                              have hq20 : ((23 : Int) == p % (24 : Int)) = false := by
                                rcases Bool.eq_false_or_eq_true ((23 : Int) == p % (24 : Int)) with h | h
                                · exfalso; (simp only [decide_eq_true_eq, decide_eq_false_iff_not, beqI, beqIf, bneI, bneIf, beqB, beqBf, bneB, bneBf, Bool.false_eq_true, Bool.true_eq_false, true_iff, iff_true, false_iff, iff_false, true_and, and_true, false_and, and_false, true_or, or_true, false_or, or_false, ne_eq, eq_self, Bool.not_eq_true', Bool.not_eq_false', Bool.and_eq_true, Bool.or_eq_true, Bool.and_eq_false_iff, Bool.or_eq_false_iff, not_true_eq_false, not_false_eq_true, IntKind.wrap_i64, wrapU64, tdivP, tmodP, fdivP, Int.reduceLT, Int.not_lt, Int.not_le, gt_iff_lt, ge_iff_le] at * <;> first | contradiction | omega)
                                · exact h
                              have hq21 : (!false == ((3 : Int) == IntKind.i64.wrap ((1 : Int) + IntKind.i64.wrap ((p % (24 : Int)).tdiv (8 : Int))))) = false := by
                                rcases Bool.eq_false_or_eq_true (!false == ((3 : Int) == IntKind.i64.wrap ((1 : Int) + IntKind.i64.wrap ((p % (24 : Int)).tdiv (8 : Int))))) with h | h
                                · exfalso; (simp only [decide_eq_true_eq, decide_eq_false_iff_not, beqI, beqIf, bneI, bneIf, beqB, beqBf, bneB, bneBf, Bool.false_eq_true, Bool.true_eq_false, true_iff, iff_true, false_iff, iff_false, true_and, and_true, false_and, and_false, true_or, or_true, false_or, or_false, ne_eq, eq_self, Bool.not_eq_true', Bool.not_eq_false', Bool.and_eq_true, Bool.or_eq_true, Bool.and_eq_false_iff, Bool.or_eq_false_iff, not_true_eq_false, not_false_eq_true, IntKind.wrap_i64, wrapU64, tdivP, tmodP, fdivP, Int.reduceLT, Int.not_lt, Int.not_le, gt_iff_lt, ge_iff_le] at * <;> first | contradiction | omega)
                                · exact h
                              exact lawParts_p13 p hq0 hq1 hq2 hq22 hq23 hq24 hq25 hq26 hq27 hq28 hq29 hq4 hq5 hq6 hq7 hq8 hq9 hq30 hq13 hq14 hq15 hq16 hq17 hq18 hq19 hq20 hq21
                            ·
                              rcases Bool.eq_false_or_eq_true ((14 : Int) == p % (24 : Int)) with hq10 | hq10
                              ·
                                have hq30 : (!true == ((2 : Int) == IntKind.i64.wrap ((1 : Int) + IntKind.i64.wrap ((p % (24 : Int)).tdiv (8 : Int))))) = false := by
                                  rcases Bool.eq_false_or_eq_true (!true == ((2 : Int) == IntKind.i64.wrap ((1 : Int) + IntKind.i64.wrap ((p % (24 : Int)).tdiv (8 : Int))))) with h | h
                                  · exfalso; (simp only [decide_eq_true_eq, decide_eq_false_iff_not, beqI, beqIf, bneI, bneIf, beqB, beqBf, bneB, bneBf, Bool.false_eq_true, Bool.true_eq_false, true_iff, iff_true, false_iff, iff_false, true_and, and_true, false_and, and_false, true_or, or_true, false_or, or_false, ne_eq, eq_self, Bool.not_eq_true', Bool.not_eq_false', Bool.and_eq_true, Bool.or_eq_true, Bool.and_eq_false_iff, Bool.or_eq_false_iff, not_true_eq_false, not_false_eq_true, IntKind.wrap_i64, wrapU64, tdivP, tmodP, fdivP, Int.reduceLT, Int.not_lt, Int.not_le, gt_iff_lt, ge_iff_le] at * <;> first | contradiction | omega)
                                  · exact h
                                have hq13 : ((16 : Int) == p % (24 : Int)) = false := by
                                  rcases Bool.eq_false_or_eq_true ((16 : Int) == p % (24 : Int)) with h | h
                                  · exfalso; (simp only [decide_eq_true_eq, decide_eq_false_iff_not, beqI, beqIf, bneI, bneIf, beqB, beqBf, bneB, bneBf, Bool.false_eq_true, Bool.true_eq_false, true_iff, iff_true, false_iff, iff_false, true_and, and_true, false_and, and_false, true_or, or_true, false_or, or_false, ne_eq, eq_self, Bool.not_eq_true', Bool.not_eq_false', Bool.and_eq_true, Bool.or_eq_true, Bool.and_eq_false_iff, Bool.or_eq_false_iff, not_true_eq_false, not_false_eq_true, IntKind.wrap_i64, wrapU64, tdivP, tmodP, fdivP, Int.reduceLT, Int.not_lt, Int.not_le, gt_iff_lt, ge_iff_le] at * <;> first | contradiction | omega)
                                  · exact h
                                have hq14 : ((17 : Int) == p % (24 : Int)) = false := by
                                  rcases Bool.eq_false_or_eq_true ((17 : Int) == p % (24 : Int)) with h | h
                                  · exfalso; (simp only [decide_eq_true_eq, decide_eq_false_iff_not, beqI, beqIf, bneI, bneIf, beqB, beqBf, bneB, bneBf, Bool.false_eq_true, Bool.true_eq_false, true_iff, iff_true, false_iff, iff_false, true_and, and_true, false_and, and_false, true_or, or_true, false_or, or_false, ne_eq, eq_self, Bool.not_eq_true', Bool.not_eq_false', Bool.and_eq_true, Bool.or_eq_true, Bool.and_eq_false_iff, Bool.or_eq_false_iff, not_true_eq_false, not_false_eq_true, IntKind.wrap_i64, wrapU64, tdivP, tmodP, fdivP, Int.reduceLT, Int.not_lt, Int.not_le, gt_iff_lt, ge_iff_le] at * <;> first | contradiction | omega)
                                  · exact h
                                have hq15 : ((18 : Int) == p % (24 : Int)) = false := by
                                  rcases Bool.eq_false_or_eq_true ((18 : Int) == p % (24 : Int)) with h | h
                                  · exfalso; (simp only [decide_eq_true_eq, decide_eq_false_iff_not, beqI, beqIf, bneI, bneIf, beqB, beqBf, bneB, bneBf, Bool.false_eq_true, Bool.true_eq_false, true_iff, iff_true, false_iff, iff_false, true_and, and_true, false_and, and_false, true_or, or_true, false_or, or_false, ne_eq, eq_self, Bool.not_eq_true', Bool.not_eq_false', Bool.and_eq_true, Bool.or_eq_true, Bool.and_eq_false_iff, Bool.or_eq_false_iff, not_true_eq_false, not_false_eq_true, IntKind.wrap_i64, wrapU64, tdivP, tmodP, fdivP, Int.reduceLT, Int.not_lt, Int.not_le, gt_iff_lt, ge_iff_le] at * <;> first | contradiction | omega)
                                  · exact h
                                have hq16 : ((19 : Int) == p % (24 : Int)) = false := by
                                  rcases Bool.eq_false_or_eq_true ((19 : Int) == p % (24 : Int)) with h | h
                                  · exfalso; (simp only [decide_eq_true_eq, decide_eq_false_iff_not, beqI, beqIf, bneI, bneIf, beqB, beqBf, bneB, bneBf, Bool.false_eq_true, Bool.true_eq_false, true_iff, iff_true, false_iff, iff_false, true_and, and_true, false_and, and_false, true_or, or_true, false_or, or_false, ne_eq, eq_self, Bool.not_eq_true', Bool.not_eq_false', Bool.and_eq_true, Bool.or_eq_true, Bool.and_eq_false_iff, Bool.or_eq_false_iff, not_true_eq_false, not_false_eq_true, IntKind.wrap_i64, wrapU64, tdivP, tmodP, fdivP, Int.reduceLT, Int.not_lt, Int.not_le, gt_iff_lt, ge_iff_le] at * <;> first | contradiction | omega)
                                  · exact h
                                have hq17 : ((20 : Int) == p % (24 : Int)) = false := by
                                  rcases Bool.eq_false_or_eq_true ((20 : Int) == p % (24 : Int)) with h | h
                                  · exfalso; (simp only [decide_eq_true_eq, decide_eq_false_iff_not, beqI, beqIf, bneI, bneIf, beqB, beqBf, bneB, bneBf, Bool.false_eq_true, Bool.true_eq_false, true_iff, iff_true, false_iff, iff_false, true_and, and_true, false_and, and_false, true_or, or_true, false_or, or_false, ne_eq, eq_self, Bool.not_eq_true', Bool.not_eq_false', Bool.and_eq_true, Bool.or_eq_true, Bool.and_eq_false_iff, Bool.or_eq_false_iff, not_true_eq_false, not_false_eq_true, IntKind.wrap_i64, wrapU64, tdivP, tmodP, fdivP, Int.reduceLT, Int.not_lt, Int.not_le, gt_iff_lt, ge_iff_le] at * <;> first | contradiction | omega)
                                  · exact h
                                have hq18 : ((21 : Int) == p % (24 : Int)) = false := by
                                  rcases Bool.eq_false_or_eq_true ((21 : Int) == p % (24 : Int)) with h | h
                                  · exfalso; (simp only [decide_eq_true_eq, decide_eq_false_iff_not, beqI, beqIf, bneI, bneIf, beqB, beqBf, bneB, bneBf, Bool.false_eq_true, Bool.true_eq_false, true_iff, iff_true, false_iff, iff_false, true_and, and_true, false_and, and_false, true_or, or_true, false_or, or_false, ne_eq, eq_self, Bool.not_eq_true', Bool.not_eq_false', Bool.and_eq_true, Bool.or_eq_true, Bool.and_eq_false_iff, Bool.or_eq_false_iff, not_true_eq_false, not_false_eq_true, IntKind.wrap_i64, wrapU64, tdivP, tmodP, fdivP, Int.reduceLT, Int.not_lt, Int.not_le, gt_iff_lt, ge_iff_le] at * <;> first | contradiction | omega)
                                  · exact h
                                have hq19 : ((22 : Int) == p % (24 : Int)) = false := by
                                  rcases Bool.eq_false_or_eq_true ((22 : Int) == p % (24 : Int)) with h | h
                                  · exfalso; (simp only [decide_eq_true_eq, decide_eq_false_iff_not, beqI, beqIf, bneI, bneIf, beqB, beqBf, bneB, bneBf, Bool.false_eq_true, Bool.true_eq_false, true_iff, iff_true, false_iff, iff_false, true_and, and_true, false_and, and_false, true_or, or_true, false_or, or_false, ne_eq, eq_self, Bool.not_eq_true', Bool.not_eq_false', Bool.and_eq_true, Bool.or_eq_true, Bool.and_eq_false_iff, Bool.or_eq_false_iff, not_true_eq_false, not_false_eq_true, IntKind.wrap_i64, wrapU64, tdivP, tmodP, fdivP, Int.reduceLT, Int.not_lt, Int.not_le, gt_iff_lt, ge_iff_le] at * <;> first | contradiction | omega)
                                  · exact h
                                have hq20 : ((23 : Int) == p % (24 : Int)) = false := by
                                  rcases Bool.eq_false_or_eq_true ((23 : Int) == p % (24 : Int)) with h | h
                                  · exfalso; (simp only [decide_eq_true_eq, decide_eq_false_iff_not, beqI, beqIf, bneI, bneIf, beqB, beqBf, bneB, bneBf, Bool.false_eq_true, Bool.true_eq_false, true_iff, iff_true, false_iff, iff_false, true_and, and_true, false_and, and_false, true_or, or_true, false_or, or_false, ne_eq, eq_self, Bool.not_eq_true', Bool.not_eq_false', Bool.and_eq_true, Bool.or_eq_true, Bool.and_eq_false_iff, Bool.or_eq_false_iff, not_true_eq_false, not_false_eq_true, IntKind.wrap_i64, wrapU64, tdivP, tmodP, fdivP, Int.reduceLT, Int.not_lt, Int.not_le, gt_iff_lt, ge_iff_le] at * <;> first | contradiction | omega)
                                  · exact h
                                have hq21 : (!false == ((3 : Int) == IntKind.i64.wrap ((1 : Int) + IntKind.i64.wrap ((p % (24 : Int)).tdiv (8 : Int))))) = false := by
                                  rcases Bool.eq_false_or_eq_true (!false == ((3 : Int) == IntKind.i64.wrap ((1 : Int) + IntKind.i64.wrap ((p % (24 : Int)).tdiv (8 : Int))))) with h | h
                                  · exfalso; (simp only [decide_eq_true_eq, decide_eq_false_iff_not, beqI, beqIf, bneI, bneIf, beqB, beqBf, bneB, bneBf, Bool.false_eq_true, Bool.true_eq_false, true_iff, iff_true, false_iff, iff_false, true_and, and_true, false_and, and_false, true_or, or_true, false_or, or_false, ne_eq, eq_self, Bool.not_eq_true', Bool.not_eq_false', Bool.and_eq_true, Bool.or_eq_true, Bool.and_eq_false_iff, Bool.or_eq_false_iff, not_true_eq_false, not_false_eq_true, IntKind.wrap_i64, wrapU64, tdivP, tmodP, fdivP, Int.reduceLT, Int.not_lt, Int.not_le, gt_iff_lt, ge_iff_le] at * <;> first | contradiction | omega)
                                  · exact h
                                exact lawParts_p14 p hq0 hq1 hq2 hq22 hq23 hq24 hq25 hq26 hq27 hq28 hq29 hq4 hq5 hq6 hq7 hq8 hq9 hq10 hq30 hq13 hq14 hq15 hq16 hq17 hq18 hq19 hq20 hq21
                              ·
                                rcases Bool.eq_false_or_eq_true ((15 : Int) == p % (24 : Int)) with hq11 | hq11
                                ·
                                  have hq30 : (!true == ((2 : Int) == IntKind.i64.wrap ((1 : Int) + IntKind.i64.wrap ((p % (24 : Int)).tdiv (8 : Int))))) = false := by
                                    rcases Bool.eq_false_or_eq_true (!true == ((2 : Int) == IntKind.i64.wrap ((1 : Int) + IntKind.i64.wrap ((p % (24 : Int)).tdiv (8 : Int))))) with h | h
                                    · exfalso; (simp only [decide_eq_true_eq, decide_eq_false_iff_not, beqI, beqIf, bneI, bneIf, beqB, beqBf, bneB, bneBf, Bool.false_eq_true, Bool.true_eq_false, true_iff, iff_true, false_iff, iff_false, true_and, and_true, false_and, and_false, true_or, or_true, false_or, or_false, ne_eq, eq_self, Bool.not_eq_true', Bool.not_eq_false', Bool.and_eq_true, Bool.or_eq_true, Bool.and_eq_false_iff, Bool.or_eq_false_iff, not_true_eq_false, not_false_eq_true, IntKind.wrap_i64, wrapU64, tdivP, tmodP, fdivP, Int.reduceLT, Int.not_lt, Int.not_le, gt_iff_lt, ge_iff_le] at * <;> first | contradiction | omega)
                                    · exact h
                                  have hq13 : ((16 : Int) == p % (24 : Int)) = false := by
                                    rcases Bool.eq_false_or_eq_true ((16 : Int) == p % (24 : Int)) with h | h
                                    · exfalso; (simp only [decide_eq_true_eq, decide_eq_false_iff_not, beqI, beqIf, bneI, bneIf, beqB, beqBf, bneB, bneBf, Bool.false_eq_true, Bool.true_eq_false, true_iff, iff_true, false_iff, iff_false, true_and, and_true, false_and, and_false, true_or, or_true, false_or, or_false, ne_eq, eq_self, Bool.not_eq_true', Bool.not_eq_false', Bool.and_eq_true, Bool.or_eq_true, Bool.and_eq_false_iff, Bool.or_eq_false_iff, not_true_eq_false, not_false_eq_true, IntKind.wrap_i64, wrapU64, tdivP, tmodP, fdivP, Int.reduceLT, Int.not_lt, Int.not_le, gt_iff_lt, ge_iff_le] at * <;> first | contradiction | omega)
                                    · exact h
                                  have hq14 : ((17 : Int) == p % (24 : Int)) = false := by
                                    rcases Bool.eq_false_or_eq_true ((17 : Int) == p % (24 : Int)) with h | h
                                    · exfalso; (simp only [decide_eq_true_eq, decide_eq_false_iff_not, beqI, beqIf, bneI, bneIf, beqB, beqBf, bneB, bneBf, Bool.false_eq_true, Bool.true_eq_false, true_iff, iff_true, false_iff, iff_false, true_and, and_true, false_and, and_false, true_or, or_true, false_or, or_false, ne_eq, eq_self, Bool.not_eq_true', Bool.not_eq_false', Bool.and_eq_true, Bool.or_eq_true, Bool.and_eq_false_iff, Bool.or_eq_false_iff, not_true_eq_false, not_false_eq_true, IntKind.wrap_i64, wrapU64, tdivP, tmodP, fdivP, Int.reduceLT, Int.not_lt, Int.not_le, gt_iff_lt, ge_iff_le] at * <;> first | contradiction | omega)
                                    · exact h
                                  have hq15 : ((18 : Int) == p % (24 : Int)) = false := by
                                    rcases Bool.eq_false_or_eq_true ((18 : Int) == p % (24 : Int)) with h | h
                                    · exfalso; (simp only [decide_eq_true_eq, decide_eq_false_iff_not, beqI, beqIf, bneI, bneIf, beqB, beqBf, bneB, bneBf, Bool.false_eq_true, Bool.true_eq_false, true_iff, iff_true, false_iff, iff_false, true_and, and_true, false_and, and_false, true_or, or_true, false_or, or_false, ne_eq, eq_self, Bool.not_eq_true', Bool.not_eq_false', Bool.and_eq_true, Bool.or_eq_true, Bool.and_eq_false_iff, Bool.or_eq_false_iff, not_true_eq_false, not_false_eq_true, IntKind.wrap_i64, wrapU64, tdivP, tmodP, fdivP, Int.reduceLT, Int.not_lt, Int.not_le, gt_iff_lt, ge_iff_le] at * <;> first | contradiction | omega)
                                    · exact h
                                  have hq16 : ((19 : Int) == p % (24 : Int)) = false := by
                                    rcases Bool.eq_false_or_eq_true ((19 : Int) == p % (24 : Int)) with h | h
                                    · exfalso; (simp only [decide_eq_true_eq, decide_eq_false_iff_not, beqI, beqIf, bneI, bneIf, beqB, beqBf, bneB, bneBf, Bool.false_eq_true, Bool.true_eq_false, true_iff, iff_true, false_iff, iff_false, true_and, and_true, false_and, and_false, true_or, or_true, false_or, or_false, ne_eq, eq_self, Bool.not_eq_true', Bool.not_eq_false', Bool.and_eq_true, Bool.or_eq_true, Bool.and_eq_false_iff, Bool.or_eq_false_iff, not_true_eq_false, not_false_eq_true, IntKind.wrap_i64, wrapU64, tdivP, tmodP, fdivP, Int.reduceLT, Int.not_lt, Int.not_le, gt_iff_lt, ge_iff_le] at * <;> first | contradiction | omega)
                                    · exact h
                                  have hq17 : ((20 : Int) == p % (24 : Int)) = false := by
                                    rcases Bool.eq_false_or_eq_true ((20 : Int) == p % (24 : Int)) with h | h
                                    · exfalso; (simp only [decide_eq_true_eq, decide_eq_false_iff_not, beqI, beqIf, bneI, bneIf, beqB, beqBf, bneB, bneBf, Bool.false_eq_true, Bool.true_eq_false, true_iff, iff_true, false_iff, iff_false, true_and, and_true, false_and, and_false, true_or, or_true, false_or, or_false, ne_eq, eq_self, Bool.not_eq_true', Bool.not_eq_false', Bool.and_eq_true, Bool.or_eq_true, Bool.and_eq_false_iff, Bool.or_eq_false_iff, not_true_eq_false, not_false_eq_true, IntKind.wrap_i64, wrapU64, tdivP, tmodP, fdivP, Int.reduceLT, Int.not_lt, Int.not_le, gt_iff_lt, ge_iff_le] at * <;> first | contradiction | omega)
                                    · exact h
                                  have hq18 : ((21 : Int) == p % (24 : Int)) = false := by
                                    rcases Bool.eq_false_or_eq_true ((21 : Int) == p % (24 : Int)) with h | h
                                    · exfalso; (simp only [decide_eq_true_eq, decide_eq_false_iff_not, beqI, beqIf, bneI, bneIf, beqB, beqBf, bneB, bneBf, Bool.false_eq_true, Bool.true_eq_false, true_iff, iff_true, false_iff, iff_false, true_and, and_true, false_and, and_false, true_or, or_true, false_or, or_false, ne_eq, eq_self, Bool.not_eq_true', Bool.not_eq_false', Bool.and_eq_true, Bool.or_eq_true, Bool.and_eq_false_iff, Bool.or_eq_false_iff, not_true_eq_false, not_false_eq_true, IntKind.wrap_i64, wrapU64, tdivP, tmodP, fdivP, Int.reduceLT, Int.not_lt, Int.not_le, gt_iff_lt, ge_iff_le] at * <;> first | contradiction | omega)
                                    · exact h
                                  have hq19 : ((22 : Int) == p % (24 : Int)) = false := by
                                    rcases Bool.eq_false_or_eq_true ((22 : Int) == p % (24 : Int)) with h | h
                                    · exfalso; (simp only [decide_eq_true_eq, decide_eq_false_iff_not, beqI, beqIf, bneI, bneIf, beqB, beqBf, bneB, bneBf, Bool.false_eq_true, Bool.true_eq_false, true_iff, iff_true, false_iff, iff_false, true_and, and_true, false_and, and_false, true_or, or_true, false_or, or_false, ne_eq, eq_self, Bool.not_eq_true', Bool.not_eq_false', Bool.and_eq_true, Bool.or_eq_true, Bool.and_eq_false_iff, Bool.or_eq_false_iff, not_true_eq_false, not_false_eq_true, IntKind.wrap_i64, wrapU64, tdivP, tmodP, fdivP, Int.reduceLT, Int.not_lt, Int.not_le, gt_iff_lt, ge_iff_le] at * <;> first | contradiction | omega)
                                    · exact h
                                  have hq20 : ((23 : Int) == p % (24 : Int)) = false := by
                                    rcases Bool.eq_false_or_eq_true ((23 : Int) == p % (24 : Int)) with h | h
                                    · exfalso; (simp only [decide_eq_true_eq, decide_eq_false_iff_not, beqI, beqIf, bneI, bneIf, beqB, beqBf, bneB, bneBf, Bool.false_eq_true, Bool.true_eq_false, true_iff, iff_true, false_iff, iff_false, true_and, and_true, false_and, and_false, true_or, or_true, false_or, or_false, ne_eq, eq_self, Bool.not_eq_true', Bool.not_eq_false', Bool.and_eq_true, Bool.or_eq_true, Bool.and_eq_false_iff, Bool.or_eq_false_iff, not_true_eq_false, not_false_eq_true, IntKind.wrap_i64, wrapU64, tdivP, tmodP, fdivP, Int.reduceLT, Int.not_lt, Int.not_le, gt_iff_lt, ge_iff_le] at * <;> first | contradiction | omega)
                                    · exact h
                                  have hq21 : (!false == ((3 : Int) == IntKind.i64.wrap ((1 : Int) + IntKind.i64.wrap ((p % (24 : Int)).tdiv (8 : Int))))) = false := by
                                    rcases Bool.eq_false_or_eq_true (!false == ((3 : Int) == IntKind.i64.wrap ((1 : Int) + IntKind.i64.wrap ((p % (24 : Int)).tdiv (8 : Int))))) with h | h
                                    · exfalso; (simp only [decide_eq_true_eq, decide_eq_false_iff_not, beqI, beqIf, bneI, bneIf, beqB, beqBf, bneB, bneBf, Bool.false_eq_true, Bool.true_eq_false, true_iff, iff_true, false_iff, iff_false, true_and, and_true, false_and, and_false, true_or, or_true, false_or, or_false, ne_eq, eq_self, Bool.not_eq_true', Bool.not_eq_false', Bool.and_eq_true, Bool.or_eq_true, Bool.and_eq_false_iff, Bool.or_eq_false_iff, not_true_eq_false, not_false_eq_true, IntKind.wrap_i64, wrapU64, tdivP, tmodP, fdivP, Int.reduceLT, Int.not_lt, Int.not_le, gt_iff_lt, ge_iff_le] at * <;> first | contradiction | omega)
                                    · exact h
                                  exact lawParts_p15 p hq0 hq1 hq2 hq22 hq23 hq24 hq25 hq26 hq27 hq28 hq29 hq4 hq5 hq6 hq7 hq8 hq9 hq10 hq11 hq30 hq13 hq14 hq15 hq16 hq17 hq18 hq19 hq20 hq21
                                ·
                                  have hq12 : (!false == ((2 : Int) == IntKind.i64.wrap ((1 : Int) + IntKind.i64.wrap ((p % (24 : Int)).tdiv (8 : Int))))) = false := by
                                    rcases Bool.eq_false_or_eq_true (!false == ((2 : Int) == IntKind.i64.wrap ((1 : Int) + IntKind.i64.wrap ((p % (24 : Int)).tdiv (8 : Int))))) with h | h
                                    · exfalso; (simp only [decide_eq_true_eq, decide_eq_false_iff_not, beqI, beqIf, bneI, bneIf, beqB, beqBf, bneB, bneBf, Bool.false_eq_true, Bool.true_eq_false, true_iff, iff_true, false_iff, iff_false, true_and, and_true, false_and, and_false, true_or, or_true, false_or, or_false, ne_eq, eq_self, Bool.not_eq_true', Bool.not_eq_false', Bool.and_eq_true, Bool.or_eq_true, Bool.and_eq_false_iff, Bool.or_eq_false_iff, not_true_eq_false, not_false_eq_true, IntKind.wrap_i64, wrapU64, tdivP, tmodP, fdivP, Int.reduceLT, Int.not_lt, Int.not_le, gt_iff_lt, ge_iff_le] at * <;> first | contradiction | omega)
                                    · exact h
                                  rcases Bool.eq_false_or_eq_true ((16 : Int) == p % (24 : Int)) with hq13 | hq13
                                  ·
                                    have hq31 : (!true == ((3 : Int) == IntKind.i64.wrap ((1 : Int) + IntKind.i64.wrap ((p % (24 : Int)).tdiv (8 : Int))))) = false := by
                                      rcases Bool.eq_false_or_eq_true (!true == ((3 : Int) == IntKind.i64.wrap ((1 : Int) + IntKind.i64.wrap ((p % (24 : Int)).tdiv (8 : Int))))) with h | h
                                      · exfalso; (simp only [decide_eq_true_eq, decide_eq_false_iff_not, beqI, beqIf, bneI, bneIf, beqB, beqBf, bneB, bneBf, Bool.false_eq_true, Bool.true_eq_false, true_iff, iff_true, false_iff, iff_false, true_and, and_true, false_and, and_false, true_or, or_true, false_or, or_false, ne_eq, eq_self, Bool.not_eq_true', Bool.not_eq_false', Bool.and_eq_true, Bool.or_eq_true, Bool.and_eq_false_iff, Bool.or_eq_false_iff, not_true_eq_false, not_false_eq_true, IntKind.wrap_i64, wrapU64, tdivP, tmodP, fdivP, Int.reduceLT, Int.not_lt, Int.not_le, gt_iff_lt, ge_iff_le] at * <;> first | contradiction | omega)
                                      · exact h
                                    exact lawParts_p16 p hq0 hq1 hq2 hq22 hq23 hq24 hq25 hq26 hq27 hq28 hq29 hq4 hq5 hq6 hq7 hq8 hq9 hq10 hq11 hq12 hq13 hq31
                                  ·
                                    rcases Bool.eq_false_or_eq_true ((17 : Int) == p % (24 : Int)) with hq14 | hq14
                                    ·
                                      have hq31 : (!true == ((3 : Int) == IntKind.i64.wrap ((1 : Int) + IntKind.i64.wrap ((p % (24 : Int)).tdiv (8 : Int))))) = false := by
                                        rcases Bool.eq_false_or_eq_true (!true == ((3 : Int) == IntKind.i64.wrap ((1 : Int) + IntKind.i64.wrap ((p % (24 : Int)).tdiv (8 : Int))))) with h | h
                                        · exfalso; (simp only [decide_eq_true_eq, decide_eq_false_iff_not, beqI, beqIf, bneI, bneIf, beqB, beqBf, bneB, bneBf, Bool.false_eq_true, Bool.true_eq_false, true_iff, iff_true, false_iff, iff_false, true_and, and_true, false_and, and_false, true_or, or_true, false_or, or_false, ne_eq, eq_self, Bool.not_eq_true', Bool.not_eq_false', Bool.and_eq_true, Bool.or_eq_true, Bool.and_eq_false_iff, Bool.or_eq_false_iff, not_true_eq_false, not_false_eq_true, IntKind.wrap_i64, wrapU64, tdivP, tmodP, fdivP, Int.reduceLT, Int.not_lt, Int.not_le, gt_iff_lt, ge_iff_le] at * <;> first | contradiction | omega)
                                        · exact h
                                      exact lawParts_p17 p hq0 hq1 hq2 hq22 hq23 hq24 hq25 hq26 hq27 hq28 hq29 hq4 hq5 hq6 hq7 hq8 hq9 hq10 hq11 hq12 hq13 hq14 hq31
                                    ·
                                      rcases Bool.eq_false_or_eq_true ((18 : Int) == p % (24 : Int)) with hq15 | hq15
                                      ·
                                        have hq31 : (!true == ((3 : Int) == IntKind.i64.wrap ((1 : Int) + IntKind.i64.wrap ((p % (24 : Int)).tdiv (8 : Int))))) = false := by
                                          rcases Bool.eq_false_or_eq_true (!true == ((3 : Int) == IntKind.i64.wrap ((1 : Int) + IntKind.i64.wrap ((p % (24 : Int)).tdiv (8 : Int))))) with h | h
                                          · exfalso; (simp only [decide_eq_true_eq, decide_eq_false_iff_not, beqI, beqIf, bneI, bneIf, beqB, beqBf, bneB, bneBf, Bool.false_eq_true, Bool.true_eq_false, true_iff, iff_true, false_iff, iff_false, true_and, and_true, false_and, and_false, true_or, or_true, false_or, or_false, ne_eq, eq_self, Bool.not_eq_true', Bool.not_eq_false', Bool.and_eq_true, Bool.or_eq_true, Bool.and_eq_false_iff, Bool.or_eq_false_iff, not_true_eq_false, not_false_eq_true, IntKind.wrap_i64, wrapU64, tdivP, tmodP, fdivP, Int.reduceLT, Int.not_lt, Int.not_le, gt_iff_lt, ge_iff_le] at * <;> first | contradiction | omega)
                                          · exact h
                                        exact lawParts_p18 p hq0 hq1 hq2 hq22 hq23 hq24 hq25 hq26 hq27 hq28 hq29 hq4 hq5 hq6 hq7 hq8 hq9 hq10 hq11 hq12 hq13 hq14 hq15 hq31
                                      ·
                                        rcases Bool.eq_false_or_eq_true ((19 : Int) == p % (24 : Int)) with hq16 | hq16
                                        ·
                                          have hq31 : (!true == ((3 : Int) == IntKind.i64.wrap ((1 : Int) + IntKind.i64.wrap ((p % (24 : Int)).tdiv (8 : Int))))) = false := by
                                            rcases Bool.eq_false_or_eq_true (!true == ((3 : Int) == IntKind.i64.wrap ((1 : Int) + IntKind.i64.wrap ((p % (24 : Int)).tdiv (8 : Int))))) with h | h
                                            · exfalso; (simp only [decide_eq_true_eq, decide_eq_false_iff_not, beqI, beqIf, bneI, bneIf, beqB, beqBf, bneB, bneBf, Bool.false_eq_true, Bool.true_eq_false, true_iff, iff_true, false_iff, iff_false, true_and, and_true, false_and, and_false, true_or, or_true, false_or, or_false, ne_eq, eq_self, Bool.not_eq_true', Bool.not_eq_false', Bool.and_eq_true, Bool.or_eq_true, Bool.and_eq_false_iff, Bool.or_eq_false_iff, not_true_eq_false, not_false_eq_true, IntKind.wrap_i64, wrapU64, tdivP, tmodP, fdivP, Int.reduceLT, Int.not_lt, Int.not_le, gt_iff_lt, ge_iff_le] at * <;> first | contradiction | omega)
                                            · exact h
                                          exact lawParts_p19 p hq0 hq1 hq2 hq22 hq23 hq24 hq25 hq26 hq27 hq28 hq29 hq4 hq5 hq6 hq7 hq8 hq9 hq10 hq11 hq12 hq13 hq14 hq15 hq16 hq31
                                        ·
                                          rcases Bool.eq_false_or_eq_true ((20 : Int) == p % (24 : Int)) with hq17 | hq17
                                          ·
                                            have hq31 : (!true == ((3 : Int) == IntKind.i64.wrap ((1 : Int) + IntKind.i64.wrap ((p % (24 : Int)).tdiv (8 : Int))))) = false := by
                                              rcases Bool.eq_false_or_eq_true (!true == ((3 : Int) == IntKind.i64.wrap ((1 : Int) + IntKind.i64.wrap ((p % (24 : Int)).tdiv (8 : Int))))) with h | h
                                              · exfalso; (simp only [decide_eq_true_eq, decide_eq_false_iff_not, beqI, beqIf, bneI, bneIf, beqB, beqBf, bneB, bneBf, Bool.false_eq_true, Bool.true_eq_false, true_iff, iff_true, false_iff, iff_false, true_and, and_true, false_and, and_false, true_or, or_true, false_or, or_false, ne_eq, eq_self, Bool.not_eq_true', Bool.not_eq_false', Bool.and_eq_true, Bool.or_eq_true, Bool.and_eq_false_iff, Bool.or_eq_false_iff, not_true_eq_false, not_false_eq_true, IntKind.wrap_i64, wrapU64, tdivP, tmodP, fdivP, Int.reduceLT, Int.not_lt, Int.not_le, gt_iff_lt, ge_iff_le] at * <;> first | contradiction | omega)
                                              · exact h
                                            exact lawParts_p20 p hq0 hq1 hq2 hq22 hq23 hq24 hq25 hq26 hq27 hq28 hq29 hq4 hq5 hq6 hq7 hq8 hq9 hq10 hq11 hq12 hq13 hq14 hq15 hq16 hq17 hq31
                                          ·
                                            rcases Bool.eq_false_or_eq_true ((21 : Int) == p % (24 : Int)) with hq18 | hq18
                                            ·
                                              have hq31 : (!true == ((3 : Int) == IntKind.i64.wrap ((1 : Int) + IntKind.i64.wrap ((p % (24 : Int)).tdiv (8 : Int))))) = false := by
                                                rcases Bool.eq_false_or_eq_true (!true == ((3 : Int) == IntKind.i64.wrap ((1 : Int) + IntKind.i64.wrap ((p % (24 : Int)).tdiv (8 : Int))))) with h | h
                                                · exfalso; (simp only [decide_eq_true_eq, decide_eq_false_iff_not, beqI, beqIf, bneI, bneIf, beqB, beqBf, bneB, bneBf, Bool.false_eq_true, Bool.true_eq_false, true_iff, iff_true, false_iff, iff_false, true_and, and_true, false_and, and_false, true_or, or_true, false_or, or_false, ne_eq, eq_self, Bool.not_eq_true', Bool.not_eq_false', Bool.and_eq_true, Bool.or_eq_true, Bool.and_eq_false_iff, Bool.or_eq_false_iff, not_true_eq_false, not_false_eq_true, IntKind.wrap_i64, wrapU64, tdivP, tmodP, fdivP, Int.reduceLT, Int.not_lt, Int.not_le, gt_iff_lt, ge_iff_le] at * <;> first | contradiction | omega)
                                                · exact h
                                              exact lawParts_p21 p hq0 hq1 hq2 hq22 hq23 hq24 hq25 hq26 hq27 hq28 hq29 hq4 hq5 hq6 hq7 hq8 hq9 hq10 hq11 hq12 hq13 hq14 hq15 hq16 hq17 hq18 hq31
                                            ·
                                              rcases Bool.eq_false_or_eq_true ((22 : Int) == p % (24 : Int)) with hq19 | hq19
                                              ·
                                                have hq31 : (!true == ((3 : Int) == IntKind.i64.wrap ((1 : Int) + IntKind.i64.wrap ((p % (24 : Int)).tdiv (8 : Int))))) = false := by
                                                  rcases Bool.eq_false_or_eq_true (!true == ((3 : Int) == IntKind.i64.wrap ((1 : Int) + IntKind.i64.wrap ((p % (24 : Int)).tdiv (8 : Int))))) with h | h
                                                  · exfalso; (simp only [decide_eq_true_eq, decide_eq_false_iff_not, beqI, beqIf, bneI, bneIf, beqB, beqBf, bneB, bneBf, Bool.false_eq_true, Bool.true_eq_false, true_iff, iff_true, false_iff, iff_false, true_and, and_true, false_and, and_false, true_or, or_true, false_or, or_false, ne_eq, eq_self, Bool.not_eq_true', Bool.not_eq_false', Bool.and_eq_true, Bool.or_eq_true, Bool.and_eq_false_iff, Bool.or_eq_false_iff, not_true_eq_false, not_false_eq_true, IntKind.wrap_i64, wrapU64, tdivP, tmodP, fdivP, Int.reduceLT, Int.not_lt, Int.not_le, gt_iff_lt, ge_iff_le] at * <;> first | contradiction | omega)
                                                  · exact h
                                                exact lawParts_p22 p hq0 hq1 hq2 hq22 hq23 hq24 hq25 hq26 hq27 hq28 hq29 hq4 hq5 hq6 hq7 hq8 hq9 hq10 hq11 hq12 hq13 hq14 hq15 hq16 hq17 hq18 hq19 hq31
                                              ·
                                                have hq20 : ((23 : Int) == p % (24 : Int)) = true := by
                                                  rcases Bool.eq_false_or_eq_true ((23 : Int) == p % (24 : Int)) with h | h
                                                  · exact h
                                                  · exfalso; (simp only [decide_eq_true_eq, decide_eq_false_iff_not, beqI, beqIf, bneI, bneIf, beqB, beqBf, bneB, bneBf, Bool.false_eq_true, Bool.true_eq_false, true_iff, iff_true, false_iff, iff_false, true_and, and_true, false_and, and_false, true_or, or_true, false_or, or_false, ne_eq, eq_self, Bool.not_eq_true', Bool.not_eq_false', Bool.and_eq_true, Bool.or_eq_true, Bool.and_eq_false_iff, Bool.or_eq_false_iff, not_true_eq_false, not_false_eq_true, IntKind.wrap_i64, wrapU64, tdivP, tmodP, fdivP, Int.reduceLT, Int.not_lt, Int.not_le, gt_iff_lt, ge_iff_le] at * <;> first | contradiction | omega)
                                                have hq31 : (!true == ((3 : Int) == IntKind.i64.wrap ((1 : Int) + IntKind.i64.wrap ((p % (24 : Int)).tdiv (8 : Int))))) = false := by
                                                  rcases Bool.eq_false_or_eq_true (!true == ((3 : Int) == IntKind.i64.wrap ((1 : Int) + IntKind.i64.wrap ((p % (24 : Int)).tdiv (8 : Int))))) with h | h
                                                  · exfalso; (simp only [decide_eq_true_eq, decide_eq_false_iff_not, beqI, beqIf, bneI, bneIf, beqB, beqBf, bneB, bneBf, Bool.false_eq_true, Bool.true_eq_false, true_iff, iff_true, false_iff, iff_false, true_and, and_true, false_and, and_false, true_or, or_true, false_or, or_false, ne_eq, eq_self, Bool.not_eq_true', Bool.not_eq_false', Bool.and_eq_true, Bool.or_eq_true, Bool.and_eq_false_iff, Bool.or_eq_false_iff, not_true_eq_false, not_false_eq_true, IntKind.wrap_i64, wrapU64, tdivP, tmodP, fdivP, Int.reduceLT, Int.not_lt, Int.not_le, gt_iff_lt, ge_iff_le] at * <;> first | contradiction | omega)
                                                  · exact h
                                                exact lawParts_p23 p hq0 hq1 hq2 hq22 hq23 hq24 hq25 hq26 hq27 hq28 hq29 hq4 hq5 hq6 hq7 hq8 hq9 hq10 hq11 hq12 hq13 hq14 hq15 hq16 hq17 hq18 hq19 hq20 hq31
noncomputable def lawParts_k : List Value → Option Value
  | [.int .i64 p] => some (.bool (true))
  | _ => none
theorem lawParts_ok : ∀ args v, lawParts_k args = some v → Known Tryd.prog knPortKnownL 7 args v := by
  intro args v h
  unfold lawParts_k at h
  split at h
  · injection h with h; subst h; exact lawParts _
  · cases h

abbrev knPortPartsL : Vars := knPortKnownL
def In64 (n : Int) : Prop := -9223372036854775808 ≤ n ∧ n ≤ 9223372036854775807
theorem portParts_true (p : Int) (w : World) (_ : In64 p) (hl : LaidL knPortKnownL w) : Calls Tryd.prog 7 #[.int .i64 p] w fun e w' => e = .returned (.bool true) ∧ Below w.heap.size w w' :=
  (lawParts p).2.2 w hl
end Go.Proofs.YtpkbcbabbejjhaaDoor
