/- Layer 33: Merge of three cars. -/
import Derived.Test.YtfpabkpmcmfbhaaOgA
import Derived.ProofKit
import Derived.IntWalk
namespace Go.Proofs.Ytfpabkpmcmfbhaa
open Go Go.RowKit
set_option linter.unusedVariables false
set_option linter.unusedSimpArgs false
set_option linter.unnecessarySimpa false
set_option maxHeartbeats 8000000
set_option maxRecDepth 100000
noncomputable def mg_c0 (a b : Int) : Int := (IntKind.i64.wrap (↑(BitVec.ofInt (64 : Nat) a ||| BitVec.ofInt (64 : Nat) b).toNat : Int))
theorem mg_p0 (a b : Int) (ha : 0 ≤ a ∧ a ≤ 7) (hb : 0 ≤ b ∧ b ≤ 7) (hq0 : (decide (a ≥ (0 : Int))) = true) (hq1 : (!decide (a ≤ (7 : Int))) = false) (hq2 : (decide (b ≥ (0 : Int))) = true) (hq3 : (!decide (b ≤ (7 : Int))) = false) : KnownR Try.prog [] 24 [.val (.int .i64 a), .val (.int .i64 b), .val (.int .i64 3)] (.tuple #[(.int .i64 (IntKind.i64.wrap (↑(BitVec.ofInt (64 : Nat) a ||| BitVec.ofInt (64 : Nat) b).toNat : Int))), (.int .i64 ((0 : Int)))]) [] :=
  knownR_eq (v := Value.tuple { toList := [Value.int IntKind.i64 (IntKind.i64.wrap (↑(BitVec.ofInt (64 : Nat) a ||| BitVec.ofInt (64 : Nat) b).toNat : Int)), Value.int IntKind.i64 (0 : Int)] }) (bs := []) (open_resD mix GOk.none (T := GTab.none) (fuel := 3000) (es := []) (ans := [(9, .b 1), (13, .b 0), (18, .b 1), (22, .b 0)]) (log := [(!decide (b ≤ (7 : Int))) = false, (decide (b ≥ (0 : Int))) = true, (!decide (a ≤ (7 : Int))) = false, (decide (a ≥ (0 : Int))) = true]) (by kernel_rfl) ⟨hq3, hq2, hq1, hq0, trivial⟩ (by kernel_rfl)) (by first | rfl | (simp; done) | (simp_all; done)) (by first | rfl | (simp [rowA_nil]; done) | (simp only [rowA_eq]; rfl) | (simp_all [rowA_nil]; done))
set_option maxHeartbeats 8000000 in
theorem mg (a b : Int) (ha : 0 ≤ a ∧ a ≤ 7) (hb : 0 ≤ b ∧ b ≤ 7) : KnownR Try.prog [] 24 [.val (.int .i64 a), .val (.int .i64 b), .val (.int .i64 3)] (.tuple #[(.int .i64 (mg_c0 a b)), (.int .i64 ((0 : Int)))]) [] := by
  have hq0 : (decide (a ≥ (0 : Int))) = true := by
    rcases Bool.eq_false_or_eq_true (decide (a ≥ (0 : Int))) with h | h
    · exact h
    · exfalso; (first | (simp_all only [Bool.and_eq_true, Bool.not_eq_true', Bool.false_eq_true, Bool.true_eq_false, reduceCtorEq]; done) | (simp only [sx, sy, eq_self, ne_eq, IntKind.wrap_i64, wrapU64, Int.reduceLT] at * <;> first | contradiction | omega) | omega | ((try simp only [sx, sy, eq_self, ne_eq, IntKind.wrap_i64, wrapU64, Int.reduceLT] at *) <;> omega) | (simp_all; done))
  have hq1 : (!decide (a ≤ (7 : Int))) = false := by
    rcases Bool.eq_false_or_eq_true (!decide (a ≤ (7 : Int))) with h | h
    · exfalso; (first | (simp_all only [Bool.and_eq_true, Bool.not_eq_true', Bool.false_eq_true, Bool.true_eq_false, reduceCtorEq]; done) | (simp only [sx, sy, eq_self, ne_eq, IntKind.wrap_i64, wrapU64, Int.reduceLT] at * <;> first | contradiction | omega) | omega | ((try simp only [sx, sy, eq_self, ne_eq, IntKind.wrap_i64, wrapU64, Int.reduceLT] at *) <;> omega) | (simp_all; done))
    · exact h
  have hq2 : (decide (b ≥ (0 : Int))) = true := by
    rcases Bool.eq_false_or_eq_true (decide (b ≥ (0 : Int))) with h | h
    · exact h
    · exfalso; (first | (simp_all only [Bool.and_eq_true, Bool.not_eq_true', Bool.false_eq_true, Bool.true_eq_false, reduceCtorEq]; done) | (simp only [sx, sy, eq_self, ne_eq, IntKind.wrap_i64, wrapU64, Int.reduceLT] at * <;> first | contradiction | omega) | omega | ((try simp only [sx, sy, eq_self, ne_eq, IntKind.wrap_i64, wrapU64, Int.reduceLT] at *) <;> omega) | (simp_all; done))
  have hq3 : (!decide (b ≤ (7 : Int))) = false := by
    rcases Bool.eq_false_or_eq_true (!decide (b ≤ (7 : Int))) with h | h
    · exfalso; (first | (simp_all only [Bool.and_eq_true, Bool.not_eq_true', Bool.false_eq_true, Bool.true_eq_false, reduceCtorEq]; done) | (simp only [sx, sy, eq_self, ne_eq, IntKind.wrap_i64, wrapU64, Int.reduceLT] at * <;> first | contradiction | omega) | omega | ((try simp only [sx, sy, eq_self, ne_eq, IntKind.wrap_i64, wrapU64, Int.reduceLT] at *) <;> omega) | (simp_all; done))
    · exact h
  have e0 : mg_c0 a b = (IntKind.i64.wrap (↑(BitVec.ofInt (64 : Nat) a ||| BitVec.ofInt (64 : Nat) b).toNat : Int)) := rfl; rw [e0]; exact mg_p0 a b ha hb hq0 hq1 hq2 hq3

end Go.Proofs.Ytfpabkpmcmfbhaa
