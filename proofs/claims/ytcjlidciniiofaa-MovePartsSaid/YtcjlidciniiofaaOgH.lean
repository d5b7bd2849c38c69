import Derived.Test.YtcjlidciniiofaaDC15
import Derived.ProofKit
import Derived.IntWalk
set_option linter.unnecessarySimpa false
set_option linter.unusedSimpArgs false
set_option linter.unusedVariables false
namespace Go.Proofs.Ytcjlidciniiofaa
open Go Go.RowKit
set_option maxHeartbeats 8000000
set_option maxRecDepth 100000
noncomputable def rid_hd (v l m : Int) : Hd := headO Try.prog [] tabK 3000 64 [.int .i64 v, .int .i64 l, .int .i64 m] [(0, .stop)]
noncomputable def rid_S (v l m : Int) (y0 : Int) (y1 : Int) (y2 : Int) (j : Nat → Value) : St := ((rid_hd v l m).s.updF [(0, .int .i64 y0), (1, .int .i64 y1), (7, .int .i64 y2), (8, j 8), (9, j 9), (10, j 10), (11, j 11), (12, j 12), (13, j 13), (14, j 14), (15, j 15), (16, j 16), (17, j 17), (18, j 18), (19, j 19), (20, j 20), (21, j 21), (22, j 22), (23, j 23), (24, j 24), (25, j 25), (26, j 26), (27, j 27), (28, j 28), (29, j 29), (30, j 30), (31, j 31), (32, j 32), (33, j 33), (34, j 34), (35, j 35), (36, j 36), (37, j 37), (38, j 38), (39, j 39), (40, j 40), (41, j 41), (42, j 42), (43, j 43), (44, j 44), (45, j 45), (46, j 46)] [])
noncomputable def rid_J0 (v l m : Int) (y0 : Int) (y1 : Int) (y2 : Int) (j : Nat → Value) : Nat → Value := jOf (bodySt (bodyF Try.prog ([] : Vars).length tabK 3000 (rid_hd v l m) (rid_S v l m y0 y1 y2  j) [(0, .b 1), (2, .b 1), (5, .b 1), (6, .b 0)]))
theorem rid_p0 (v l m : Int) (h1 : 0 ≤ v ∧ v ≤ m ∧ 1 ≤ m ∧ m ≤ 20 ∧ 0 ≤ l ∧ l ≤ 63000) (y0 : Int) (y1 : Int) (y2 : Int) (j : Nat → Value) (hi : (decide (0 ≤ y0 ∧ y0 ≤ m ∧ 0 ≤ y1 ∧ y1 ≤ 63000 ∧ 0 ≤ y2 ∧ y2 ≤ 70000 ∧ (y0 = 0 ∨ rT (y0 - 1) ≤ y1))) = true) (hq0 : (decide (y1 > (0 : Int))) = true) (hq1 : (y0 == m) = true) (hq2 : (decide (IntKind.i64.wrap (y1 - dtri_c0 m) ≥ (0 : Int))) = true) (hq3 : (m == (0 : Int)) = false) : bodyF Try.prog ([] : Vars).length tabK 3000 (rid_hd v l m) (rid_S v l m y0 y1 y2  j) [(0, .b 1), (2, .b 1), (5, .b 1), (6, .b 0)] = some (.normal, (rid_S v l m (y0) (IntKind.i64.wrap (y1 - IntKind.i64.wrap (IntKind.i64.wrap (IntKind.i64.wrap ((IntKind.i64.wrap (y1 - dtri_c0 m)).tdiv m) + (1 : Int)) * m))) (IntKind.i64.wrap (y2 + IntKind.i64.wrap (IntKind.i64.wrap ((IntKind.i64.wrap (y1 - dtri_c0 m)).tdiv m) + (1 : Int)))) (rid_J0 v l m y0 y1 y2 j)), [(m == (0 : Int)) = false, (decide (IntKind.i64.wrap (y1 - dtri_c0 m) ≥ (0 : Int))) = true, (y0 == m) = true, (decide (y1 > (0 : Int))) = true]) := by kernel_rfl
noncomputable def rid_J1 (v l m : Int) (y0 : Int) (y1 : Int) (y2 : Int) (j : Nat → Value) : Nat → Value := jOf (bodySt (bodyF Try.prog ([] : Vars).length tabK 3000 (rid_hd v l m) (rid_S v l m y0 y1 y2  j) [(0, .b 1), (2, .b 1), (5, .b 0), (6, .b 1)]))
theorem rid_p1 (v l m : Int) (h1 : 0 ≤ v ∧ v ≤ m ∧ 1 ≤ m ∧ m ≤ 20 ∧ 0 ≤ l ∧ l ≤ 63000) (y0 : Int) (y1 : Int) (y2 : Int) (j : Nat → Value) (hi : (decide (0 ≤ y0 ∧ y0 ≤ m ∧ 0 ≤ y1 ∧ y1 ≤ 63000 ∧ 0 ≤ y2 ∧ y2 ≤ 70000 ∧ (y0 = 0 ∨ rT (y0 - 1) ≤ y1))) = true) (hq0 : (decide (y1 > (0 : Int))) = true) (hq1 : (y0 == m) = true) (hq2 : (decide (IntKind.i64.wrap (y1 - dtri_c0 m) ≥ (0 : Int))) = false) (hq4 : (decide ((0 : Int) ≤ y0 ∧ y0 ≤ m ∧ (1 : Int) ≤ m ∧ m ≤ (20 : Int) ∧ (1 : Int) ≤ y1 ∧ y1 ≤ (63000 : Int) ∧ (y0 = (0 : Int) ∨ rT (y0 - (1 : Int)) ≤ y1))) = true) : bodyF Try.prog ([] : Vars).length tabK 3000 (rid_hd v l m) (rid_S v l m y0 y1 y2  j) [(0, .b 1), (2, .b 1), (5, .b 0), (6, .b 1)] = some (.normal, (rid_S v l m (nxV m y0 y1) (IntKind.i64.wrap (y1 - nxV m y0 y1)) (IntKind.i64.wrap (y2 + (1 : Int))) (rid_J1 v l m y0 y1 y2 j)), [(decide ((0 : Int) ≤ y0 ∧ y0 ≤ m ∧ (1 : Int) ≤ m ∧ m ≤ (20 : Int) ∧ (1 : Int) ≤ y1 ∧ y1 ≤ (63000 : Int) ∧ (y0 = (0 : Int) ∨ rT (y0 - (1 : Int)) ≤ y1))) = true, (decide (IntKind.i64.wrap (y1 - dtri_c0 m) ≥ (0 : Int))) = false, (y0 == m) = true, (decide (y1 > (0 : Int))) = true]) := by kernel_rfl
noncomputable def rid_J2 (v l m : Int) (y0 : Int) (y1 : Int) (y2 : Int) (j : Nat → Value) : Nat → Value := jOf (bodySt (bodyF Try.prog ([] : Vars).length tabK 3000 (rid_hd v l m) (rid_S v l m y0 y1 y2  j) [(0, .b 1), (2, .b 0), (6, .b 1)]))
theorem rid_p2 (v l m : Int) (h1 : 0 ≤ v ∧ v ≤ m ∧ 1 ≤ m ∧ m ≤ 20 ∧ 0 ≤ l ∧ l ≤ 63000) (y0 : Int) (y1 : Int) (y2 : Int) (j : Nat → Value) (hi : (decide (0 ≤ y0 ∧ y0 ≤ m ∧ 0 ≤ y1 ∧ y1 ≤ 63000 ∧ 0 ≤ y2 ∧ y2 ≤ 70000 ∧ (y0 = 0 ∨ rT (y0 - 1) ≤ y1))) = true) (hq0 : (decide (y1 > (0 : Int))) = true) (hq1 : (y0 == m) = false) (hq4 : (decide ((0 : Int) ≤ y0 ∧ y0 ≤ m ∧ (1 : Int) ≤ m ∧ m ≤ (20 : Int) ∧ (1 : Int) ≤ y1 ∧ y1 ≤ (63000 : Int) ∧ (y0 = (0 : Int) ∨ rT (y0 - (1 : Int)) ≤ y1))) = true) : bodyF Try.prog ([] : Vars).length tabK 3000 (rid_hd v l m) (rid_S v l m y0 y1 y2  j) [(0, .b 1), (2, .b 0), (6, .b 1)] = some (.normal, (rid_S v l m (nxV m y0 y1) (IntKind.i64.wrap (y1 - nxV m y0 y1)) (IntKind.i64.wrap (y2 + (1 : Int))) (rid_J2 v l m y0 y1 y2 j)), [(decide ((0 : Int) ≤ y0 ∧ y0 ≤ m ∧ (1 : Int) ≤ m ∧ m ≤ (20 : Int) ∧ (1 : Int) ≤ y1 ∧ y1 ≤ (63000 : Int) ∧ (y0 = (0 : Int) ∨ rT (y0 - (1 : Int)) ≤ y1))) = true, (y0 == m) = false, (decide (y1 > (0 : Int))) = true]) := by kernel_rfl
theorem rid_p3 (v l m : Int) (h1 : 0 ≤ v ∧ v ≤ m ∧ 1 ≤ m ∧ m ≤ 20 ∧ 0 ≤ l ∧ l ≤ 63000) (y0 : Int) (y1 : Int) (y2 : Int) (j : Nat → Value) (hi : (decide (0 ≤ y0 ∧ y0 ≤ m ∧ 0 ≤ y1 ∧ y1 ≤ 63000 ∧ 0 ≤ y2 ∧ y2 ≤ 70000 ∧ (y0 = 0 ∨ rT (y0 - 1) ≤ y1))) = true) (hq0 : (decide (y1 > (0 : Int))) = false) : bodyF Try.prog ([] : Vars).length tabK 3000 (rid_hd v l m) (rid_S v l m y0 y1 y2  j) [(0, .b 0)] = some (.exit 0, bodySt (bodyF Try.prog ([] : Vars).length tabK 3000 (rid_hd v l m) (rid_S v l m y0 y1 y2  j) [(0, .b 0)]), [(decide (y1 > (0 : Int))) = false]) := by kernel_rfl
theorem rid_d0 (v l m : Int) (h1 : 0 ≤ v ∧ v ≤ m ∧ 1 ≤ m ∧ m ≤ 20 ∧ 0 ≤ l ∧ l ≤ 63000) (y0 : Int) (y1 : Int) (y2 : Int) (hi : (decide (0 ≤ y0 ∧ y0 ≤ m ∧ 0 ≤ y1 ∧ y1 ≤ 63000 ∧ 0 ≤ y2 ∧ y2 ≤ 70000 ∧ (y0 = 0 ∨ rT (y0 - 1) ≤ y1))) = true) (hq0 : (decide (y1 > (0 : Int))) = true) (hq1 : (y0 == m) = true) (hq2 : (decide (IntKind.i64.wrap (y1 - dtri_c0 m) ≥ (0 : Int))) = true) : (m == (0 : Int)) = false := by
 rcases Bool.eq_false_or_eq_true (m == (0 : Int)) with h | h
 ·exfalso; (first | (simp_all only [Bool.and_eq_true, Bool.not_eq_true', Bool.false_eq_true, Bool.true_eq_false, reduceCtorEq]; done) | (simp only [sx, sy, eq_self, ne_eq, IntKind.wrap_i64, wrapU64, Int.reduceLT] at * <;> first | with_reducible contradiction | omega) | omega | ((try simp only [sx, sy, eq_self, ne_eq, IntKind.wrap_i64, wrapU64, Int.reduceLT] at *) <;> omega) | (simp_all; done))
 ·exact h
theorem rid_d1 (v l m : Int) (h1 : 0 ≤ v ∧ v ≤ m ∧ 1 ≤ m ∧ m ≤ 20 ∧ 0 ≤ l ∧ l ≤ 63000) (y0 : Int) (y1 : Int) (y2 : Int) (hi : (decide (0 ≤ y0 ∧ y0 ≤ m ∧ 0 ≤ y1 ∧ y1 ≤ 63000 ∧ 0 ≤ y2 ∧ y2 ≤ 70000 ∧ (y0 = 0 ∨ rT (y0 - 1) ≤ y1))) = true) (hq0 : (decide (y1 > (0 : Int))) = true) (hq1 : (y0 == m) = true) (hq2 : (decide (IntKind.i64.wrap (y1 - dtri_c0 m) ≥ (0 : Int))) = false) : (decide ((0 : Int) ≤ y0 ∧ y0 ≤ m ∧ (1 : Int) ≤ m ∧ m ≤ (20 : Int) ∧ (1 : Int) ≤ y1 ∧ y1 ≤ (63000 : Int) ∧ (y0 = (0 : Int) ∨ rT (y0 - (1 : Int)) ≤ y1))) = true := by
 rcases Bool.eq_false_or_eq_true (decide ((0 : Int) ≤ y0 ∧ y0 ≤ m ∧ (1 : Int) ≤ m ∧ m ≤ (20 : Int) ∧ (1 : Int) ≤ y1 ∧ y1 ≤ (63000 : Int) ∧ (y0 = (0 : Int) ∨ rT (y0 - (1 : Int)) ≤ y1))) with h | h
 ·exact h
 ·exfalso; (first | (simp_all only [Bool.and_eq_true, Bool.not_eq_true', Bool.false_eq_true, Bool.true_eq_false, reduceCtorEq]; done) | (simp only [sx, sy, eq_self, ne_eq, IntKind.wrap_i64, wrapU64, Int.reduceLT] at * <;> first | with_reducible contradiction | omega) | omega | ((try simp only [sx, sy, eq_self, ne_eq, IntKind.wrap_i64, wrapU64, Int.reduceLT] at *) <;> omega) | (simp_all; done))
theorem rid_d2 (v l m : Int) (h1 : 0 ≤ v ∧ v ≤ m ∧ 1 ≤ m ∧ m ≤ 20 ∧ 0 ≤ l ∧ l ≤ 63000) (y0 : Int) (y1 : Int) (y2 : Int) (hi : (decide (0 ≤ y0 ∧ y0 ≤ m ∧ 0 ≤ y1 ∧ y1 ≤ 63000 ∧ 0 ≤ y2 ∧ y2 ≤ 70000 ∧ (y0 = 0 ∨ rT (y0 - 1) ≤ y1))) = true) (hq0 : (decide (y1 > (0 : Int))) = true) (hq1 : (y0 == m) = false) : (decide ((0 : Int) ≤ y0 ∧ y0 ≤ m ∧ (1 : Int) ≤ m ∧ m ≤ (20 : Int) ∧ (1 : Int) ≤ y1 ∧ y1 ≤ (63000 : Int) ∧ (y0 = (0 : Int) ∨ rT (y0 - (1 : Int)) ≤ y1))) = true := by
 rcases Bool.eq_false_or_eq_true (decide ((0 : Int) ≤ y0 ∧ y0 ≤ m ∧ (1 : Int) ≤ m ∧ m ≤ (20 : Int) ∧ (1 : Int) ≤ y1 ∧ y1 ≤ (63000 : Int) ∧ (y0 = (0 : Int) ∨ rT (y0 - (1 : Int)) ≤ y1))) with h | h
 ·exact h
 ·exfalso; (first | (simp_all only [Bool.and_eq_true, Bool.not_eq_true', Bool.false_eq_true, Bool.true_eq_false, reduceCtorEq]; done) | (simp only [sx, sy, eq_self, ne_eq, IntKind.wrap_i64, wrapU64, Int.reduceLT] at * <;> first | with_reducible contradiction | omega) | omega | ((try simp only [sx, sy, eq_self, ne_eq, IntKind.wrap_i64, wrapU64, Int.reduceLT] at *) <;> omega) | (simp_all; done))
def rid_X : Nat → VX
 | 0 => .exit 0
 | _ => .normal
noncomputable def rid_E (kE : Nat) (v l m : Int) (y0 : Int) (y1 : Int) (y2 : Int) (j : Nat → Value) : St := match kE with
 | 0 => bodySt (bodyF Try.prog ([] : Vars).length tabK 3000 (rid_hd v l m) (rid_S v l m y0 y1 y2  j) [(0, .b 0)])
 | _ => (rid_hd v l m).s
noncomputable def rid_f (v l m : Int) : Nat → Int → Int → Int → Option (Nat × (Int × Int × Int))
 | 0, _, _, _ => none
 | fu + 1, y0, y1, y2 => (bif (decide (0 ≤ y0 ∧ y0 ≤ m ∧ 0 ≤ y1 ∧ y1 ≤ 63000 ∧ 0 ≤ y2 ∧ y2 ≤ 70000 ∧ (y0 = 0 ∨ rT (y0 - 1) ≤ y1))) then (bif (decide (y1 > (0 : Int))) then (bif (y0 == m) then (bif (decide (IntKind.i64.wrap (y1 - dtri_c0 m) ≥ (0 : Int))) then rid_f v l m fu (y0) (IntKind.i64.wrap (y1 - IntKind.i64.wrap (IntKind.i64.wrap (IntKind.i64.wrap ((IntKind.i64.wrap (y1 - dtri_c0 m)).tdiv m) + (1 : Int)) * m))) (IntKind.i64.wrap (y2 + IntKind.i64.wrap (IntKind.i64.wrap ((IntKind.i64.wrap (y1 - dtri_c0 m)).tdiv m) + (1 : Int)))) else rid_f v l m fu (nxV m y0 y1) (IntKind.i64.wrap (y1 - nxV m y0 y1)) (IntKind.i64.wrap (y2 + (1 : Int)))) else rid_f v l m fu (nxV m y0 y1) (IntKind.i64.wrap (y1 - nxV m y0 y1)) (IntKind.i64.wrap (y2 + (1 : Int)))) else some (0, (y0, y1, y2))) else none)
theorem rid_fs (v l m : Int) (fu : Nat) (y0 : Int) (y1 : Int) (y2 : Int) : rid_f v l m (fu + 1) y0 y1 y2 = (bif (decide (0 ≤ y0 ∧ y0 ≤ m ∧ 0 ≤ y1 ∧ y1 ≤ 63000 ∧ 0 ≤ y2 ∧ y2 ≤ 70000 ∧ (y0 = 0 ∨ rT (y0 - 1) ≤ y1))) then (bif (decide (y1 > (0 : Int))) then (bif (y0 == m) then (bif (decide (IntKind.i64.wrap (y1 - dtri_c0 m) ≥ (0 : Int))) then rid_f v l m fu (y0) (IntKind.i64.wrap (y1 - IntKind.i64.wrap (IntKind.i64.wrap (IntKind.i64.wrap ((IntKind.i64.wrap (y1 - dtri_c0 m)).tdiv m) + (1 : Int)) * m))) (IntKind.i64.wrap (y2 + IntKind.i64.wrap (IntKind.i64.wrap ((IntKind.i64.wrap (y1 - dtri_c0 m)).tdiv m) + (1 : Int)))) else rid_f v l m fu (nxV m y0 y1) (IntKind.i64.wrap (y1 - nxV m y0 y1)) (IntKind.i64.wrap (y2 + (1 : Int)))) else rid_f v l m fu (nxV m y0 y1) (IntKind.i64.wrap (y1 - nxV m y0 y1)) (IntKind.i64.wrap (y2 + (1 : Int)))) else some (0, (y0, y1, y2))) else none) := rfl
theorem rid_f0 (v l m : Int) (y0 : Int) (y1 : Int) (y2 : Int) : rid_f v l m 0 y0 y1 y2 = none := rfl
theorem rid_loop (v l m : Int) (h1 : 0 ≤ v ∧ v ≤ m ∧ 1 ≤ m ∧ m ≤ 20 ∧ 0 ≤ l ∧ l ≤ 63000) : ∀ (fu : Nat) (y0 : Int) (y1 : Int) (y2 : Int) (j : Nat → Value) (kk : Nat) (zz : Int × Int × Int), rid_f v l m fu y0 y1 y2 = some (kk, zz) → ∃ j', LoopRes Try.prog ([] : Vars).length tabK (rid_hd v l m).ro (rid_hd v l m).a (rid_S v l m y0 y1 y2  j) (rid_X kk) (rid_E kk v l m zz.1 zz.2.1 zz.2.2 j')
 | 0, y0, y1, y2, j, kk, zz, hf => by cases (rid_f0 v l m y0 y1 y2 ).symm.trans hf
 | fu + 1, y0, y1, y2, j, kk, zz, hf => by
  have ih := rid_loop v l m h1 fu
  have hf := (rid_fs v l m fu y0 y1 y2 ).symm.trans hf
  rcases bif_or hf with ⟨hi, hf⟩ | ⟨hi, hf⟩
  case inr => cases hf
  rcases bif_or hf with ⟨hq0, hf⟩ | ⟨hq0, hf⟩
  ·
   rcases bif_or hf with ⟨hq1, hf⟩ | ⟨hq1, hf⟩
   ·
    rcases bif_or hf with ⟨hq2, hf⟩ | ⟨hq2, hf⟩
    ·
     have hq3 := rid_d0 v l m h1 y0 y1 y2 hi hq0 hq1 hq2 
     obtain ⟨j', hj⟩ := ih (y0) (IntKind.i64.wrap (y1 - IntKind.i64.wrap (IntKind.i64.wrap (IntKind.i64.wrap ((IntKind.i64.wrap (y1 - dtri_c0 m)).tdiv m) + (1 : Int)) * m))) (IntKind.i64.wrap (y2 + IntKind.i64.wrap (IntKind.i64.wrap ((IntKind.i64.wrap (y1 - dtri_c0 m)).tdiv m) + (1 : Int)))) (rid_J0 v l m y0 y1 y2 j) kk zz hf; exact ⟨j', loop_next (body_res (rid_p0 v l m h1 y0 y1 y2 j hi  hq0 hq1 hq2 hq3)) ⟨hq3, hq2, hq1, hq0, trivial⟩ hj⟩
    ·
     have hq4 := rid_d1 v l m h1 y0 y1 y2 hi hq0 hq1 hq2 
     obtain ⟨j', hj⟩ := ih (nxV m y0 y1) (IntKind.i64.wrap (y1 - nxV m y0 y1)) (IntKind.i64.wrap (y2 + (1 : Int))) (rid_J1 v l m y0 y1 y2 j) kk zz hf; exact ⟨j', loop_next (body_res (rid_p1 v l m h1 y0 y1 y2 j hi  hq0 hq1 hq2 hq4)) ⟨hq4, hq2, hq1, hq0, trivial⟩ hj⟩
   ·
    have hq4 := rid_d2 v l m h1 y0 y1 y2 hi hq0 hq1 
    obtain ⟨j', hj⟩ := ih (nxV m y0 y1) (IntKind.i64.wrap (y1 - nxV m y0 y1)) (IntKind.i64.wrap (y2 + (1 : Int))) (rid_J2 v l m y0 y1 y2 j) kk zz hf; exact ⟨j', loop_next (body_res (rid_p2 v l m h1 y0 y1 y2 j hi  hq0 hq1 hq4)) ⟨hq4, hq1, hq0, trivial⟩ hj⟩
  ·
   injection hf with hf; injection hf with e1 e2; subst e1; subst e2; exact ⟨j, loop_exit (body_res (rid_p3 v l m h1 y0 y1 y2 j hi  hq0)) ⟨hq0, trivial⟩⟩
theorem rid_run (v l m : Int) (h1 : 0 ≤ v ∧ v ≤ m ∧ 1 ≤ m ∧ m ≤ 20 ∧ 0 ≤ l ∧ l ≤ 63000) (fu kk : Nat) (zz : Int × Int × Int) (hf : rid_f v l m fu (v) (l) ((0 : Int)) = some (kk, zz)) : ∃ j', LoopRes Try.prog ([] : Vars).length tabK (rid_hd v l m).ro (rid_hd v l m).a (rid_hd v l m).s (rid_X kk) (rid_E kk v l m zz.1 zz.2.1 zz.2.2 j') := by
 have e : (rid_hd v l m).s = (rid_S v l m (v) (l) ((0 : Int)) noJ) := by kernel_rfl
 rw [e]
 exact rid_loop v l m h1 fu (v) (l) ((0 : Int)) noJ kk zz hf
noncomputable def ridK_c0 (v l m : Int) (rid_z0 : Int) (rid_z1 : Int) (rid_z2 : Int) (rid_j : Nat → Value) : Int := (rid_z2)
theorem ridK_p0 (v l m : Int) (rid_z0 : Int) (rid_z1 : Int) (rid_z2 : Int) (rid_j : Nat → Value)  (rid_l : LoopRes Try.prog ([] : Vars).length tabK (rid_hd v l m).ro (rid_hd v l m).a (rid_hd v l m).s (rid_X 0) (rid_E 0 v l m rid_z0 rid_z1 rid_z2 rid_j)) : Known Try.prog [] 64 [.int .i64 v, .int .i64 l, .int .i64 m] (.int .i64 (rid_z2)) :=
 open_res mix tabK_ok (T := tabK) (fuel := 3000) (ans := [(0, .loop (rid_X 0) (rid_E 0 v l m rid_z0 rid_z1 rid_z2 rid_j)), ]) (log := [LoopRes Try.prog ([] : Vars).length tabK (rid_hd v l m).ro (rid_hd v l m).a (rid_hd v l m).s (rid_X 0) (rid_E 0 v l m rid_z0 rid_z1 rid_z2 rid_j)]) (by kernel_rfl) ⟨rid_l, trivial⟩ (by kernel_rfl)
set_option maxHeartbeats 8000000 in
theorem ridK (v l m : Int) (rid_z0 : Int) (rid_z1 : Int) (rid_z2 : Int) (rid_j : Nat → Value)  (rid_l : LoopRes Try.prog ([] : Vars).length tabK (rid_hd v l m).ro (rid_hd v l m).a (rid_hd v l m).s (rid_X 0) (rid_E 0 v l m rid_z0 rid_z1 rid_z2 rid_j)) : Known Try.prog [] 64 [.int .i64 v, .int .i64 l, .int .i64 m] (.int .i64 (ridK_c0 v l m rid_z0 rid_z1 rid_z2 rid_j)) := by
 have e0 : ridK_c0 v l m rid_z0 rid_z1 rid_z2 rid_j = (rid_z2) := rfl; rw [e0]; exact ridK_p0 v l m rid_z0 rid_z1 rid_z2 rid_j rid_l
end Go.Proofs.Ytcjlidciniiofaa
