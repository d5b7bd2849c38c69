/- Layer 33: At. -/
import Derived.Test.YtfpabkpmcmfbhaaOgA
import Derived.ProofKit
import Derived.IntWalk
namespace Go.Proofs.Ytfpabkpmcmfbhaa
open Go Go.RowKit
set_option linter.unusedVariables false
set_option linter.unusedSimpArgs false
set_option linter.unnecessarySimpa false
set_option maxHeartbeats 8000000
set_option maxRecDepth 100000
noncomputable def ka_c0 (xs : List Int) (i : Int) : Int := (bif (decide (i < (0 : Int))) then ((0 : Int)) else (bif (decide (i ≥ (↑xs.length : Int))) then ((0 : Int)) else (el xs i)))
theorem ka_p0 (xs : List Int) (i : Int)  (hq0 : (decide (i < (0 : Int))) = true) : KnownR Try.prog [] 40 [.list (rowA gI xs) xs.length, .val (.int .i64 i)] (.int .i64 ((0 : Int))) [] :=
  knownR_eq (v := Value.int IntKind.i64 (0 : Int)) (bs := []) (open_resD mix GOk.none (T := GTab.none) (fuel := 3000) (es := []) (ans := [(0, .b 1)]) (log := [(decide (i < (0 : Int))) = true]) (by kernel_rfl) ⟨hq0, trivial⟩ (by kernel_rfl)) (by first | rfl | (simp; done) | (simp_all; done)) (by first | rfl | (simp [rowA_nil]; done) | (simp only [rowA_eq]; rfl) | (simp_all [rowA_nil]; done))
theorem ka_p1 (xs : List Int) (i : Int)  (hq0 : (decide (i < (0 : Int))) = false) (hq1 : (decide (i ≥ (↑xs.length : Int))) = true) : KnownR Try.prog [] 40 [.list (rowA gI xs) xs.length, .val (.int .i64 i)] (.int .i64 ((0 : Int))) [] :=
  knownR_eq (v := Value.int IntKind.i64 (0 : Int)) (bs := []) (open_resD mix GOk.none (T := GTab.none) (fuel := 3000) (es := []) (ans := [(0, .b 0), (5, .b 1)]) (log := [(decide (i ≥ (↑xs.length : Int))) = true, (decide (i < (0 : Int))) = false]) (by kernel_rfl) ⟨hq1, hq0, trivial⟩ (by kernel_rfl)) (by first | rfl | (simp; done) | (simp_all; done)) (by first | rfl | (simp [rowA_nil]; done) | (simp only [rowA_eq]; rfl) | (simp_all [rowA_nil]; done))
theorem ka_p2 (xs : List Int) (i : Int)  (hq0 : (decide (i < (0 : Int))) = false) (hq1 : (decide (i ≥ (↑xs.length : Int))) = false) (hq2 : (decide ((0 : Int) ≤ i)) = true) (hq3 : (decide (i < (↑xs.length : Int))) = true) : KnownR Try.prog [] 40 [.list (rowA gI xs) xs.length, .val (.int .i64 i)] (.int .i64 (el xs i)) [] :=
  knownR_eq (v := Value.int IntKind.i64 (el xs i)) (bs := []) (open_resD mix GOk.none (T := GTab.none) (fuel := 3000) (es := []) (ans := [(0, .b 0), (5, .b 0), (6, .b 1), (7, .b 1), (8, .vals ([Value.int IntKind.i64 (el xs i)]))]) (log := [segC (rowA (gI) (xs)) (((i).toNat) * 1 + 0) 1 = some ([Value.int IntKind.i64 (el xs i)]), (decide (i < (↑xs.length : Int))) = true, (decide ((0 : Int) ≤ i)) = true, (decide (i ≥ (↑xs.length : Int))) = false, (decide (i < (0 : Int))) = false]) (by kernel_rfl) ⟨(seg_row (g := (gI)) (k := 1) (fun _ => rfl) (by first | exact of_decide_eq_true hq2 | simpa using of_decide_eq_true hq2) (by first | exact of_decide_eq_true hq3 | (simpa using of_decide_eq_true hq3; done) | (have hx1 := of_decide_eq_true hq3; have hx2 := of_decide_eq_true hi; simp only [List.length_reverse, List.length_set] at *; omega)) (by decide) rfl), hq3, hq2, hq1, hq0, trivial⟩ (by kernel_rfl)) (by first | rfl | (simp; done) | (simp_all; done)) (by first | rfl | (simp [rowA_nil]; done) | (simp only [rowA_eq]; rfl) | (simp_all [rowA_nil]; done))
set_option maxHeartbeats 8000000 in
theorem ka (xs : List Int) (i : Int)  : KnownR Try.prog [] 40 [.list (rowA gI xs) xs.length, .val (.int .i64 i)] (.int .i64 (ka_c0 xs i)) [] := by
  rcases Bool.eq_false_or_eq_true (decide (i < (0 : Int))) with hq0 | hq0
  ·
    have e0 : ka_c0 xs i = ((0 : Int)) := ((bif_t hq0 _ _).trans rfl); rw [e0]; exact ka_p0 xs i hq0
  ·
    rcases Bool.eq_false_or_eq_true (decide (i ≥ (↑xs.length : Int))) with hq1 | hq1
    ·
      have e0 : ka_c0 xs i = ((0 : Int)) := ((bif_f hq0 _ _).trans ((bif_t hq1 _ _).trans rfl)); rw [e0]; exact ka_p1 xs i hq0 hq1
    ·
      have hq2 : (decide ((0 : Int) ≤ i)) = true := by
        rcases Bool.eq_false_or_eq_true (decide ((0 : Int) ≤ i)) with h | h
        · exact h
        · exfalso; (first | (simp_all only [Bool.and_eq_true, Bool.not_eq_true', Bool.false_eq_true, Bool.true_eq_false, reduceCtorEq]; done) | (simp only [sx, sy, eq_self, ne_eq, IntKind.wrap_i64, wrapU64, Int.reduceLT] at * <;> first | contradiction | omega) | omega | ((try simp only [sx, sy, eq_self, ne_eq, IntKind.wrap_i64, wrapU64, Int.reduceLT] at *) <;> omega) | (simp_all; done))
      have hq3 : (decide (i < (↑xs.length : Int))) = true := by
        rcases Bool.eq_false_or_eq_true (decide (i < (↑xs.length : Int))) with h | h
        · exact h
        · exfalso; (first | (simp_all only [Bool.and_eq_true, Bool.not_eq_true', Bool.false_eq_true, Bool.true_eq_false, reduceCtorEq]; done) | (simp only [sx, sy, eq_self, ne_eq, IntKind.wrap_i64, wrapU64, Int.reduceLT] at * <;> first | contradiction | omega) | omega | ((try simp only [sx, sy, eq_self, ne_eq, IntKind.wrap_i64, wrapU64, Int.reduceLT] at *) <;> omega) | (simp_all; done))
      have e0 : ka_c0 xs i = (el xs i) := ((bif_f hq0 _ _).trans ((bif_f hq1 _ _).trans rfl)); rw [e0]; exact ka_p2 xs i hq0 hq1 hq2 hq3

end Go.Proofs.Ytfpabkpmcmfbhaa
