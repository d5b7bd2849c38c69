import Derived.Test.YtcjlidciniiofaaPR
import Derived.Test.YtcjlidciniiofaaProg
import Derived.ProofKit
import Derived.IntWalk
set_option linter.unnecessarySimpa false
set_option linter.unusedSimpArgs false
set_option linter.unusedVariables false
namespace Go.Proofs.Ytcjlidciniiofaa
open Go Go.RowKit
set_option maxHeartbeats 8000000
set_option maxRecDepth 100000
noncomputable def pWithin_c0 (t m : Int) : Int := (IntKind.i64.wrap ((if m < IntKind.i64.wrap ((IntKind.i64.wrap (t + (1 : Int))).tdiv (2 : Int)) then m else IntKind.i64.wrap ((IntKind.i64.wrap (t + (1 : Int))).tdiv (2 : Int))) * IntKind.i64.wrap (IntKind.i64.wrap (t + (1 : Int)) - if m < IntKind.i64.wrap ((IntKind.i64.wrap (t + (1 : Int))).tdiv (2 : Int)) then m else IntKind.i64.wrap ((IntKind.i64.wrap (t + (1 : Int))).tdiv (2 : Int)))))
theorem pWithin_p0 (t m : Int)  : Known Try.prog [] 55 [.int .i64 t, .int .i64 m] (.int .i64 (IntKind.i64.wrap ((if m < IntKind.i64.wrap ((IntKind.i64.wrap (t + (1 : Int))).tdiv (2 : Int)) then m else IntKind.i64.wrap ((IntKind.i64.wrap (t + (1 : Int))).tdiv (2 : Int))) * IntKind.i64.wrap (IntKind.i64.wrap (t + (1 : Int)) - if m < IntKind.i64.wrap ((IntKind.i64.wrap (t + (1 : Int))).tdiv (2 : Int)) then m else IntKind.i64.wrap ((IntKind.i64.wrap (t + (1 : Int))).tdiv (2 : Int)))))) :=
 open_res mix GOk.none (T := GTab.none) (fuel := 3000) (ans := []) (log := []) (by kernel_rfl) trivial (by kernel_rfl)
set_option maxHeartbeats 8000000 in
theorem pWithin (t m : Int)  : Known Try.prog [] 55 [.int .i64 t, .int .i64 m] (.int .i64 (pWithin_c0 t m)) := by
 have e0 : pWithin_c0 t m = (IntKind.i64.wrap ((if m < IntKind.i64.wrap ((IntKind.i64.wrap (t + (1 : Int))).tdiv (2 : Int)) then m else IntKind.i64.wrap ((IntKind.i64.wrap (t + (1 : Int))).tdiv (2 : Int))) * IntKind.i64.wrap (IntKind.i64.wrap (t + (1 : Int)) - if m < IntKind.i64.wrap ((IntKind.i64.wrap (t + (1 : Int))).tdiv (2 : Int)) then m else IntKind.i64.wrap ((IntKind.i64.wrap (t + (1 : Int))).tdiv (2 : Int))))) := rfl; rw [e0]; exact pWithin_p0 t m
noncomputable def pWithin_k : List Value → Option Value
 | [.int .i64 t, .int .i64 m] => some (.int .i64 (pWithin_c0 t m))
 | _ => none
theorem pWithin_ok : ∀ args v, pWithin_k args = some v → Known Try.prog [] 55 args v := by
 intro args v h
 unfold pWithin_k at h
 split at h
 ·injection h with h; subst h; exact pWithin _ _
 ·cases h
noncomputable def tabW : GTab := (GTab.fn1 55 pWithin_k GTab.none)
theorem tabW_ok : GOk Try.prog [] tabW := (GOk.fn1 pWithin_ok GOk.none)
noncomputable def pDur_hd (n m : Int) : Hd := headO Try.prog [] tabW 3000 40 [.int .i64 n, .int .i64 m] [(0, .b 0), (1, .stop)]
noncomputable def pDur_S (n m : Int) (y0 : Int) (y1 : Int) (j : Nat → Value) : St := ((pDur_hd n m).s.updF [(5, .int .i64 y0), (6, .int .i64 y1), (7, j 7), (9, j 9), (10, j 10), (11, j 11), (12, j 12), (13, j 13), (14, j 14), (15, j 15), (16, j 16), (17, j 17), (18, j 18), (19, j 19), (20, j 20), (21, j 21), (22, j 22), (23, j 23), (24, j 24)] [])
noncomputable def pDur_J0 (n m : Int) (y0 : Int) (y1 : Int) (j : Nat → Value) : Nat → Value := jOf (bodySt (bodyF Try.prog ([] : Vars).length tabW 3000 (pDur_hd n m) (pDur_S n m y0 y1  j) [(0, .b 1), (3, .b 1)]))
theorem pDur_p0 (n m : Int) (h1 : 0 ≤ n ∧ n ≤ 63000) (h2 : 1 ≤ m ∧ m ≤ 20) (y0 : Int) (y1 : Int) (j : Nat → Value) (hi : (decide (0 ≤ y0 ∧ y0 ≤ y1 ∧ y1 ≤ 40)) = true) (hq0 : (decide (y0 < y1)) = true) (hq1 : (!decide (pWithin_c0 (IntKind.i64.wrap ((IntKind.u64.wrap (IntKind.i64.wrap (y0 + y1))).fdiv (2 : Int))) m ≥ n)) = true) : bodyF Try.prog ([] : Vars).length tabW 3000 (pDur_hd n m) (pDur_S n m y0 y1  j) [(0, .b 1), (3, .b 1)] = some (.normal, (pDur_S n m (IntKind.i64.wrap (IntKind.i64.wrap ((IntKind.u64.wrap (IntKind.i64.wrap (y0 + y1))).fdiv (2 : Int)) + (1 : Int))) (y1) (pDur_J0 n m y0 y1 j)), [(!decide (pWithin_c0 (IntKind.i64.wrap ((IntKind.u64.wrap (IntKind.i64.wrap (y0 + y1))).fdiv (2 : Int))) m ≥ n)) = true, (decide (y0 < y1)) = true]) := by kernel_rfl
noncomputable def pDur_J1 (n m : Int) (y0 : Int) (y1 : Int) (j : Nat → Value) : Nat → Value := jOf (bodySt (bodyF Try.prog ([] : Vars).length tabW 3000 (pDur_hd n m) (pDur_S n m y0 y1  j) [(0, .b 1), (3, .b 0)]))
theorem pDur_p1 (n m : Int) (h1 : 0 ≤ n ∧ n ≤ 63000) (h2 : 1 ≤ m ∧ m ≤ 20) (y0 : Int) (y1 : Int) (j : Nat → Value) (hi : (decide (0 ≤ y0 ∧ y0 ≤ y1 ∧ y1 ≤ 40)) = true) (hq0 : (decide (y0 < y1)) = true) (hq1 : (!decide (pWithin_c0 (IntKind.i64.wrap ((IntKind.u64.wrap (IntKind.i64.wrap (y0 + y1))).fdiv (2 : Int))) m ≥ n)) = false) : bodyF Try.prog ([] : Vars).length tabW 3000 (pDur_hd n m) (pDur_S n m y0 y1  j) [(0, .b 1), (3, .b 0)] = some (.normal, (pDur_S n m (y0) (IntKind.i64.wrap ((IntKind.u64.wrap (IntKind.i64.wrap (y0 + y1))).fdiv (2 : Int))) (pDur_J1 n m y0 y1 j)), [(!decide (pWithin_c0 (IntKind.i64.wrap ((IntKind.u64.wrap (IntKind.i64.wrap (y0 + y1))).fdiv (2 : Int))) m ≥ n)) = false, (decide (y0 < y1)) = true]) := by kernel_rfl
theorem pDur_p2 (n m : Int) (h1 : 0 ≤ n ∧ n ≤ 63000) (h2 : 1 ≤ m ∧ m ≤ 20) (y0 : Int) (y1 : Int) (j : Nat → Value) (hi : (decide (0 ≤ y0 ∧ y0 ≤ y1 ∧ y1 ≤ 40)) = true) (hq0 : (decide (y0 < y1)) = false) : bodyF Try.prog ([] : Vars).length tabW 3000 (pDur_hd n m) (pDur_S n m y0 y1  j) [(0, .b 0)] = some (.exit 0, bodySt (bodyF Try.prog ([] : Vars).length tabW 3000 (pDur_hd n m) (pDur_S n m y0 y1  j) [(0, .b 0)]), [(decide (y0 < y1)) = false]) := by kernel_rfl
def pDur_X : Nat → VX
 | 0 => .exit 0
 | _ => .normal
noncomputable def pDur_E (kE : Nat) (n m : Int) (y0 : Int) (y1 : Int) (j : Nat → Value) : St := match kE with
 | 0 => bodySt (bodyF Try.prog ([] : Vars).length tabW 3000 (pDur_hd n m) (pDur_S n m y0 y1  j) [(0, .b 0)])
 | _ => (pDur_hd n m).s
noncomputable def pDur_f (n m : Int) : Nat → Int → Int → Option (Nat × (Int × Int))
 | 0, _, _ => none
 | fu + 1, y0, y1 => (bif (decide (0 ≤ y0 ∧ y0 ≤ y1 ∧ y1 ≤ 40)) then (bif (decide (y0 < y1)) then (bif (!decide (pWithin_c0 (IntKind.i64.wrap ((IntKind.u64.wrap (IntKind.i64.wrap (y0 + y1))).fdiv (2 : Int))) m ≥ n)) then pDur_f n m fu (IntKind.i64.wrap (IntKind.i64.wrap ((IntKind.u64.wrap (IntKind.i64.wrap (y0 + y1))).fdiv (2 : Int)) + (1 : Int))) (y1) else pDur_f n m fu (y0) (IntKind.i64.wrap ((IntKind.u64.wrap (IntKind.i64.wrap (y0 + y1))).fdiv (2 : Int)))) else some (0, (y0, y1))) else none)
theorem pDur_fs (n m : Int) (fu : Nat) (y0 : Int) (y1 : Int) : pDur_f n m (fu + 1) y0 y1 = (bif (decide (0 ≤ y0 ∧ y0 ≤ y1 ∧ y1 ≤ 40)) then (bif (decide (y0 < y1)) then (bif (!decide (pWithin_c0 (IntKind.i64.wrap ((IntKind.u64.wrap (IntKind.i64.wrap (y0 + y1))).fdiv (2 : Int))) m ≥ n)) then pDur_f n m fu (IntKind.i64.wrap (IntKind.i64.wrap ((IntKind.u64.wrap (IntKind.i64.wrap (y0 + y1))).fdiv (2 : Int)) + (1 : Int))) (y1) else pDur_f n m fu (y0) (IntKind.i64.wrap ((IntKind.u64.wrap (IntKind.i64.wrap (y0 + y1))).fdiv (2 : Int)))) else some (0, (y0, y1))) else none) := rfl
theorem pDur_f0 (n m : Int) (y0 : Int) (y1 : Int) : pDur_f n m 0 y0 y1 = none := rfl
theorem pDur_loop (n m : Int) (h1 : 0 ≤ n ∧ n ≤ 63000) (h2 : 1 ≤ m ∧ m ≤ 20) : ∀ (fu : Nat) (y0 : Int) (y1 : Int) (j : Nat → Value) (kk : Nat) (zz : Int × Int), pDur_f n m fu y0 y1 = some (kk, zz) → ∃ j', LoopRes Try.prog ([] : Vars).length tabW (pDur_hd n m).ro (pDur_hd n m).a (pDur_S n m y0 y1  j) (pDur_X kk) (pDur_E kk n m zz.1 zz.2 j')
 | 0, y0, y1, j, kk, zz, hf => by cases (pDur_f0 n m y0 y1 ).symm.trans hf
 | fu + 1, y0, y1, j, kk, zz, hf => by
  have ih := pDur_loop n m h1 h2 fu
  have hf := (pDur_fs n m fu y0 y1 ).symm.trans hf
  rcases bif_or hf with ⟨hi, hf⟩ | ⟨hi, hf⟩
  case inr => cases hf
  rcases bif_or hf with ⟨hq0, hf⟩ | ⟨hq0, hf⟩
  ·
   rcases bif_or hf with ⟨hq1, hf⟩ | ⟨hq1, hf⟩
   ·
    obtain ⟨j', hj⟩ := ih (IntKind.i64.wrap (IntKind.i64.wrap ((IntKind.u64.wrap (IntKind.i64.wrap (y0 + y1))).fdiv (2 : Int)) + (1 : Int))) (y1) (pDur_J0 n m y0 y1 j) kk zz hf; exact ⟨j', loop_next (body_res (pDur_p0 n m h1 h2 y0 y1 j hi  hq0 hq1)) ⟨hq1, hq0, trivial⟩ hj⟩
   ·
    obtain ⟨j', hj⟩ := ih (y0) (IntKind.i64.wrap ((IntKind.u64.wrap (IntKind.i64.wrap (y0 + y1))).fdiv (2 : Int))) (pDur_J1 n m y0 y1 j) kk zz hf; exact ⟨j', loop_next (body_res (pDur_p1 n m h1 h2 y0 y1 j hi  hq0 hq1)) ⟨hq1, hq0, trivial⟩ hj⟩
  ·
   injection hf with hf; injection hf with e1 e2; subst e1; subst e2; exact ⟨j, loop_exit (body_res (pDur_p2 n m h1 h2 y0 y1 j hi  hq0)) ⟨hq0, trivial⟩⟩
theorem pDur_run (n m : Int) (h1 : 0 ≤ n ∧ n ≤ 63000) (h2 : 1 ≤ m ∧ m ≤ 20) (fu kk : Nat) (zz : Int × Int) (hf : pDur_f n m fu ((0 : Int)) (IntKind.i64.wrap (IntKind.i64.wrap ((2 : Int) * m) - (1 : Int))) = some (kk, zz)) : ∃ j', LoopRes Try.prog ([] : Vars).length tabW (pDur_hd n m).ro (pDur_hd n m).a (pDur_hd n m).s (pDur_X kk) (pDur_E kk n m zz.1 zz.2 j') := by
 have e : (pDur_hd n m).s = (pDur_S n m ((0 : Int)) (IntKind.i64.wrap (IntKind.i64.wrap ((2 : Int) * m) - (1 : Int))) noJ) := by kernel_rfl
 rw [e]
 exact pDur_loop n m h1 h2 fu ((0 : Int)) (IntKind.i64.wrap (IntKind.i64.wrap ((2 : Int) * m) - (1 : Int))) noJ kk zz hf
noncomputable def pDurK_c0 (n m : Int) (pDur_z0 : Int) (pDur_z1 : Int) (pDur_j : Nat → Value) : Int := (pDur_z0)
theorem pDurK_p0 (n m : Int) (pDur_z0 : Int) (pDur_z1 : Int) (pDur_j : Nat → Value)  (pDur_k0 : (decide (IntKind.i64.wrap (n - IntKind.i64.wrap (m * m)) > (0 : Int))) = false) (pDur_l : LoopRes Try.prog ([] : Vars).length tabW (pDur_hd n m).ro (pDur_hd n m).a (pDur_hd n m).s (pDur_X 0) (pDur_E 0 n m pDur_z0 pDur_z1 pDur_j)) : Known Try.prog [] 40 [.int .i64 n, .int .i64 m] (.int .i64 (pDur_z0)) :=
 open_res mix tabW_ok (T := tabW) (fuel := 3000) (ans := [(0, .b 0), (1, .loop (pDur_X 0) (pDur_E 0 n m pDur_z0 pDur_z1 pDur_j)), ]) (log := [LoopRes Try.prog ([] : Vars).length tabW (pDur_hd n m).ro (pDur_hd n m).a (pDur_hd n m).s (pDur_X 0) (pDur_E 0 n m pDur_z0 pDur_z1 pDur_j), (decide (IntKind.i64.wrap (n - IntKind.i64.wrap (m * m)) > (0 : Int))) = false]) (by kernel_rfl) ⟨pDur_l, pDur_k0, trivial⟩ (by kernel_rfl)
set_option maxHeartbeats 8000000 in
theorem pDurK (n m : Int) (pDur_z0 : Int) (pDur_z1 : Int) (pDur_j : Nat → Value)  (pDur_k0 : (decide (IntKind.i64.wrap (n - IntKind.i64.wrap (m * m)) > (0 : Int))) = false) (pDur_l : LoopRes Try.prog ([] : Vars).length tabW (pDur_hd n m).ro (pDur_hd n m).a (pDur_hd n m).s (pDur_X 0) (pDur_E 0 n m pDur_z0 pDur_z1 pDur_j)) : Known Try.prog [] 40 [.int .i64 n, .int .i64 m] (.int .i64 (pDurK_c0 n m pDur_z0 pDur_z1 pDur_j)) := by
 have e0 : pDurK_c0 n m pDur_z0 pDur_z1 pDur_j = (pDur_z0) := rfl; rw [e0]; exact pDurK_p0 n m pDur_z0 pDur_z1 pDur_j pDur_k0 pDur_l
noncomputable def pDurL_c0 (n m : Int) : Int := (IntKind.i64.wrap (IntKind.i64.wrap (IntKind.i64.wrap ((2 : Int) * m) - (1 : Int)) + IntKind.i64.wrap ((IntKind.i64.wrap (IntKind.i64.wrap (IntKind.i64.wrap (n - IntKind.i64.wrap (m * m)) + m) - (1 : Int))).tdiv m)))
theorem pDurL_p0 (n m : Int) (h1 : n > m * m) (h2 : 1 ≤ m ∧ m ≤ 20) (h3 : 0 ≤ m * m ∧ m * m ≤ 400) (h4 : 0 ≤ n ∧ n ≤ 63000) (hq0 : (decide (IntKind.i64.wrap (n - IntKind.i64.wrap (m * m)) > (0 : Int))) = true) (hq1 : (m == (0 : Int)) = false) : Known Try.prog [] 40 [.int .i64 n, .int .i64 m] (.int .i64 (IntKind.i64.wrap (IntKind.i64.wrap (IntKind.i64.wrap ((2 : Int) * m) - (1 : Int)) + IntKind.i64.wrap ((IntKind.i64.wrap (IntKind.i64.wrap (IntKind.i64.wrap (n - IntKind.i64.wrap (m * m)) + m) - (1 : Int))).tdiv m)))) :=
 open_res mix tabW_ok (T := tabW) (fuel := 3000) (ans := [(0, .b 1), (1, .b 0)]) (log := [(m == (0 : Int)) = false, (decide (IntKind.i64.wrap (n - IntKind.i64.wrap (m * m)) > (0 : Int))) = true]) (by kernel_rfl) ⟨hq1, hq0, trivial⟩ (by kernel_rfl)
set_option maxHeartbeats 8000000 in
theorem pDurL (n m : Int) (h1 : n > m * m) (h2 : 1 ≤ m ∧ m ≤ 20) (h3 : 0 ≤ m * m ∧ m * m ≤ 400) (h4 : 0 ≤ n ∧ n ≤ 63000) : Known Try.prog [] 40 [.int .i64 n, .int .i64 m] (.int .i64 (pDurL_c0 n m)) := by
 have hq0 : (decide (IntKind.i64.wrap (n - IntKind.i64.wrap (m * m)) > (0 : Int))) = true := by
  rcases Bool.eq_false_or_eq_true (decide (IntKind.i64.wrap (n - IntKind.i64.wrap (m * m)) > (0 : Int))) with h | h
  ·exact h
  ·exfalso; (first | (simp_all only [Bool.and_eq_true, Bool.not_eq_true', Bool.false_eq_true, Bool.true_eq_false, reduceCtorEq]; done) | (simp only [sx, sy, eq_self, ne_eq, IntKind.wrap_i64, wrapU64, Int.reduceLT] at * <;> first | with_reducible contradiction | omega) | omega | ((try simp only [sx, sy, eq_self, ne_eq, IntKind.wrap_i64, wrapU64, Int.reduceLT] at *) <;> omega) | (simp_all; done))
 have hq1 : (m == (0 : Int)) = false := by
  rcases Bool.eq_false_or_eq_true (m == (0 : Int)) with h | h
  ·exfalso; (first | (simp_all only [Bool.and_eq_true, Bool.not_eq_true', Bool.false_eq_true, Bool.true_eq_false, reduceCtorEq]; done) | (simp only [sx, sy, eq_self, ne_eq, IntKind.wrap_i64, wrapU64, Int.reduceLT] at * <;> first | with_reducible contradiction | omega) | omega | ((try simp only [sx, sy, eq_self, ne_eq, IntKind.wrap_i64, wrapU64, Int.reduceLT] at *) <;> omega) | (simp_all; done))
  ·exact h
 have e0 : pDurL_c0 n m = (IntKind.i64.wrap (IntKind.i64.wrap (IntKind.i64.wrap ((2 : Int) * m) - (1 : Int)) + IntKind.i64.wrap ((IntKind.i64.wrap (IntKind.i64.wrap (IntKind.i64.wrap (n - IntKind.i64.wrap (m * m)) + m) - (1 : Int))).tdiv m))) := rfl; rw [e0]; exact pDurL_p0 n m h1 h2 h3 h4 hq0 hq1
end Go.Proofs.Ytcjlidciniiofaa
