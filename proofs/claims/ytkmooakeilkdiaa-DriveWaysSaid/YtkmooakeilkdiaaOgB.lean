/- Layer 13: the next speed, in the program and in the reference. -/
import Derived.Test.YtkmooakeilkdiaaRD
import Derived.ProofKit
import Derived.IntWalk
namespace Go.Proofs.Ytkmooakeilkdiaa
open Go Go.RowKit
set_option linter.unusedVariables false
set_option linter.unusedSimpArgs false
set_option linter.unnecessarySimpa false
set_option maxHeartbeats 8000000
set_option maxRecDepth 100000
noncomputable def ptri_c0 (v : Int) : Int := (IntKind.i64.wrap ((IntKind.i64.wrap (v * IntKind.i64.wrap (v + (1 : Int)))).tdiv (2 : Int)))
theorem ptri_p0 (v : Int)  : Known Try.prog [] 59 [.int .i64 v] (.int .i64 (IntKind.i64.wrap ((IntKind.i64.wrap (v * IntKind.i64.wrap (v + (1 : Int)))).tdiv (2 : Int)))) :=
  open_res mix GOk.none (T := GTab.none) (fuel := 3000) (ans := []) (log := []) (by kernel_rfl) trivial (by kernel_rfl)
set_option maxHeartbeats 8000000 in
theorem ptri (v : Int)  : Known Try.prog [] 59 [.int .i64 v] (.int .i64 (ptri_c0 v)) := by
  have e0 : ptri_c0 v = (IntKind.i64.wrap ((IntKind.i64.wrap (v * IntKind.i64.wrap (v + (1 : Int)))).tdiv (2 : Int))) := rfl; rw [e0]; exact ptri_p0 v
noncomputable def ptri_k : List Value → Option Value
  | [.int .i64 v] => some (.int .i64 (ptri_c0 v))
  | _ => none
theorem ptri_ok : ∀ args v, ptri_k args = some v → Known Try.prog [] 59 args v := by
  intro args v h
  unfold ptri_k at h
  split at h
  · injection h with h; subst h; exact ptri _
  · cases h

noncomputable def rtri_c0 (v : Int) : Int := (IntKind.i64.wrap ((IntKind.i64.wrap (v * IntKind.i64.wrap (v + (1 : Int)))).tdiv (2 : Int)))
theorem rtri_p0 (v : Int)  : Known Try.prog [] 56 [.int .i64 v] (.int .i64 (IntKind.i64.wrap ((IntKind.i64.wrap (v * IntKind.i64.wrap (v + (1 : Int)))).tdiv (2 : Int)))) :=
  open_res mix GOk.none (T := GTab.none) (fuel := 3000) (ans := []) (log := []) (by kernel_rfl) trivial (by kernel_rfl)
set_option maxHeartbeats 8000000 in
theorem rtri (v : Int)  : Known Try.prog [] 56 [.int .i64 v] (.int .i64 (rtri_c0 v)) := by
  have e0 : rtri_c0 v = (IntKind.i64.wrap ((IntKind.i64.wrap (v * IntKind.i64.wrap (v + (1 : Int)))).tdiv (2 : Int))) := rfl; rw [e0]; exact rtri_p0 v
noncomputable def rtri_k : List Value → Option Value
  | [.int .i64 v] => some (.int .i64 (rtri_c0 v))
  | _ => none
theorem rtri_ok : ∀ args v, rtri_k args = some v → Known Try.prog [] 56 args v := by
  intro args v h
  unfold rtri_k at h
  split at h
  · injection h with h; subst h; exact rtri _
  · cases h

noncomputable def dtri_c0 (v : Int) : Int := (IntKind.i64.wrap ((IntKind.i64.wrap (v * IntKind.i64.wrap (v + (1 : Int)))).tdiv (2 : Int)))
theorem dtri_p0 (v : Int)  : Known Try.prog [] 36 [.int .i64 v] (.int .i64 (IntKind.i64.wrap ((IntKind.i64.wrap (v * IntKind.i64.wrap (v + (1 : Int)))).tdiv (2 : Int)))) :=
  open_res mix GOk.none (T := GTab.none) (fuel := 3000) (ans := []) (log := []) (by kernel_rfl) trivial (by kernel_rfl)
set_option maxHeartbeats 8000000 in
theorem dtri (v : Int)  : Known Try.prog [] 36 [.int .i64 v] (.int .i64 (dtri_c0 v)) := by
  have e0 : dtri_c0 v = (IntKind.i64.wrap ((IntKind.i64.wrap (v * IntKind.i64.wrap (v + (1 : Int)))).tdiv (2 : Int))) := rfl; rw [e0]; exact dtri_p0 v
noncomputable def dtri_k : List Value → Option Value
  | [.int .i64 v] => some (.int .i64 (dtri_c0 v))
  | _ => none
theorem dtri_ok : ∀ args v, dtri_k args = some v → Known Try.prog [] 36 args v := by
  intro args v h
  unfold dtri_k at h
  split at h
  · injection h with h; subst h; exact dtri _
  · cases h

noncomputable def tabT : GTab := (GTab.fn1 59 ptri_k (GTab.fn1 56 rtri_k (GTab.fn1 36 dtri_k GTab.none)))
theorem tabT_ok : GOk Try.prog [] tabT := (GOk.fn1 ptri_ok (GOk.fn1 rtri_ok (GOk.fn1 dtri_ok GOk.none)))
noncomputable def pNext_c0 (v l m : Int) : Int := (bif (decide (l < (0 : Int))) then ((0 : Int)) else (bif (decide (l > (63000 : Int))) then ((0 : Int)) else (bif (decide (m < (1 : Int))) then ((0 : Int)) else (bif (decide (m > (20 : Int))) then ((0 : Int)) else (bif (decide (v < (0 : Int))) then ((0 : Int)) else (bif (decide (v > m)) then ((0 : Int)) else (bif (decide (IntKind.i64.wrap (v + (1 : Int)) ≤ m)) then (bif (decide (ptri_c0 (IntKind.i64.wrap (v + (1 : Int))) ≤ l)) then (IntKind.i64.wrap (v + (1 : Int))) else (bif (decide (ptri_c0 v ≤ l)) then (v) else (bif (decide (IntKind.i64.wrap (v - (1 : Int)) < (0 : Int))) then ((0 : Int)) else (bif (decide (ptri_c0 (IntKind.i64.wrap (v - (1 : Int))) ≤ l)) then (IntKind.i64.wrap (v - (1 : Int))) else ((0 : Int)))))) else (bif (decide (ptri_c0 v ≤ l)) then (v) else (bif (decide (ptri_c0 (IntKind.i64.wrap (v - (1 : Int))) ≤ l)) then (IntKind.i64.wrap (v - (1 : Int))) else ((0 : Int)))))))))))
noncomputable def pNext_c1 (v l m : Int) : Int := (bif (decide (l < (0 : Int))) then ((2 : Int)) else (bif (decide (l > (63000 : Int))) then ((2 : Int)) else (bif (decide (m < (1 : Int))) then ((2 : Int)) else (bif (decide (m > (20 : Int))) then ((2 : Int)) else (bif (decide (v < (0 : Int))) then ((2 : Int)) else (bif (decide (v > m)) then ((2 : Int)) else (bif (decide (IntKind.i64.wrap (v + (1 : Int)) ≤ m)) then (bif (decide (ptri_c0 (IntKind.i64.wrap (v + (1 : Int))) ≤ l)) then ((0 : Int)) else (bif (decide (ptri_c0 v ≤ l)) then ((0 : Int)) else (bif (decide (IntKind.i64.wrap (v - (1 : Int)) < (0 : Int))) then ((9 : Int)) else (bif (decide (ptri_c0 (IntKind.i64.wrap (v - (1 : Int))) ≤ l)) then ((0 : Int)) else ((9 : Int)))))) else (bif (decide (ptri_c0 v ≤ l)) then ((0 : Int)) else (bif (decide (ptri_c0 (IntKind.i64.wrap (v - (1 : Int))) ≤ l)) then ((0 : Int)) else ((9 : Int)))))))))))
theorem pNext_p0 (v l m : Int)  (hq0 : (decide (l < (0 : Int))) = true) : Known Try.prog [] 44 [.int .i64 v, .int .i64 l, .int .i64 m] (.tuple #[(.int .i64 ((0 : Int))), (.int .i64 ((2 : Int)))]) :=
  open_res mix tabT_ok (T := tabT) (fuel := 3000) (ans := [(0, .b 1)]) (log := [(decide (l < (0 : Int))) = true]) (by kernel_rfl) ⟨hq0, trivial⟩ (by kernel_rfl)
theorem pNext_p1 (v l m : Int)  (hq0 : (decide (l < (0 : Int))) = false) (hq1 : (decide (l > (63000 : Int))) = true) : Known Try.prog [] 44 [.int .i64 v, .int .i64 l, .int .i64 m] (.tuple #[(.int .i64 ((0 : Int))), (.int .i64 ((2 : Int)))]) :=
  open_res mix tabT_ok (T := tabT) (fuel := 3000) (ans := [(0, .b 0), (3, .b 1)]) (log := [(decide (l > (63000 : Int))) = true, (decide (l < (0 : Int))) = false]) (by kernel_rfl) ⟨hq1, hq0, trivial⟩ (by kernel_rfl)
theorem pNext_p2 (v l m : Int)  (hq0 : (decide (l < (0 : Int))) = false) (hq1 : (decide (l > (63000 : Int))) = false) (hq2 : (decide (m < (1 : Int))) = true) : Known Try.prog [] 44 [.int .i64 v, .int .i64 l, .int .i64 m] (.tuple #[(.int .i64 ((0 : Int))), (.int .i64 ((2 : Int)))]) :=
  open_res mix tabT_ok (T := tabT) (fuel := 3000) (ans := [(0, .b 0), (3, .b 0), (6, .b 1)]) (log := [(decide (m < (1 : Int))) = true, (decide (l > (63000 : Int))) = false, (decide (l < (0 : Int))) = false]) (by kernel_rfl) ⟨hq2, hq1, hq0, trivial⟩ (by kernel_rfl)
theorem pNext_p3 (v l m : Int)  (hq0 : (decide (l < (0 : Int))) = false) (hq1 : (decide (l > (63000 : Int))) = false) (hq2 : (decide (m < (1 : Int))) = false) (hq3 : (decide (m > (20 : Int))) = true) : Known Try.prog [] 44 [.int .i64 v, .int .i64 l, .int .i64 m] (.tuple #[(.int .i64 ((0 : Int))), (.int .i64 ((2 : Int)))]) :=
  open_res mix tabT_ok (T := tabT) (fuel := 3000) (ans := [(0, .b 0), (3, .b 0), (6, .b 0), (9, .b 1)]) (log := [(decide (m > (20 : Int))) = true, (decide (m < (1 : Int))) = false, (decide (l > (63000 : Int))) = false, (decide (l < (0 : Int))) = false]) (by kernel_rfl) ⟨hq3, hq2, hq1, hq0, trivial⟩ (by kernel_rfl)
theorem pNext_p4 (v l m : Int)  (hq0 : (decide (l < (0 : Int))) = false) (hq1 : (decide (l > (63000 : Int))) = false) (hq2 : (decide (m < (1 : Int))) = false) (hq3 : (decide (m > (20 : Int))) = false) (hq4 : (decide (v < (0 : Int))) = true) : Known Try.prog [] 44 [.int .i64 v, .int .i64 l, .int .i64 m] (.tuple #[(.int .i64 ((0 : Int))), (.int .i64 ((2 : Int)))]) :=
  open_res mix tabT_ok (T := tabT) (fuel := 3000) (ans := [(0, .b 0), (3, .b 0), (6, .b 0), (9, .b 0), (13, .b 1)]) (log := [(decide (v < (0 : Int))) = true, (decide (m > (20 : Int))) = false, (decide (m < (1 : Int))) = false, (decide (l > (63000 : Int))) = false, (decide (l < (0 : Int))) = false]) (by kernel_rfl) ⟨hq4, hq3, hq2, hq1, hq0, trivial⟩ (by kernel_rfl)
theorem pNext_p5 (v l m : Int)  (hq0 : (decide (l < (0 : Int))) = false) (hq1 : (decide (l > (63000 : Int))) = false) (hq2 : (decide (m < (1 : Int))) = false) (hq3 : (decide (m > (20 : Int))) = false) (hq4 : (decide (v < (0 : Int))) = false) (hq5 : (decide (v > m)) = true) : Known Try.prog [] 44 [.int .i64 v, .int .i64 l, .int .i64 m] (.tuple #[(.int .i64 ((0 : Int))), (.int .i64 ((2 : Int)))]) :=
  open_res mix tabT_ok (T := tabT) (fuel := 3000) (ans := [(0, .b 0), (3, .b 0), (6, .b 0), (9, .b 0), (13, .b 0), (17, .b 1)]) (log := [(decide (v > m)) = true, (decide (v < (0 : Int))) = false, (decide (m > (20 : Int))) = false, (decide (m < (1 : Int))) = false, (decide (l > (63000 : Int))) = false, (decide (l < (0 : Int))) = false]) (by kernel_rfl) ⟨hq5, hq4, hq3, hq2, hq1, hq0, trivial⟩ (by kernel_rfl)
theorem pNext_p6 (v l m : Int)  (hq0 : (decide (l < (0 : Int))) = false) (hq1 : (decide (l > (63000 : Int))) = false) (hq2 : (decide (m < (1 : Int))) = false) (hq3 : (decide (m > (20 : Int))) = false) (hq4 : (decide (v < (0 : Int))) = false) (hq5 : (decide (v > m)) = false) (hq6 : (decide (IntKind.i64.wrap (v + (1 : Int)) < (0 : Int))) = false) (hq7 : (decide (IntKind.i64.wrap (v + (1 : Int)) ≤ m)) = true) (hq8 : (decide (ptri_c0 (IntKind.i64.wrap (v + (1 : Int))) ≤ l)) = true) : Known Try.prog [] 44 [.int .i64 v, .int .i64 l, .int .i64 m] (.tuple #[(.int .i64 (IntKind.i64.wrap (v + (1 : Int)))), (.int .i64 ((0 : Int)))]) :=
  open_res mix tabT_ok (T := tabT) (fuel := 3000) (ans := [(0, .b 0), (3, .b 0), (6, .b 0), (9, .b 0), (13, .b 0), (17, .b 0), (21, .b 0), (22, .b 1), (28, .b 1), (29, .b 0)]) (log := [(decide (IntKind.i64.wrap (v + (1 : Int)) < (0 : Int))) = false, (decide (ptri_c0 (IntKind.i64.wrap (v + (1 : Int))) ≤ l)) = true, (decide (IntKind.i64.wrap (v + (1 : Int)) ≤ m)) = true, (decide (IntKind.i64.wrap (v + (1 : Int)) < (0 : Int))) = false, (decide (v > m)) = false, (decide (v < (0 : Int))) = false, (decide (m > (20 : Int))) = false, (decide (m < (1 : Int))) = false, (decide (l > (63000 : Int))) = false, (decide (l < (0 : Int))) = false]) (by kernel_rfl) ⟨hq6, hq8, hq7, hq6, hq5, hq4, hq3, hq2, hq1, hq0, trivial⟩ (by kernel_rfl)
theorem pNext_p7 (v l m : Int)  (hq0 : (decide (l < (0 : Int))) = false) (hq1 : (decide (l > (63000 : Int))) = false) (hq2 : (decide (m < (1 : Int))) = false) (hq3 : (decide (m > (20 : Int))) = false) (hq4 : (decide (v < (0 : Int))) = false) (hq5 : (decide (v > m)) = false) (hq6 : (decide (IntKind.i64.wrap (v + (1 : Int)) < (0 : Int))) = false) (hq7 : (decide (IntKind.i64.wrap (v + (1 : Int)) ≤ m)) = true) (hq8 : (decide (ptri_c0 (IntKind.i64.wrap (v + (1 : Int))) ≤ l)) = false) (hq9 : (decide (v ≤ m)) = true) (hq10 : (decide (ptri_c0 v ≤ l)) = true) : Known Try.prog [] 44 [.int .i64 v, .int .i64 l, .int .i64 m] (.tuple #[(.int .i64 (v)), (.int .i64 ((0 : Int)))]) :=
  open_res mix tabT_ok (T := tabT) (fuel := 3000) (ans := [(0, .b 0), (3, .b 0), (6, .b 0), (9, .b 0), (13, .b 0), (17, .b 0), (21, .b 0), (22, .b 1), (28, .b 0), (32, .b 0), (33, .b 1), (39, .b 1), (40, .b 0)]) (log := [(decide (v < (0 : Int))) = false, (decide (ptri_c0 v ≤ l)) = true, (decide (v ≤ m)) = true, (decide (v < (0 : Int))) = false, (decide (ptri_c0 (IntKind.i64.wrap (v + (1 : Int))) ≤ l)) = false, (decide (IntKind.i64.wrap (v + (1 : Int)) ≤ m)) = true, (decide (IntKind.i64.wrap (v + (1 : Int)) < (0 : Int))) = false, (decide (v > m)) = false, (decide (v < (0 : Int))) = false, (decide (m > (20 : Int))) = false, (decide (m < (1 : Int))) = false, (decide (l > (63000 : Int))) = false, (decide (l < (0 : Int))) = false]) (by kernel_rfl) ⟨hq4, hq10, hq9, hq4, hq8, hq7, hq6, hq5, hq4, hq3, hq2, hq1, hq0, trivial⟩ (by kernel_rfl)
theorem pNext_p8 (v l m : Int)  (hq0 : (decide (l < (0 : Int))) = false) (hq1 : (decide (l > (63000 : Int))) = false) (hq2 : (decide (m < (1 : Int))) = false) (hq3 : (decide (m > (20 : Int))) = false) (hq4 : (decide (v < (0 : Int))) = false) (hq5 : (decide (v > m)) = false) (hq6 : (decide (IntKind.i64.wrap (v + (1 : Int)) < (0 : Int))) = false) (hq7 : (decide (IntKind.i64.wrap (v + (1 : Int)) ≤ m)) = true) (hq8 : (decide (ptri_c0 (IntKind.i64.wrap (v + (1 : Int))) ≤ l)) = false) (hq9 : (decide (v ≤ m)) = true) (hq10 : (decide (ptri_c0 v ≤ l)) = false) (hq11 : (decide (IntKind.i64.wrap (v - (1 : Int)) < (0 : Int))) = true) : Known Try.prog [] 44 [.int .i64 v, .int .i64 l, .int .i64 m] (.tuple #[(.int .i64 ((0 : Int))), (.int .i64 ((9 : Int)))]) :=
  open_res mix tabT_ok (T := tabT) (fuel := 3000) (ans := [(0, .b 0), (3, .b 0), (6, .b 0), (9, .b 0), (13, .b 0), (17, .b 0), (21, .b 0), (22, .b 1), (28, .b 0), (32, .b 0), (33, .b 1), (39, .b 0), (43, .b 1)]) (log := [(decide (IntKind.i64.wrap (v - (1 : Int)) < (0 : Int))) = true, (decide (ptri_c0 v ≤ l)) = false, (decide (v ≤ m)) = true, (decide (v < (0 : Int))) = false, (decide (ptri_c0 (IntKind.i64.wrap (v + (1 : Int))) ≤ l)) = false, (decide (IntKind.i64.wrap (v + (1 : Int)) ≤ m)) = true, (decide (IntKind.i64.wrap (v + (1 : Int)) < (0 : Int))) = false, (decide (v > m)) = false, (decide (v < (0 : Int))) = false, (decide (m > (20 : Int))) = false, (decide (m < (1 : Int))) = false, (decide (l > (63000 : Int))) = false, (decide (l < (0 : Int))) = false]) (by kernel_rfl) ⟨hq11, hq10, hq9, hq4, hq8, hq7, hq6, hq5, hq4, hq3, hq2, hq1, hq0, trivial⟩ (by kernel_rfl)
theorem pNext_p9 (v l m : Int)  (hq0 : (decide (l < (0 : Int))) = false) (hq1 : (decide (l > (63000 : Int))) = false) (hq2 : (decide (m < (1 : Int))) = false) (hq3 : (decide (m > (20 : Int))) = false) (hq4 : (decide (v < (0 : Int))) = false) (hq5 : (decide (v > m)) = false) (hq6 : (decide (IntKind.i64.wrap (v + (1 : Int)) < (0 : Int))) = false) (hq7 : (decide (IntKind.i64.wrap (v + (1 : Int)) ≤ m)) = true) (hq8 : (decide (ptri_c0 (IntKind.i64.wrap (v + (1 : Int))) ≤ l)) = false) (hq9 : (decide (v ≤ m)) = true) (hq10 : (decide (ptri_c0 v ≤ l)) = false) (hq11 : (decide (IntKind.i64.wrap (v - (1 : Int)) < (0 : Int))) = false) (hq12 : (decide (IntKind.i64.wrap (v - (1 : Int)) ≤ m)) = true) (hq13 : (decide (ptri_c0 (IntKind.i64.wrap (v - (1 : Int))) ≤ l)) = true) : Known Try.prog [] 44 [.int .i64 v, .int .i64 l, .int .i64 m] (.tuple #[(.int .i64 (IntKind.i64.wrap (v - (1 : Int)))), (.int .i64 ((0 : Int)))]) :=
  open_res mix tabT_ok (T := tabT) (fuel := 3000) (ans := [(0, .b 0), (3, .b 0), (6, .b 0), (9, .b 0), (13, .b 0), (17, .b 0), (21, .b 0), (22, .b 1), (28, .b 0), (32, .b 0), (33, .b 1), (39, .b 0), (43, .b 0), (44, .b 1), (50, .b 1), (51, .b 0)]) (log := [(decide (IntKind.i64.wrap (v - (1 : Int)) < (0 : Int))) = false, (decide (ptri_c0 (IntKind.i64.wrap (v - (1 : Int))) ≤ l)) = true, (decide (IntKind.i64.wrap (v - (1 : Int)) ≤ m)) = true, (decide (IntKind.i64.wrap (v - (1 : Int)) < (0 : Int))) = false, (decide (ptri_c0 v ≤ l)) = false, (decide (v ≤ m)) = true, (decide (v < (0 : Int))) = false, (decide (ptri_c0 (IntKind.i64.wrap (v + (1 : Int))) ≤ l)) = false, (decide (IntKind.i64.wrap (v + (1 : Int)) ≤ m)) = true, (decide (IntKind.i64.wrap (v + (1 : Int)) < (0 : Int))) = false, (decide (v > m)) = false, (decide (v < (0 : Int))) = false, (decide (m > (20 : Int))) = false, (decide (m < (1 : Int))) = false, (decide (l > (63000 : Int))) = false, (decide (l < (0 : Int))) = false]) (by kernel_rfl) ⟨hq11, hq13, hq12, hq11, hq10, hq9, hq4, hq8, hq7, hq6, hq5, hq4, hq3, hq2, hq1, hq0, trivial⟩ (by kernel_rfl)
theorem pNext_p10 (v l m : Int)  (hq0 : (decide (l < (0 : Int))) = false) (hq1 : (decide (l > (63000 : Int))) = false) (hq2 : (decide (m < (1 : Int))) = false) (hq3 : (decide (m > (20 : Int))) = false) (hq4 : (decide (v < (0 : Int))) = false) (hq5 : (decide (v > m)) = false) (hq6 : (decide (IntKind.i64.wrap (v + (1 : Int)) < (0 : Int))) = false) (hq7 : (decide (IntKind.i64.wrap (v + (1 : Int)) ≤ m)) = true) (hq8 : (decide (ptri_c0 (IntKind.i64.wrap (v + (1 : Int))) ≤ l)) = false) (hq9 : (decide (v ≤ m)) = true) (hq10 : (decide (ptri_c0 v ≤ l)) = false) (hq11 : (decide (IntKind.i64.wrap (v - (1 : Int)) < (0 : Int))) = false) (hq12 : (decide (IntKind.i64.wrap (v - (1 : Int)) ≤ m)) = true) (hq13 : (decide (ptri_c0 (IntKind.i64.wrap (v - (1 : Int))) ≤ l)) = false) : Known Try.prog [] 44 [.int .i64 v, .int .i64 l, .int .i64 m] (.tuple #[(.int .i64 ((0 : Int))), (.int .i64 ((9 : Int)))]) :=
  open_res mix tabT_ok (T := tabT) (fuel := 3000) (ans := [(0, .b 0), (3, .b 0), (6, .b 0), (9, .b 0), (13, .b 0), (17, .b 0), (21, .b 0), (22, .b 1), (28, .b 0), (32, .b 0), (33, .b 1), (39, .b 0), (43, .b 0), (44, .b 1), (50, .b 0)]) (log := [(decide (ptri_c0 (IntKind.i64.wrap (v - (1 : Int))) ≤ l)) = false, (decide (IntKind.i64.wrap (v - (1 : Int)) ≤ m)) = true, (decide (IntKind.i64.wrap (v - (1 : Int)) < (0 : Int))) = false, (decide (ptri_c0 v ≤ l)) = false, (decide (v ≤ m)) = true, (decide (v < (0 : Int))) = false, (decide (ptri_c0 (IntKind.i64.wrap (v + (1 : Int))) ≤ l)) = false, (decide (IntKind.i64.wrap (v + (1 : Int)) ≤ m)) = true, (decide (IntKind.i64.wrap (v + (1 : Int)) < (0 : Int))) = false, (decide (v > m)) = false, (decide (v < (0 : Int))) = false, (decide (m > (20 : Int))) = false, (decide (m < (1 : Int))) = false, (decide (l > (63000 : Int))) = false, (decide (l < (0 : Int))) = false]) (by kernel_rfl) ⟨hq13, hq12, hq11, hq10, hq9, hq4, hq8, hq7, hq6, hq5, hq4, hq3, hq2, hq1, hq0, trivial⟩ (by kernel_rfl)
theorem pNext_p11 (v l m : Int)  (hq0 : (decide (l < (0 : Int))) = false) (hq1 : (decide (l > (63000 : Int))) = false) (hq2 : (decide (m < (1 : Int))) = false) (hq3 : (decide (m > (20 : Int))) = false) (hq4 : (decide (v < (0 : Int))) = false) (hq5 : (decide (v > m)) = false) (hq6 : (decide (IntKind.i64.wrap (v + (1 : Int)) < (0 : Int))) = false) (hq7 : (decide (IntKind.i64.wrap (v + (1 : Int)) ≤ m)) = false) (hq9 : (decide (v ≤ m)) = true) (hq10 : (decide (ptri_c0 v ≤ l)) = true) : Known Try.prog [] 44 [.int .i64 v, .int .i64 l, .int .i64 m] (.tuple #[(.int .i64 (v)), (.int .i64 ((0 : Int)))]) :=
  open_res mix tabT_ok (T := tabT) (fuel := 3000) (ans := [(0, .b 0), (3, .b 0), (6, .b 0), (9, .b 0), (13, .b 0), (17, .b 0), (21, .b 0), (22, .b 0), (31, .b 0), (32, .b 1), (38, .b 1), (39, .b 0)]) (log := [(decide (v < (0 : Int))) = false, (decide (ptri_c0 v ≤ l)) = true, (decide (v ≤ m)) = true, (decide (v < (0 : Int))) = false, (decide (IntKind.i64.wrap (v + (1 : Int)) ≤ m)) = false, (decide (IntKind.i64.wrap (v + (1 : Int)) < (0 : Int))) = false, (decide (v > m)) = false, (decide (v < (0 : Int))) = false, (decide (m > (20 : Int))) = false, (decide (m < (1 : Int))) = false, (decide (l > (63000 : Int))) = false, (decide (l < (0 : Int))) = false]) (by kernel_rfl) ⟨hq4, hq10, hq9, hq4, hq7, hq6, hq5, hq4, hq3, hq2, hq1, hq0, trivial⟩ (by kernel_rfl)
theorem pNext_p12 (v l m : Int)  (hq0 : (decide (l < (0 : Int))) = false) (hq1 : (decide (l > (63000 : Int))) = false) (hq2 : (decide (m < (1 : Int))) = false) (hq3 : (decide (m > (20 : Int))) = false) (hq4 : (decide (v < (0 : Int))) = false) (hq5 : (decide (v > m)) = false) (hq6 : (decide (IntKind.i64.wrap (v + (1 : Int)) < (0 : Int))) = false) (hq7 : (decide (IntKind.i64.wrap (v + (1 : Int)) ≤ m)) = false) (hq9 : (decide (v ≤ m)) = true) (hq10 : (decide (ptri_c0 v ≤ l)) = false) (hq11 : (decide (IntKind.i64.wrap (v - (1 : Int)) < (0 : Int))) = false) (hq12 : (decide (IntKind.i64.wrap (v - (1 : Int)) ≤ m)) = true) (hq13 : (decide (ptri_c0 (IntKind.i64.wrap (v - (1 : Int))) ≤ l)) = true) : Known Try.prog [] 44 [.int .i64 v, .int .i64 l, .int .i64 m] (.tuple #[(.int .i64 (IntKind.i64.wrap (v - (1 : Int)))), (.int .i64 ((0 : Int)))]) :=
  open_res mix tabT_ok (T := tabT) (fuel := 3000) (ans := [(0, .b 0), (3, .b 0), (6, .b 0), (9, .b 0), (13, .b 0), (17, .b 0), (21, .b 0), (22, .b 0), (31, .b 0), (32, .b 1), (38, .b 0), (42, .b 0), (43, .b 1), (49, .b 1), (50, .b 0)]) (log := [(decide (IntKind.i64.wrap (v - (1 : Int)) < (0 : Int))) = false, (decide (ptri_c0 (IntKind.i64.wrap (v - (1 : Int))) ≤ l)) = true, (decide (IntKind.i64.wrap (v - (1 : Int)) ≤ m)) = true, (decide (IntKind.i64.wrap (v - (1 : Int)) < (0 : Int))) = false, (decide (ptri_c0 v ≤ l)) = false, (decide (v ≤ m)) = true, (decide (v < (0 : Int))) = false, (decide (IntKind.i64.wrap (v + (1 : Int)) ≤ m)) = false, (decide (IntKind.i64.wrap (v + (1 : Int)) < (0 : Int))) = false, (decide (v > m)) = false, (decide (v < (0 : Int))) = false, (decide (m > (20 : Int))) = false, (decide (m < (1 : Int))) = false, (decide (l > (63000 : Int))) = false, (decide (l < (0 : Int))) = false]) (by kernel_rfl) ⟨hq11, hq13, hq12, hq11, hq10, hq9, hq4, hq7, hq6, hq5, hq4, hq3, hq2, hq1, hq0, trivial⟩ (by kernel_rfl)
theorem pNext_p13 (v l m : Int)  (hq0 : (decide (l < (0 : Int))) = false) (hq1 : (decide (l > (63000 : Int))) = false) (hq2 : (decide (m < (1 : Int))) = false) (hq3 : (decide (m > (20 : Int))) = false) (hq4 : (decide (v < (0 : Int))) = false) (hq5 : (decide (v > m)) = false) (hq6 : (decide (IntKind.i64.wrap (v + (1 : Int)) < (0 : Int))) = false) (hq7 : (decide (IntKind.i64.wrap (v + (1 : Int)) ≤ m)) = false) (hq9 : (decide (v ≤ m)) = true) (hq10 : (decide (ptri_c0 v ≤ l)) = false) (hq11 : (decide (IntKind.i64.wrap (v - (1 : Int)) < (0 : Int))) = false) (hq12 : (decide (IntKind.i64.wrap (v - (1 : Int)) ≤ m)) = true) (hq13 : (decide (ptri_c0 (IntKind.i64.wrap (v - (1 : Int))) ≤ l)) = false) : Known Try.prog [] 44 [.int .i64 v, .int .i64 l, .int .i64 m] (.tuple #[(.int .i64 ((0 : Int))), (.int .i64 ((9 : Int)))]) :=
  open_res mix tabT_ok (T := tabT) (fuel := 3000) (ans := [(0, .b 0), (3, .b 0), (6, .b 0), (9, .b 0), (13, .b 0), (17, .b 0), (21, .b 0), (22, .b 0), (31, .b 0), (32, .b 1), (38, .b 0), (42, .b 0), (43, .b 1), (49, .b 0)]) (log := [(decide (ptri_c0 (IntKind.i64.wrap (v - (1 : Int))) ≤ l)) = false, (decide (IntKind.i64.wrap (v - (1 : Int)) ≤ m)) = true, (decide (IntKind.i64.wrap (v - (1 : Int)) < (0 : Int))) = false, (decide (ptri_c0 v ≤ l)) = false, (decide (v ≤ m)) = true, (decide (v < (0 : Int))) = false, (decide (IntKind.i64.wrap (v + (1 : Int)) ≤ m)) = false, (decide (IntKind.i64.wrap (v + (1 : Int)) < (0 : Int))) = false, (decide (v > m)) = false, (decide (v < (0 : Int))) = false, (decide (m > (20 : Int))) = false, (decide (m < (1 : Int))) = false, (decide (l > (63000 : Int))) = false, (decide (l < (0 : Int))) = false]) (by kernel_rfl) ⟨hq13, hq12, hq11, hq10, hq9, hq4, hq7, hq6, hq5, hq4, hq3, hq2, hq1, hq0, trivial⟩ (by kernel_rfl)
set_option maxHeartbeats 8000000 in
theorem pNext (v l m : Int)  : Known Try.prog [] 44 [.int .i64 v, .int .i64 l, .int .i64 m] (.tuple #[(.int .i64 (pNext_c0 v l m)), (.int .i64 (pNext_c1 v l m))]) := by
  rcases Bool.eq_false_or_eq_true (decide (l < (0 : Int))) with hq0 | hq0
  ·
    have e0 : pNext_c0 v l m = ((0 : Int)) := ((bif_t hq0 _ _).trans rfl); rw [e0]; have e1 : pNext_c1 v l m = ((2 : Int)) := ((bif_t hq0 _ _).trans rfl); rw [e1]; exact pNext_p0 v l m hq0
  ·
    rcases Bool.eq_false_or_eq_true (decide (l > (63000 : Int))) with hq1 | hq1
    ·
      have e0 : pNext_c0 v l m = ((0 : Int)) := ((bif_f hq0 _ _).trans ((bif_t hq1 _ _).trans rfl)); rw [e0]; have e1 : pNext_c1 v l m = ((2 : Int)) := ((bif_f hq0 _ _).trans ((bif_t hq1 _ _).trans rfl)); rw [e1]; exact pNext_p1 v l m hq0 hq1
    ·
      rcases Bool.eq_false_or_eq_true (decide (m < (1 : Int))) with hq2 | hq2
      ·
        have e0 : pNext_c0 v l m = ((0 : Int)) := ((bif_f hq0 _ _).trans ((bif_f hq1 _ _).trans ((bif_t hq2 _ _).trans rfl))); rw [e0]; have e1 : pNext_c1 v l m = ((2 : Int)) := ((bif_f hq0 _ _).trans ((bif_f hq1 _ _).trans ((bif_t hq2 _ _).trans rfl))); rw [e1]; exact pNext_p2 v l m hq0 hq1 hq2
      ·
        rcases Bool.eq_false_or_eq_true (decide (m > (20 : Int))) with hq3 | hq3
        ·
          have e0 : pNext_c0 v l m = ((0 : Int)) := ((bif_f hq0 _ _).trans ((bif_f hq1 _ _).trans ((bif_f hq2 _ _).trans ((bif_t hq3 _ _).trans rfl)))); rw [e0]; have e1 : pNext_c1 v l m = ((2 : Int)) := ((bif_f hq0 _ _).trans ((bif_f hq1 _ _).trans ((bif_f hq2 _ _).trans ((bif_t hq3 _ _).trans rfl)))); rw [e1]; exact pNext_p3 v l m hq0 hq1 hq2 hq3
        ·
          rcases Bool.eq_false_or_eq_true (decide (v < (0 : Int))) with hq4 | hq4
          ·
            have e0 : pNext_c0 v l m = ((0 : Int)) := ((bif_f hq0 _ _).trans ((bif_f hq1 _ _).trans ((bif_f hq2 _ _).trans ((bif_f hq3 _ _).trans ((bif_t hq4 _ _).trans rfl))))); rw [e0]; have e1 : pNext_c1 v l m = ((2 : Int)) := ((bif_f hq0 _ _).trans ((bif_f hq1 _ _).trans ((bif_f hq2 _ _).trans ((bif_f hq3 _ _).trans ((bif_t hq4 _ _).trans rfl))))); rw [e1]; exact pNext_p4 v l m hq0 hq1 hq2 hq3 hq4
          ·
            rcases Bool.eq_false_or_eq_true (decide (v > m)) with hq5 | hq5
            ·
              have e0 : pNext_c0 v l m = ((0 : Int)) := ((bif_f hq0 _ _).trans ((bif_f hq1 _ _).trans ((bif_f hq2 _ _).trans ((bif_f hq3 _ _).trans ((bif_f hq4 _ _).trans ((bif_t hq5 _ _).trans rfl)))))); rw [e0]; have e1 : pNext_c1 v l m = ((2 : Int)) := ((bif_f hq0 _ _).trans ((bif_f hq1 _ _).trans ((bif_f hq2 _ _).trans ((bif_f hq3 _ _).trans ((bif_f hq4 _ _).trans ((bif_t hq5 _ _).trans rfl)))))); rw [e1]; exact pNext_p5 v l m hq0 hq1 hq2 hq3 hq4 hq5
            ·
              have hq6 : (decide (IntKind.i64.wrap (v + (1 : Int)) < (0 : Int))) = false := by
                rcases Bool.eq_false_or_eq_true (decide (IntKind.i64.wrap (v + (1 : Int)) < (0 : Int))) with h | h
                · exfalso; (first | (simp_all only [Bool.and_eq_true, Bool.not_eq_true', Bool.false_eq_true, Bool.true_eq_false, reduceCtorEq]; done) | (simp only [sx, sy, eq_self, ne_eq, IntKind.wrap_i64, wrapU64, Int.reduceLT] at * <;> first | contradiction | omega) | omega | ((try simp only [sx, sy, eq_self, ne_eq, IntKind.wrap_i64, wrapU64, Int.reduceLT] at *) <;> omega) | (simp_all; done))
                · exact h
              rcases Bool.eq_false_or_eq_true (decide (IntKind.i64.wrap (v + (1 : Int)) ≤ m)) with hq7 | hq7
              ·
                rcases Bool.eq_false_or_eq_true (decide (ptri_c0 (IntKind.i64.wrap (v + (1 : Int))) ≤ l)) with hq8 | hq8
                ·
                  have e0 : pNext_c0 v l m = (IntKind.i64.wrap (v + (1 : Int))) := ((bif_f hq0 _ _).trans ((bif_f hq1 _ _).trans ((bif_f hq2 _ _).trans ((bif_f hq3 _ _).trans ((bif_f hq4 _ _).trans ((bif_f hq5 _ _).trans ((bif_t hq7 _ _).trans ((bif_t hq8 _ _).trans rfl)))))))); rw [e0]; have e1 : pNext_c1 v l m = ((0 : Int)) := ((bif_f hq0 _ _).trans ((bif_f hq1 _ _).trans ((bif_f hq2 _ _).trans ((bif_f hq3 _ _).trans ((bif_f hq4 _ _).trans ((bif_f hq5 _ _).trans ((bif_t hq7 _ _).trans ((bif_t hq8 _ _).trans rfl)))))))); rw [e1]; exact pNext_p6 v l m hq0 hq1 hq2 hq3 hq4 hq5 hq6 hq7 hq8
                ·
                  have hq9 : (decide (v ≤ m)) = true := by
                    rcases Bool.eq_false_or_eq_true (decide (v ≤ m)) with h | h
                    · exact h
                    · exfalso; (first | (simp_all only [Bool.and_eq_true, Bool.not_eq_true', Bool.false_eq_true, Bool.true_eq_false, reduceCtorEq]; done) | (simp only [sx, sy, eq_self, ne_eq, IntKind.wrap_i64, wrapU64, Int.reduceLT] at * <;> first | contradiction | omega) | omega | ((try simp only [sx, sy, eq_self, ne_eq, IntKind.wrap_i64, wrapU64, Int.reduceLT] at *) <;> omega) | (simp_all; done))
                  rcases Bool.eq_false_or_eq_true (decide (ptri_c0 v ≤ l)) with hq10 | hq10
                  ·
                    have e0 : pNext_c0 v l m = (v) := ((bif_f hq0 _ _).trans ((bif_f hq1 _ _).trans ((bif_f hq2 _ _).trans ((bif_f hq3 _ _).trans ((bif_f hq4 _ _).trans ((bif_f hq5 _ _).trans ((bif_t hq7 _ _).trans ((bif_f hq8 _ _).trans ((bif_t hq10 _ _).trans rfl))))))))); rw [e0]; have e1 : pNext_c1 v l m = ((0 : Int)) := ((bif_f hq0 _ _).trans ((bif_f hq1 _ _).trans ((bif_f hq2 _ _).trans ((bif_f hq3 _ _).trans ((bif_f hq4 _ _).trans ((bif_f hq5 _ _).trans ((bif_t hq7 _ _).trans ((bif_f hq8 _ _).trans ((bif_t hq10 _ _).trans rfl))))))))); rw [e1]; exact pNext_p7 v l m hq0 hq1 hq2 hq3 hq4 hq5 hq6 hq7 hq8 hq9 hq10
                  ·
                    rcases Bool.eq_false_or_eq_true (decide (IntKind.i64.wrap (v - (1 : Int)) < (0 : Int))) with hq11 | hq11
                    ·
                      have e0 : pNext_c0 v l m = ((0 : Int)) := ((bif_f hq0 _ _).trans ((bif_f hq1 _ _).trans ((bif_f hq2 _ _).trans ((bif_f hq3 _ _).trans ((bif_f hq4 _ _).trans ((bif_f hq5 _ _).trans ((bif_t hq7 _ _).trans ((bif_f hq8 _ _).trans ((bif_f hq10 _ _).trans ((bif_t hq11 _ _).trans rfl)))))))))); rw [e0]; have e1 : pNext_c1 v l m = ((9 : Int)) := ((bif_f hq0 _ _).trans ((bif_f hq1 _ _).trans ((bif_f hq2 _ _).trans ((bif_f hq3 _ _).trans ((bif_f hq4 _ _).trans ((bif_f hq5 _ _).trans ((bif_t hq7 _ _).trans ((bif_f hq8 _ _).trans ((bif_f hq10 _ _).trans ((bif_t hq11 _ _).trans rfl)))))))))); rw [e1]; exact pNext_p8 v l m hq0 hq1 hq2 hq3 hq4 hq5 hq6 hq7 hq8 hq9 hq10 hq11
                    ·
                      have hq12 : (decide (IntKind.i64.wrap (v - (1 : Int)) ≤ m)) = true := by
                        rcases Bool.eq_false_or_eq_true (decide (IntKind.i64.wrap (v - (1 : Int)) ≤ m)) with h | h
                        · exact h
                        · exfalso; (first | (simp_all only [Bool.and_eq_true, Bool.not_eq_true', Bool.false_eq_true, Bool.true_eq_false, reduceCtorEq]; done) | (simp only [sx, sy, eq_self, ne_eq, IntKind.wrap_i64, wrapU64, Int.reduceLT] at * <;> first | contradiction | omega) | omega | ((try simp only [sx, sy, eq_self, ne_eq, IntKind.wrap_i64, wrapU64, Int.reduceLT] at *) <;> omega) | (simp_all; done))
                      rcases Bool.eq_false_or_eq_true (decide (ptri_c0 (IntKind.i64.wrap (v - (1 : Int))) ≤ l)) with hq13 | hq13
                      ·
                        have e0 : pNext_c0 v l m = (IntKind.i64.wrap (v - (1 : Int))) := ((bif_f hq0 _ _).trans ((bif_f hq1 _ _).trans ((bif_f hq2 _ _).trans ((bif_f hq3 _ _).trans ((bif_f hq4 _ _).trans ((bif_f hq5 _ _).trans ((bif_t hq7 _ _).trans ((bif_f hq8 _ _).trans ((bif_f hq10 _ _).trans ((bif_f hq11 _ _).trans ((bif_t hq13 _ _).trans rfl))))))))))); rw [e0]; have e1 : pNext_c1 v l m = ((0 : Int)) := ((bif_f hq0 _ _).trans ((bif_f hq1 _ _).trans ((bif_f hq2 _ _).trans ((bif_f hq3 _ _).trans ((bif_f hq4 _ _).trans ((bif_f hq5 _ _).trans ((bif_t hq7 _ _).trans ((bif_f hq8 _ _).trans ((bif_f hq10 _ _).trans ((bif_f hq11 _ _).trans ((bif_t hq13 _ _).trans rfl))))))))))); rw [e1]; exact pNext_p9 v l m hq0 hq1 hq2 hq3 hq4 hq5 hq6 hq7 hq8 hq9 hq10 hq11 hq12 hq13
                      ·
                        have e0 : pNext_c0 v l m = ((0 : Int)) := ((bif_f hq0 _ _).trans ((bif_f hq1 _ _).trans ((bif_f hq2 _ _).trans ((bif_f hq3 _ _).trans ((bif_f hq4 _ _).trans ((bif_f hq5 _ _).trans ((bif_t hq7 _ _).trans ((bif_f hq8 _ _).trans ((bif_f hq10 _ _).trans ((bif_f hq11 _ _).trans ((bif_f hq13 _ _).trans rfl))))))))))); rw [e0]; have e1 : pNext_c1 v l m = ((9 : Int)) := ((bif_f hq0 _ _).trans ((bif_f hq1 _ _).trans ((bif_f hq2 _ _).trans ((bif_f hq3 _ _).trans ((bif_f hq4 _ _).trans ((bif_f hq5 _ _).trans ((bif_t hq7 _ _).trans ((bif_f hq8 _ _).trans ((bif_f hq10 _ _).trans ((bif_f hq11 _ _).trans ((bif_f hq13 _ _).trans rfl))))))))))); rw [e1]; exact pNext_p10 v l m hq0 hq1 hq2 hq3 hq4 hq5 hq6 hq7 hq8 hq9 hq10 hq11 hq12 hq13
              ·
                have hq9 : (decide (v ≤ m)) = true := by
                  rcases Bool.eq_false_or_eq_true (decide (v ≤ m)) with h | h
                  · exact h
                  · exfalso; (first | (simp_all only [Bool.and_eq_true, Bool.not_eq_true', Bool.false_eq_true, Bool.true_eq_false, reduceCtorEq]; done) | (simp only [sx, sy, eq_self, ne_eq, IntKind.wrap_i64, wrapU64, Int.reduceLT] at * <;> first | contradiction | omega) | omega | ((try simp only [sx, sy, eq_self, ne_eq, IntKind.wrap_i64, wrapU64, Int.reduceLT] at *) <;> omega) | (simp_all; done))
                rcases Bool.eq_false_or_eq_true (decide (ptri_c0 v ≤ l)) with hq10 | hq10
                ·
                  have e0 : pNext_c0 v l m = (v) := ((bif_f hq0 _ _).trans ((bif_f hq1 _ _).trans ((bif_f hq2 _ _).trans ((bif_f hq3 _ _).trans ((bif_f hq4 _ _).trans ((bif_f hq5 _ _).trans ((bif_f hq7 _ _).trans ((bif_t hq10 _ _).trans rfl)))))))); rw [e0]; have e1 : pNext_c1 v l m = ((0 : Int)) := ((bif_f hq0 _ _).trans ((bif_f hq1 _ _).trans ((bif_f hq2 _ _).trans ((bif_f hq3 _ _).trans ((bif_f hq4 _ _).trans ((bif_f hq5 _ _).trans ((bif_f hq7 _ _).trans ((bif_t hq10 _ _).trans rfl)))))))); rw [e1]; exact pNext_p11 v l m hq0 hq1 hq2 hq3 hq4 hq5 hq6 hq7 hq9 hq10
                ·
                  have hq11 : (decide (IntKind.i64.wrap (v - (1 : Int)) < (0 : Int))) = false := by
                    rcases Bool.eq_false_or_eq_true (decide (IntKind.i64.wrap (v - (1 : Int)) < (0 : Int))) with h | h
                    · exfalso; (first | (simp_all only [Bool.and_eq_true, Bool.not_eq_true', Bool.false_eq_true, Bool.true_eq_false, reduceCtorEq]; done) | (simp only [sx, sy, eq_self, ne_eq, IntKind.wrap_i64, wrapU64, Int.reduceLT] at * <;> first | contradiction | omega) | omega | ((try simp only [sx, sy, eq_self, ne_eq, IntKind.wrap_i64, wrapU64, Int.reduceLT] at *) <;> omega) | (simp_all; done))
                    · exact h
                  have hq12 : (decide (IntKind.i64.wrap (v - (1 : Int)) ≤ m)) = true := by
                    rcases Bool.eq_false_or_eq_true (decide (IntKind.i64.wrap (v - (1 : Int)) ≤ m)) with h | h
                    · exact h
                    · exfalso; (first | (simp_all only [Bool.and_eq_true, Bool.not_eq_true', Bool.false_eq_true, Bool.true_eq_false, reduceCtorEq]; done) | (simp only [sx, sy, eq_self, ne_eq, IntKind.wrap_i64, wrapU64, Int.reduceLT] at * <;> first | contradiction | omega) | omega | ((try simp only [sx, sy, eq_self, ne_eq, IntKind.wrap_i64, wrapU64, Int.reduceLT] at *) <;> omega) | (simp_all; done))
                  rcases Bool.eq_false_or_eq_true (decide (ptri_c0 (IntKind.i64.wrap (v - (1 : Int))) ≤ l)) with hq13 | hq13
                  ·
                    have e0 : pNext_c0 v l m = (IntKind.i64.wrap (v - (1 : Int))) := ((bif_f hq0 _ _).trans ((bif_f hq1 _ _).trans ((bif_f hq2 _ _).trans ((bif_f hq3 _ _).trans ((bif_f hq4 _ _).trans ((bif_f hq5 _ _).trans ((bif_f hq7 _ _).trans ((bif_f hq10 _ _).trans ((bif_t hq13 _ _).trans rfl))))))))); rw [e0]; have e1 : pNext_c1 v l m = ((0 : Int)) := ((bif_f hq0 _ _).trans ((bif_f hq1 _ _).trans ((bif_f hq2 _ _).trans ((bif_f hq3 _ _).trans ((bif_f hq4 _ _).trans ((bif_f hq5 _ _).trans ((bif_f hq7 _ _).trans ((bif_f hq10 _ _).trans ((bif_t hq13 _ _).trans rfl))))))))); rw [e1]; exact pNext_p12 v l m hq0 hq1 hq2 hq3 hq4 hq5 hq6 hq7 hq9 hq10 hq11 hq12 hq13
                  ·
                    have e0 : pNext_c0 v l m = ((0 : Int)) := ((bif_f hq0 _ _).trans ((bif_f hq1 _ _).trans ((bif_f hq2 _ _).trans ((bif_f hq3 _ _).trans ((bif_f hq4 _ _).trans ((bif_f hq5 _ _).trans ((bif_f hq7 _ _).trans ((bif_f hq10 _ _).trans ((bif_f hq13 _ _).trans rfl))))))))); rw [e0]; have e1 : pNext_c1 v l m = ((9 : Int)) := ((bif_f hq0 _ _).trans ((bif_f hq1 _ _).trans ((bif_f hq2 _ _).trans ((bif_f hq3 _ _).trans ((bif_f hq4 _ _).trans ((bif_f hq5 _ _).trans ((bif_f hq7 _ _).trans ((bif_f hq10 _ _).trans ((bif_f hq13 _ _).trans rfl))))))))); rw [e1]; exact pNext_p13 v l m hq0 hq1 hq2 hq3 hq4 hq5 hq6 hq7 hq9 hq10 hq11 hq12 hq13
noncomputable def pNext_k : List Value → Option Value
  | [.int .i64 v, .int .i64 l, .int .i64 m] => some (.tuple #[(.int .i64 (pNext_c0 v l m)), (.int .i64 (pNext_c1 v l m))])
  | _ => none
theorem pNext_ok : ∀ args v, pNext_k args = some v → Known Try.prog [] 44 args v := by
  intro args v h
  unfold pNext_k at h
  split at h
  · injection h with h; subst h; exact pNext _ _ _
  · cases h

noncomputable def rnx_hd (v l m : Int) : Hd := headO Try.prog [] tabT 3000 58 [.int .i64 v, .int .i64 l, .int .i64 m] [(0, .stop)]
noncomputable def rnx_S (v l m : Int) (y0 : Int) (j : Nat → Value) : St := ((rnx_hd v l m).s.updF [(7, .int .i64 y0), (12, j 12), (13, j 13), (14, j 14), (15, j 15), (16, j 16), (17, j 17), (18, j 18), (19, j 19)] [])
theorem rnx_p0 (v l m : Int) (h1 : 0 ≤ v ∧ v ≤ 20 ∧ 1 ≤ m ∧ m ≤ 20) (y0 : Int) (j : Nat → Value) (hi : (decide (y0 ≤ 21)) = true) (hq0 : (decide (y0 > (0 : Int))) = true) (hq1 : (decide (rtri_c0 y0 ≤ l)) = true) : bodyF Try.prog ([] : Vars).length tabT 3000 (rnx_hd v l m) (rnx_S v l m y0  j) [(0, .b 1), (2, .b 1)] = some (.ret, bodySt (bodyF Try.prog ([] : Vars).length tabT 3000 (rnx_hd v l m) (rnx_S v l m y0  j) [(0, .b 1), (2, .b 1)]), [(decide (rtri_c0 y0 ≤ l)) = true, (decide (y0 > (0 : Int))) = true]) := by kernel_rfl
noncomputable def rnx_J1 (v l m : Int) (y0 : Int) (j : Nat → Value) : Nat → Value := jOf (bodySt (bodyF Try.prog ([] : Vars).length tabT 3000 (rnx_hd v l m) (rnx_S v l m y0  j) [(0, .b 1), (2, .b 0)]))
theorem rnx_p1 (v l m : Int) (h1 : 0 ≤ v ∧ v ≤ 20 ∧ 1 ≤ m ∧ m ≤ 20) (y0 : Int) (j : Nat → Value) (hi : (decide (y0 ≤ 21)) = true) (hq0 : (decide (y0 > (0 : Int))) = true) (hq1 : (decide (rtri_c0 y0 ≤ l)) = false) : bodyF Try.prog ([] : Vars).length tabT 3000 (rnx_hd v l m) (rnx_S v l m y0  j) [(0, .b 1), (2, .b 0)] = some (.normal, (rnx_S v l m (IntKind.i64.wrap (y0 - (1 : Int))) (rnx_J1 v l m y0 j)), [(decide (rtri_c0 y0 ≤ l)) = false, (decide (y0 > (0 : Int))) = true]) := by kernel_rfl
theorem rnx_p2 (v l m : Int) (h1 : 0 ≤ v ∧ v ≤ 20 ∧ 1 ≤ m ∧ m ≤ 20) (y0 : Int) (j : Nat → Value) (hi : (decide (y0 ≤ 21)) = true) (hq0 : (decide (y0 > (0 : Int))) = false) : bodyF Try.prog ([] : Vars).length tabT 3000 (rnx_hd v l m) (rnx_S v l m y0  j) [(0, .b 0)] = some (.exit 0, bodySt (bodyF Try.prog ([] : Vars).length tabT 3000 (rnx_hd v l m) (rnx_S v l m y0  j) [(0, .b 0)]), [(decide (y0 > (0 : Int))) = false]) := by kernel_rfl
def rnx_X : Nat → VX
  | 0 => .ret
  | 1 => .exit 0
  | _ => .normal
noncomputable def rnx_E (kE : Nat) (v l m : Int) (y0 : Int) (j : Nat → Value) : St := match kE with
  | 0 => bodySt (bodyF Try.prog ([] : Vars).length tabT 3000 (rnx_hd v l m) (rnx_S v l m y0  j) [(0, .b 1), (2, .b 1)])
  | 1 => bodySt (bodyF Try.prog ([] : Vars).length tabT 3000 (rnx_hd v l m) (rnx_S v l m y0  j) [(0, .b 0)])
  | _ => (rnx_hd v l m).s
noncomputable def rnx_f (v l m : Int) : Nat → Int → Option (Nat × (Int))
  | 0, _ => none
  | fu + 1, y0 => (bif (decide (y0 ≤ 21)) then (bif (decide (y0 > (0 : Int))) then (bif (decide (rtri_c0 y0 ≤ l)) then some (0, y0) else rnx_f v l m fu (IntKind.i64.wrap (y0 - (1 : Int)))) else some (1, y0)) else none)
theorem rnx_fs (v l m : Int) (fu : Nat) (y0 : Int) : rnx_f v l m (fu + 1) y0 = (bif (decide (y0 ≤ 21)) then (bif (decide (y0 > (0 : Int))) then (bif (decide (rtri_c0 y0 ≤ l)) then some (0, y0) else rnx_f v l m fu (IntKind.i64.wrap (y0 - (1 : Int)))) else some (1, y0)) else none) := rfl
theorem rnx_f0 (v l m : Int) (y0 : Int) : rnx_f v l m 0 y0 = none := rfl
theorem rnx_loop (v l m : Int) (h1 : 0 ≤ v ∧ v ≤ 20 ∧ 1 ≤ m ∧ m ≤ 20) : ∀ (fu : Nat) (y0 : Int) (j : Nat → Value) (kk : Nat) (zz : Int), rnx_f v l m fu y0 = some (kk, zz) → ∃ j', LoopRes Try.prog ([] : Vars).length tabT (rnx_hd v l m).ro (rnx_hd v l m).a (rnx_S v l m y0  j) (rnx_X kk) (rnx_E kk v l m zz j')
  | 0, y0, j, kk, zz, hf => by cases (rnx_f0 v l m y0 ).symm.trans hf
  | fu + 1, y0, j, kk, zz, hf => by
    have ih := rnx_loop v l m h1 fu
    have hf := (rnx_fs v l m fu y0 ).symm.trans hf
    rcases bif_or hf with ⟨hi, hf⟩ | ⟨hi, hf⟩
    case inr => cases hf
    rcases bif_or hf with ⟨hq0, hf⟩ | ⟨hq0, hf⟩
    ·
      rcases bif_or hf with ⟨hq1, hf⟩ | ⟨hq1, hf⟩
      ·
        injection hf with hf; injection hf with e1 e2; subst e1; subst e2; exact ⟨j, loop_ret (body_res (rnx_p0 v l m h1 y0 j hi  hq0 hq1)) ⟨hq1, hq0, trivial⟩⟩
      ·
        obtain ⟨j', hj⟩ := ih (IntKind.i64.wrap (y0 - (1 : Int))) (rnx_J1 v l m y0 j) kk zz hf; exact ⟨j', loop_next (body_res (rnx_p1 v l m h1 y0 j hi  hq0 hq1)) ⟨hq1, hq0, trivial⟩ hj⟩
    ·
      injection hf with hf; injection hf with e1 e2; subst e1; subst e2; exact ⟨j, loop_exit (body_res (rnx_p2 v l m h1 y0 j hi  hq0)) ⟨hq0, trivial⟩⟩
theorem rnx_run (v l m : Int) (h1 : 0 ≤ v ∧ v ≤ 20 ∧ 1 ≤ m ∧ m ≤ 20) (fu kk : Nat) (zz : Int) (hf : rnx_f v l m fu (if m < IntKind.i64.wrap (v + (1 : Int)) then m else IntKind.i64.wrap (v + (1 : Int))) = some (kk, zz)) : ∃ j', LoopRes Try.prog ([] : Vars).length tabT (rnx_hd v l m).ro (rnx_hd v l m).a (rnx_hd v l m).s (rnx_X kk) (rnx_E kk v l m zz j') := by
  have e : (rnx_hd v l m).s = (rnx_S v l m (if m < IntKind.i64.wrap (v + (1 : Int)) then m else IntKind.i64.wrap (v + (1 : Int))) noJ) := by kernel_rfl
  rw [e]
  exact rnx_loop v l m h1 fu (if m < IntKind.i64.wrap (v + (1 : Int)) then m else IntKind.i64.wrap (v + (1 : Int))) noJ kk zz hf

noncomputable def rnxK_c0 (v l m : Int) (rnx_z0 : Int) (rnx_j : Nat → Value) : Int := (rnx_z0)
theorem rnxK_p0 (v l m : Int) (rnx_z0 : Int) (rnx_j : Nat → Value)  (rnx_l : LoopRes Try.prog ([] : Vars).length tabT (rnx_hd v l m).ro (rnx_hd v l m).a (rnx_hd v l m).s (rnx_X 0) (rnx_E 0 v l m rnx_z0 rnx_j)) : Known Try.prog [] 58 [.int .i64 v, .int .i64 l, .int .i64 m] (.int .i64 (rnx_z0)) :=
  open_res mix tabT_ok (T := tabT) (fuel := 3000) (ans := [(0, .loop (rnx_X 0) (rnx_E 0 v l m rnx_z0 rnx_j)), ]) (log := [LoopRes Try.prog ([] : Vars).length tabT (rnx_hd v l m).ro (rnx_hd v l m).a (rnx_hd v l m).s (rnx_X 0) (rnx_E 0 v l m rnx_z0 rnx_j)]) (by kernel_rfl) ⟨rnx_l, trivial⟩ (by kernel_rfl)
set_option maxHeartbeats 8000000 in
theorem rnxK (v l m : Int) (rnx_z0 : Int) (rnx_j : Nat → Value)  (rnx_l : LoopRes Try.prog ([] : Vars).length tabT (rnx_hd v l m).ro (rnx_hd v l m).a (rnx_hd v l m).s (rnx_X 0) (rnx_E 0 v l m rnx_z0 rnx_j)) : Known Try.prog [] 58 [.int .i64 v, .int .i64 l, .int .i64 m] (.int .i64 (rnxK_c0 v l m rnx_z0 rnx_j)) := by
  have e0 : rnxK_c0 v l m rnx_z0 rnx_j = (rnx_z0) := rfl; rw [e0]; exact rnxK_p0 v l m rnx_z0 rnx_j rnx_l

theorem rnxZ_p0 (v l m : Int) (rnx_z0 : Int) (rnx_j : Nat → Value)  (rnx_l : LoopRes Try.prog ([] : Vars).length tabT (rnx_hd v l m).ro (rnx_hd v l m).a (rnx_hd v l m).s (rnx_X 1) (rnx_E 1 v l m rnx_z0 rnx_j)) : Known Try.prog [] 58 [.int .i64 v, .int .i64 l, .int .i64 m] (.int .i64 ((0 : Int))) :=
  open_res mix tabT_ok (T := tabT) (fuel := 3000) (ans := [(0, .loop (rnx_X 1) (rnx_E 1 v l m rnx_z0 rnx_j)), ]) (log := [LoopRes Try.prog ([] : Vars).length tabT (rnx_hd v l m).ro (rnx_hd v l m).a (rnx_hd v l m).s (rnx_X 1) (rnx_E 1 v l m rnx_z0 rnx_j)]) (by kernel_rfl) ⟨rnx_l, trivial⟩ (by kernel_rfl)
set_option maxHeartbeats 8000000 in
theorem rnxZ (v l m : Int) (rnx_z0 : Int) (rnx_j : Nat → Value)  (rnx_l : LoopRes Try.prog ([] : Vars).length tabT (rnx_hd v l m).ro (rnx_hd v l m).a (rnx_hd v l m).s (rnx_X 1) (rnx_E 1 v l m rnx_z0 rnx_j)) : Known Try.prog [] 58 [.int .i64 v, .int .i64 l, .int .i64 m] (.int .i64 ((0 : Int))) := by
  exact rnxZ_p0 v l m rnx_z0 rnx_j rnx_l

end Go.Proofs.Ytkmooakeilkdiaa
