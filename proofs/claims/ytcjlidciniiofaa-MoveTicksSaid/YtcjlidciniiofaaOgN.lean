/- Layer 8: the next speed, in the program and in the reference. -/
import Derived.Test.YtcjlidciniiofaaPR
import Derived.Test.YtcjlidciniiofaaLU
import Derived.Test.YtcjlidciniiofaaProg
import Derived.ProofKit
import Derived.IntWalk
namespace Go.Proofs.Ytcjlidciniiofaa
open Go Go.RowKit
set_option linter.unusedVariables false
set_option linter.unusedSimpArgs false
set_option linter.unnecessarySimpa false
set_option maxHeartbeats 8000000
set_option maxRecDepth 100000
noncomputable def ptri_c0 (v : Int) : Int := (IntKind.i64.wrap ((IntKind.i64.wrap (v * IntKind.i64.wrap (v + (1 : Int)))).tdiv (2 : Int)))
theorem ptri_p0 (v : Int)  : Known Try.prog [] 77 [.int .i64 v] (.int .i64 (IntKind.i64.wrap ((IntKind.i64.wrap (v * IntKind.i64.wrap (v + (1 : Int)))).tdiv (2 : Int)))) :=
  open_res mix GOk.none (T := GTab.none) (fuel := 3000) (ans := []) (log := []) (by kernel_rfl) trivial (by kernel_rfl)
set_option maxHeartbeats 8000000 in
theorem ptri (v : Int)  : Known Try.prog [] 77 [.int .i64 v] (.int .i64 (ptri_c0 v)) := by
  have e0 : ptri_c0 v = (IntKind.i64.wrap ((IntKind.i64.wrap (v * IntKind.i64.wrap (v + (1 : Int)))).tdiv (2 : Int))) := rfl; rw [e0]; exact ptri_p0 v
noncomputable def ptri_k : List Value → Option Value
  | [.int .i64 v] => some (.int .i64 (ptri_c0 v))
  | _ => none
theorem ptri_ok : ∀ args v, ptri_k args = some v → Known Try.prog [] 77 args v := by
  intro args v h
  unfold ptri_k at h
  split at h
  · injection h with h; subst h; exact ptri _
  · cases h

noncomputable def rtri_c0 (v : Int) : Int := (IntKind.i64.wrap ((IntKind.i64.wrap (v * IntKind.i64.wrap (v + (1 : Int)))).tdiv (2 : Int)))
theorem rtri_p0 (v : Int)  : Known Try.prog [] 68 [.int .i64 v] (.int .i64 (IntKind.i64.wrap ((IntKind.i64.wrap (v * IntKind.i64.wrap (v + (1 : Int)))).tdiv (2 : Int)))) :=
  open_res mix GOk.none (T := GTab.none) (fuel := 3000) (ans := []) (log := []) (by kernel_rfl) trivial (by kernel_rfl)
set_option maxHeartbeats 8000000 in
theorem rtri (v : Int)  : Known Try.prog [] 68 [.int .i64 v] (.int .i64 (rtri_c0 v)) := by
  have e0 : rtri_c0 v = (IntKind.i64.wrap ((IntKind.i64.wrap (v * IntKind.i64.wrap (v + (1 : Int)))).tdiv (2 : Int))) := rfl; rw [e0]; exact rtri_p0 v
noncomputable def rtri_k : List Value → Option Value
  | [.int .i64 v] => some (.int .i64 (rtri_c0 v))
  | _ => none
theorem rtri_ok : ∀ args v, rtri_k args = some v → Known Try.prog [] 68 args v := by
  intro args v h
  unfold rtri_k at h
  split at h
  · injection h with h; subst h; exact rtri _
  · cases h

theorem tri_le {v : Int} (h0 : 0 ≤ v) (h : v ≤ 21) : 0 ≤ v * (v + 1) ∧ v * (v + 1) ≤ 462 := by
  have e : v * (v + 1) = v * v + v := by rw [Int.mul_add, Int.mul_one]
  have := sq_bound h0 h; omega
theorem tri_w {v : Int} (h0 : 0 ≤ v) (h : v ≤ 21) : IntKind.i64.wrap ((IntKind.i64.wrap (v * IntKind.i64.wrap (v + 1))).tdiv 2) = rT v := by
  have b := tri_le h0 h
  unfold rT
  rw [w8 (v := v + 1) (by omega), w8 (v := v * (v + 1)) (by omega), Int.tdiv_eq_ediv_of_nonneg b.1, w8 (by omega)]
theorem qPt (v : Int) (hg : (decide (0 ≤ v ∧ v ≤ 21)) = true) : Known Try.prog [] 77 [.int .i64 v] (.int .i64 (rT v)) := by have h := of_decide_eq_true hg; have k := ptri v; rw [show ptri_c0 v = rT v from tri_w h.1 h.2] at k; exact k
noncomputable def qPt_k : List Value → Option (Bool × Value)
  | [.int .i64 v] => some (decide (0 ≤ v ∧ v ≤ 21), .int .i64 (rT v))
  | _ => none
theorem qPt_ok : ∀ args v, qPt_k args = some (true, v) → Known Try.prog [] 77 args v := by
  intro args v h
  unfold qPt_k at h
  split at h
  · injection h with h; injection h with hg h; subst h; exact qPt _ hg
  · cases h
theorem qRt (v : Int) (hg : (decide (0 ≤ v ∧ v ≤ 21)) = true) : Known Try.prog [] 68 [.int .i64 v] (.int .i64 (rT v)) := by have h := of_decide_eq_true hg; have k := rtri v; rw [show rtri_c0 v = rT v from tri_w h.1 h.2] at k; exact k
noncomputable def qRt_k : List Value → Option (Bool × Value)
  | [.int .i64 v] => some (decide (0 ≤ v ∧ v ≤ 21), .int .i64 (rT v))
  | _ => none
theorem qRt_ok : ∀ args v, qRt_k args = some (true, v) → Known Try.prog [] 68 args v := by
  intro args v h
  unfold qRt_k at h
  split at h
  · injection h with h; injection h with hg h; subst h; exact qRt _ hg
  · cases h
noncomputable def tabA : GTab := (GTab.fn 77 qPt_k (GTab.fn 68 qRt_k GTab.none))
theorem tabA_ok : GOk Try.prog [] tabA := (GOk.fn qPt_ok (GOk.fn qRt_ok GOk.none))
noncomputable def pFa_b2 (v l m : Int) : Bool := decide ((0 : Int) ≤ IntKind.i64.wrap (v + (1 : Int)) ∧ IntKind.i64.wrap (v + (1 : Int)) ≤ (21 : Int))
noncomputable def pFa_b10 (v l m : Int) : Bool := decide ((0 : Int) ≤ IntKind.i64.wrap (v - (1 : Int)) ∧ IntKind.i64.wrap (v - (1 : Int)) ≤ (21 : Int))
noncomputable def pFa_c0 (v l m : Int) : Int := (bif (decide (IntKind.i64.wrap (v + (1 : Int)) ≤ m)) then (bif (decide (rT (IntKind.i64.wrap (v + (1 : Int))) ≤ l)) then (IntKind.i64.wrap (v + (1 : Int))) else (bif (decide (rT v ≤ l)) then (v) else (bif (decide (IntKind.i64.wrap (v - (1 : Int)) < (0 : Int))) then ((-1 : Int)) else (bif (decide (rT (IntKind.i64.wrap (v - (1 : Int))) ≤ l)) then (IntKind.i64.wrap (v - (1 : Int))) else ((-1 : Int)))))) else (bif (decide (rT v ≤ l)) then (v) else (bif (decide (rT (IntKind.i64.wrap (v - (1 : Int))) ≤ l)) then (IntKind.i64.wrap (v - (1 : Int))) else ((-1 : Int)))))
theorem pFa_p0 (v l m : Int) (h1 : 0 ≤ v ∧ v ≤ m ∧ 1 ≤ m ∧ m ≤ 20) (h2 : 1 ≤ l ∧ l ≤ 63000) (hq0 : (decide (IntKind.i64.wrap (v + (1 : Int)) < (0 : Int))) = false) (hq1 : (decide (IntKind.i64.wrap (v + (1 : Int)) ≤ m)) = true) (hq2 : (pFa_b2 v l m) = true) (hq3 : (decide (rT (IntKind.i64.wrap (v + (1 : Int))) ≤ l)) = true) : Known Try.prog [] 76 [.int .i64 v, .int .i64 l, .int .i64 m] (.int .i64 (IntKind.i64.wrap (v + (1 : Int)))) :=
  open_res mix tabA_ok (T := tabA) (fuel := 3000) (ans := [(3, .b 0), (4, .b 1), (6, .b 1), (10, .b 1)]) (log := [(decide (rT (IntKind.i64.wrap (v + (1 : Int))) ≤ l)) = true, (pFa_b2 v l m) = true, (decide (IntKind.i64.wrap (v + (1 : Int)) ≤ m)) = true, (decide (IntKind.i64.wrap (v + (1 : Int)) < (0 : Int))) = false]) (by kernel_rfl) ⟨hq3, hq2, hq1, hq0, trivial⟩ (by kernel_rfl)
theorem pFa_p1 (v l m : Int) (h1 : 0 ≤ v ∧ v ≤ m ∧ 1 ≤ m ∧ m ≤ 20) (h2 : 1 ≤ l ∧ l ≤ 63000) (hq0 : (decide (IntKind.i64.wrap (v + (1 : Int)) < (0 : Int))) = false) (hq1 : (decide (IntKind.i64.wrap (v + (1 : Int)) ≤ m)) = true) (hq2 : (pFa_b2 v l m) = true) (hq3 : (decide (rT (IntKind.i64.wrap (v + (1 : Int))) ≤ l)) = false) (hq4 : (decide (v < (0 : Int))) = false) (hq5 : (decide (v ≤ m)) = true) (hq6 : (decide ((0 : Int) ≤ v ∧ v ≤ (21 : Int))) = true) (hq7 : (decide (rT v ≤ l)) = true) : Known Try.prog [] 76 [.int .i64 v, .int .i64 l, .int .i64 m] (.int .i64 (v)) :=
  open_res mix tabA_ok (T := tabA) (fuel := 3000) (ans := [(3, .b 0), (4, .b 1), (6, .b 1), (10, .b 0), (14, .b 0), (15, .b 1), (17, .b 1), (21, .b 1)]) (log := [(decide (rT v ≤ l)) = true, (decide ((0 : Int) ≤ v ∧ v ≤ (21 : Int))) = true, (decide (v ≤ m)) = true, (decide (v < (0 : Int))) = false, (decide (rT (IntKind.i64.wrap (v + (1 : Int))) ≤ l)) = false, (pFa_b2 v l m) = true, (decide (IntKind.i64.wrap (v + (1 : Int)) ≤ m)) = true, (decide (IntKind.i64.wrap (v + (1 : Int)) < (0 : Int))) = false]) (by kernel_rfl) ⟨hq7, hq6, hq5, hq4, hq3, hq2, hq1, hq0, trivial⟩ (by kernel_rfl)
theorem pFa_p2 (v l m : Int) (h1 : 0 ≤ v ∧ v ≤ m ∧ 1 ≤ m ∧ m ≤ 20) (h2 : 1 ≤ l ∧ l ≤ 63000) (hq0 : (decide (IntKind.i64.wrap (v + (1 : Int)) < (0 : Int))) = false) (hq1 : (decide (IntKind.i64.wrap (v + (1 : Int)) ≤ m)) = true) (hq2 : (pFa_b2 v l m) = true) (hq3 : (decide (rT (IntKind.i64.wrap (v + (1 : Int))) ≤ l)) = false) (hq4 : (decide (v < (0 : Int))) = false) (hq5 : (decide (v ≤ m)) = true) (hq6 : (decide ((0 : Int) ≤ v ∧ v ≤ (21 : Int))) = true) (hq7 : (decide (rT v ≤ l)) = false) (hq8 : (decide (IntKind.i64.wrap (v - (1 : Int)) < (0 : Int))) = true) : Known Try.prog [] 76 [.int .i64 v, .int .i64 l, .int .i64 m] (.int .i64 ((-1 : Int))) :=
  open_res mix tabA_ok (T := tabA) (fuel := 3000) (ans := [(3, .b 0), (4, .b 1), (6, .b 1), (10, .b 0), (14, .b 0), (15, .b 1), (17, .b 1), (21, .b 0), (25, .b 1)]) (log := [(decide (IntKind.i64.wrap (v - (1 : Int)) < (0 : Int))) = true, (decide (rT v ≤ l)) = false, (decide ((0 : Int) ≤ v ∧ v ≤ (21 : Int))) = true, (decide (v ≤ m)) = true, (decide (v < (0 : Int))) = false, (decide (rT (IntKind.i64.wrap (v + (1 : Int))) ≤ l)) = false, (pFa_b2 v l m) = true, (decide (IntKind.i64.wrap (v + (1 : Int)) ≤ m)) = true, (decide (IntKind.i64.wrap (v + (1 : Int)) < (0 : Int))) = false]) (by kernel_rfl) ⟨hq8, hq7, hq6, hq5, hq4, hq3, hq2, hq1, hq0, trivial⟩ (by kernel_rfl)
theorem pFa_p3 (v l m : Int) (h1 : 0 ≤ v ∧ v ≤ m ∧ 1 ≤ m ∧ m ≤ 20) (h2 : 1 ≤ l ∧ l ≤ 63000) (hq0 : (decide (IntKind.i64.wrap (v + (1 : Int)) < (0 : Int))) = false) (hq1 : (decide (IntKind.i64.wrap (v + (1 : Int)) ≤ m)) = true) (hq2 : (pFa_b2 v l m) = true) (hq3 : (decide (rT (IntKind.i64.wrap (v + (1 : Int))) ≤ l)) = false) (hq4 : (decide (v < (0 : Int))) = false) (hq5 : (decide (v ≤ m)) = true) (hq6 : (decide ((0 : Int) ≤ v ∧ v ≤ (21 : Int))) = true) (hq7 : (decide (rT v ≤ l)) = false) (hq8 : (decide (IntKind.i64.wrap (v - (1 : Int)) < (0 : Int))) = false) (hq9 : (decide (IntKind.i64.wrap (v - (1 : Int)) ≤ m)) = true) (hq10 : (pFa_b10 v l m) = true) (hq11 : (decide (rT (IntKind.i64.wrap (v - (1 : Int))) ≤ l)) = true) : Known Try.prog [] 76 [.int .i64 v, .int .i64 l, .int .i64 m] (.int .i64 (IntKind.i64.wrap (v - (1 : Int)))) :=
  open_res mix tabA_ok (T := tabA) (fuel := 3000) (ans := [(3, .b 0), (4, .b 1), (6, .b 1), (10, .b 0), (14, .b 0), (15, .b 1), (17, .b 1), (21, .b 0), (25, .b 0), (26, .b 1), (28, .b 1), (32, .b 1)]) (log := [(decide (rT (IntKind.i64.wrap (v - (1 : Int))) ≤ l)) = true, (pFa_b10 v l m) = true, (decide (IntKind.i64.wrap (v - (1 : Int)) ≤ m)) = true, (decide (IntKind.i64.wrap (v - (1 : Int)) < (0 : Int))) = false, (decide (rT v ≤ l)) = false, (decide ((0 : Int) ≤ v ∧ v ≤ (21 : Int))) = true, (decide (v ≤ m)) = true, (decide (v < (0 : Int))) = false, (decide (rT (IntKind.i64.wrap (v + (1 : Int))) ≤ l)) = false, (pFa_b2 v l m) = true, (decide (IntKind.i64.wrap (v + (1 : Int)) ≤ m)) = true, (decide (IntKind.i64.wrap (v + (1 : Int)) < (0 : Int))) = false]) (by kernel_rfl) ⟨hq11, hq10, hq9, hq8, hq7, hq6, hq5, hq4, hq3, hq2, hq1, hq0, trivial⟩ (by kernel_rfl)
theorem pFa_p4 (v l m : Int) (h1 : 0 ≤ v ∧ v ≤ m ∧ 1 ≤ m ∧ m ≤ 20) (h2 : 1 ≤ l ∧ l ≤ 63000) (hq0 : (decide (IntKind.i64.wrap (v + (1 : Int)) < (0 : Int))) = false) (hq1 : (decide (IntKind.i64.wrap (v + (1 : Int)) ≤ m)) = true) (hq2 : (pFa_b2 v l m) = true) (hq3 : (decide (rT (IntKind.i64.wrap (v + (1 : Int))) ≤ l)) = false) (hq4 : (decide (v < (0 : Int))) = false) (hq5 : (decide (v ≤ m)) = true) (hq6 : (decide ((0 : Int) ≤ v ∧ v ≤ (21 : Int))) = true) (hq7 : (decide (rT v ≤ l)) = false) (hq8 : (decide (IntKind.i64.wrap (v - (1 : Int)) < (0 : Int))) = false) (hq9 : (decide (IntKind.i64.wrap (v - (1 : Int)) ≤ m)) = true) (hq10 : (pFa_b10 v l m) = true) (hq11 : (decide (rT (IntKind.i64.wrap (v - (1 : Int))) ≤ l)) = false) : Known Try.prog [] 76 [.int .i64 v, .int .i64 l, .int .i64 m] (.int .i64 ((-1 : Int))) :=
  open_res mix tabA_ok (T := tabA) (fuel := 3000) (ans := [(3, .b 0), (4, .b 1), (6, .b 1), (10, .b 0), (14, .b 0), (15, .b 1), (17, .b 1), (21, .b 0), (25, .b 0), (26, .b 1), (28, .b 1), (32, .b 0)]) (log := [(decide (rT (IntKind.i64.wrap (v - (1 : Int))) ≤ l)) = false, (pFa_b10 v l m) = true, (decide (IntKind.i64.wrap (v - (1 : Int)) ≤ m)) = true, (decide (IntKind.i64.wrap (v - (1 : Int)) < (0 : Int))) = false, (decide (rT v ≤ l)) = false, (decide ((0 : Int) ≤ v ∧ v ≤ (21 : Int))) = true, (decide (v ≤ m)) = true, (decide (v < (0 : Int))) = false, (decide (rT (IntKind.i64.wrap (v + (1 : Int))) ≤ l)) = false, (pFa_b2 v l m) = true, (decide (IntKind.i64.wrap (v + (1 : Int)) ≤ m)) = true, (decide (IntKind.i64.wrap (v + (1 : Int)) < (0 : Int))) = false]) (by kernel_rfl) ⟨hq11, hq10, hq9, hq8, hq7, hq6, hq5, hq4, hq3, hq2, hq1, hq0, trivial⟩ (by kernel_rfl)
theorem pFa_p5 (v l m : Int) (h1 : 0 ≤ v ∧ v ≤ m ∧ 1 ≤ m ∧ m ≤ 20) (h2 : 1 ≤ l ∧ l ≤ 63000) (hq0 : (decide (IntKind.i64.wrap (v + (1 : Int)) < (0 : Int))) = false) (hq1 : (decide (IntKind.i64.wrap (v + (1 : Int)) ≤ m)) = false) (hq4 : (decide (v < (0 : Int))) = false) (hq5 : (decide (v ≤ m)) = true) (hq6 : (decide ((0 : Int) ≤ v ∧ v ≤ (21 : Int))) = true) (hq7 : (decide (rT v ≤ l)) = true) : Known Try.prog [] 76 [.int .i64 v, .int .i64 l, .int .i64 m] (.int .i64 (v)) :=
  open_res mix tabA_ok (T := tabA) (fuel := 3000) (ans := [(3, .b 0), (4, .b 0), (13, .b 0), (14, .b 1), (16, .b 1), (20, .b 1)]) (log := [(decide (rT v ≤ l)) = true, (decide ((0 : Int) ≤ v ∧ v ≤ (21 : Int))) = true, (decide (v ≤ m)) = true, (decide (v < (0 : Int))) = false, (decide (IntKind.i64.wrap (v + (1 : Int)) ≤ m)) = false, (decide (IntKind.i64.wrap (v + (1 : Int)) < (0 : Int))) = false]) (by kernel_rfl) ⟨hq7, hq6, hq5, hq4, hq1, hq0, trivial⟩ (by kernel_rfl)
theorem pFa_p6 (v l m : Int) (h1 : 0 ≤ v ∧ v ≤ m ∧ 1 ≤ m ∧ m ≤ 20) (h2 : 1 ≤ l ∧ l ≤ 63000) (hq0 : (decide (IntKind.i64.wrap (v + (1 : Int)) < (0 : Int))) = false) (hq1 : (decide (IntKind.i64.wrap (v + (1 : Int)) ≤ m)) = false) (hq4 : (decide (v < (0 : Int))) = false) (hq5 : (decide (v ≤ m)) = true) (hq6 : (decide ((0 : Int) ≤ v ∧ v ≤ (21 : Int))) = true) (hq7 : (decide (rT v ≤ l)) = false) (hq8 : (decide (IntKind.i64.wrap (v - (1 : Int)) < (0 : Int))) = false) (hq9 : (decide (IntKind.i64.wrap (v - (1 : Int)) ≤ m)) = true) (hq10 : (pFa_b10 v l m) = true) (hq11 : (decide (rT (IntKind.i64.wrap (v - (1 : Int))) ≤ l)) = true) : Known Try.prog [] 76 [.int .i64 v, .int .i64 l, .int .i64 m] (.int .i64 (IntKind.i64.wrap (v - (1 : Int)))) :=
  open_res mix tabA_ok (T := tabA) (fuel := 3000) (ans := [(3, .b 0), (4, .b 0), (13, .b 0), (14, .b 1), (16, .b 1), (20, .b 0), (24, .b 0), (25, .b 1), (27, .b 1), (31, .b 1)]) (log := [(decide (rT (IntKind.i64.wrap (v - (1 : Int))) ≤ l)) = true, (pFa_b10 v l m) = true, (decide (IntKind.i64.wrap (v - (1 : Int)) ≤ m)) = true, (decide (IntKind.i64.wrap (v - (1 : Int)) < (0 : Int))) = false, (decide (rT v ≤ l)) = false, (decide ((0 : Int) ≤ v ∧ v ≤ (21 : Int))) = true, (decide (v ≤ m)) = true, (decide (v < (0 : Int))) = false, (decide (IntKind.i64.wrap (v + (1 : Int)) ≤ m)) = false, (decide (IntKind.i64.wrap (v + (1 : Int)) < (0 : Int))) = false]) (by kernel_rfl) ⟨hq11, hq10, hq9, hq8, hq7, hq6, hq5, hq4, hq1, hq0, trivial⟩ (by kernel_rfl)
theorem pFa_p7 (v l m : Int) (h1 : 0 ≤ v ∧ v ≤ m ∧ 1 ≤ m ∧ m ≤ 20) (h2 : 1 ≤ l ∧ l ≤ 63000) (hq0 : (decide (IntKind.i64.wrap (v + (1 : Int)) < (0 : Int))) = false) (hq1 : (decide (IntKind.i64.wrap (v + (1 : Int)) ≤ m)) = false) (hq4 : (decide (v < (0 : Int))) = false) (hq5 : (decide (v ≤ m)) = true) (hq6 : (decide ((0 : Int) ≤ v ∧ v ≤ (21 : Int))) = true) (hq7 : (decide (rT v ≤ l)) = false) (hq8 : (decide (IntKind.i64.wrap (v - (1 : Int)) < (0 : Int))) = false) (hq9 : (decide (IntKind.i64.wrap (v - (1 : Int)) ≤ m)) = true) (hq10 : (pFa_b10 v l m) = true) (hq11 : (decide (rT (IntKind.i64.wrap (v - (1 : Int))) ≤ l)) = false) : Known Try.prog [] 76 [.int .i64 v, .int .i64 l, .int .i64 m] (.int .i64 ((-1 : Int))) :=
  open_res mix tabA_ok (T := tabA) (fuel := 3000) (ans := [(3, .b 0), (4, .b 0), (13, .b 0), (14, .b 1), (16, .b 1), (20, .b 0), (24, .b 0), (25, .b 1), (27, .b 1), (31, .b 0)]) (log := [(decide (rT (IntKind.i64.wrap (v - (1 : Int))) ≤ l)) = false, (pFa_b10 v l m) = true, (decide (IntKind.i64.wrap (v - (1 : Int)) ≤ m)) = true, (decide (IntKind.i64.wrap (v - (1 : Int)) < (0 : Int))) = false, (decide (rT v ≤ l)) = false, (decide ((0 : Int) ≤ v ∧ v ≤ (21 : Int))) = true, (decide (v ≤ m)) = true, (decide (v < (0 : Int))) = false, (decide (IntKind.i64.wrap (v + (1 : Int)) ≤ m)) = false, (decide (IntKind.i64.wrap (v + (1 : Int)) < (0 : Int))) = false]) (by kernel_rfl) ⟨hq11, hq10, hq9, hq8, hq7, hq6, hq5, hq4, hq1, hq0, trivial⟩ (by kernel_rfl)
set_option maxHeartbeats 8000000 in
theorem pFa (v l m : Int) (h1 : 0 ≤ v ∧ v ≤ m ∧ 1 ≤ m ∧ m ≤ 20) (h2 : 1 ≤ l ∧ l ≤ 63000) : Known Try.prog [] 76 [.int .i64 v, .int .i64 l, .int .i64 m] (.int .i64 (pFa_c0 v l m)) := by
  have hq0 : (decide (IntKind.i64.wrap (v + (1 : Int)) < (0 : Int))) = false := by
    rcases Bool.eq_false_or_eq_true (decide (IntKind.i64.wrap (v + (1 : Int)) < (0 : Int))) with h | h
    · exfalso; (try simp only [pFa_b2, pFa_b10] at *); (first | (simp_all only [Bool.and_eq_true, Bool.not_eq_true', Bool.false_eq_true, Bool.true_eq_false, reduceCtorEq]; done) | (simp only [sx, sy, eq_self, ne_eq, IntKind.wrap_i64, wrapU64, Int.reduceLT] at * <;> first | contradiction | omega) | omega | ((try simp only [sx, sy, eq_self, ne_eq, IntKind.wrap_i64, wrapU64, Int.reduceLT] at *) <;> omega) | (simp_all; done))
    · exact h
  rcases Bool.eq_false_or_eq_true (decide (IntKind.i64.wrap (v + (1 : Int)) ≤ m)) with hq1 | hq1
  ·
    have hq2 : (pFa_b2 v l m) = true := by
      rcases Bool.eq_false_or_eq_true (pFa_b2 v l m) with h | h
      · exact h
      · exfalso; (try simp only [pFa_b2, pFa_b10] at *); (first | (simp_all only [Bool.and_eq_true, Bool.not_eq_true', Bool.false_eq_true, Bool.true_eq_false, reduceCtorEq]; done) | (simp only [sx, sy, eq_self, ne_eq, IntKind.wrap_i64, wrapU64, Int.reduceLT] at * <;> first | contradiction | omega) | omega | ((try simp only [sx, sy, eq_self, ne_eq, IntKind.wrap_i64, wrapU64, Int.reduceLT] at *) <;> omega) | (simp_all; done))
    rcases Bool.eq_false_or_eq_true (decide (rT (IntKind.i64.wrap (v + (1 : Int))) ≤ l)) with hq3 | hq3
    ·
      have e0 : pFa_c0 v l m = (IntKind.i64.wrap (v + (1 : Int))) := ((bif_t hq1 _ _).trans ((bif_t hq3 _ _).trans rfl)); rw [e0]; exact pFa_p0 v l m h1 h2 hq0 hq1 hq2 hq3
    ·
      have hq4 : (decide (v < (0 : Int))) = false := by
        rcases Bool.eq_false_or_eq_true (decide (v < (0 : Int))) with h | h
        · exfalso; (try simp only [pFa_b2, pFa_b10] at *); (first | (simp_all only [Bool.and_eq_true, Bool.not_eq_true', Bool.false_eq_true, Bool.true_eq_false, reduceCtorEq]; done) | (simp only [sx, sy, eq_self, ne_eq, IntKind.wrap_i64, wrapU64, Int.reduceLT] at * <;> first | contradiction | omega) | omega | ((try simp only [sx, sy, eq_self, ne_eq, IntKind.wrap_i64, wrapU64, Int.reduceLT] at *) <;> omega) | (simp_all; done))
        · exact h
      have hq5 : (decide (v ≤ m)) = true := by
        rcases Bool.eq_false_or_eq_true (decide (v ≤ m)) with h | h
        · exact h
        · exfalso; (try simp only [pFa_b2, pFa_b10] at *); (first | (simp_all only [Bool.and_eq_true, Bool.not_eq_true', Bool.false_eq_true, Bool.true_eq_false, reduceCtorEq]; done) | (simp only [sx, sy, eq_self, ne_eq, IntKind.wrap_i64, wrapU64, Int.reduceLT] at * <;> first | contradiction | omega) | omega | ((try simp only [sx, sy, eq_self, ne_eq, IntKind.wrap_i64, wrapU64, Int.reduceLT] at *) <;> omega) | (simp_all; done))
      have hq6 : (decide ((0 : Int) ≤ v ∧ v ≤ (21 : Int))) = true := by
        rcases Bool.eq_false_or_eq_true (decide ((0 : Int) ≤ v ∧ v ≤ (21 : Int))) with h | h
        · exact h
        · exfalso; (try simp only [pFa_b2, pFa_b10] at *); (first | (simp_all only [Bool.and_eq_true, Bool.not_eq_true', Bool.false_eq_true, Bool.true_eq_false, reduceCtorEq]; done) | (simp only [sx, sy, eq_self, ne_eq, IntKind.wrap_i64, wrapU64, Int.reduceLT] at * <;> first | contradiction | omega) | omega | ((try simp only [sx, sy, eq_self, ne_eq, IntKind.wrap_i64, wrapU64, Int.reduceLT] at *) <;> omega) | (simp_all; done))
      rcases Bool.eq_false_or_eq_true (decide (rT v ≤ l)) with hq7 | hq7
      ·
        have e0 : pFa_c0 v l m = (v) := ((bif_t hq1 _ _).trans ((bif_f hq3 _ _).trans ((bif_t hq7 _ _).trans rfl))); rw [e0]; exact pFa_p1 v l m h1 h2 hq0 hq1 hq2 hq3 hq4 hq5 hq6 hq7
      ·
        rcases Bool.eq_false_or_eq_true (decide (IntKind.i64.wrap (v - (1 : Int)) < (0 : Int))) with hq8 | hq8
        ·
          have e0 : pFa_c0 v l m = ((-1 : Int)) := ((bif_t hq1 _ _).trans ((bif_f hq3 _ _).trans ((bif_f hq7 _ _).trans ((bif_t hq8 _ _).trans rfl)))); rw [e0]; exact pFa_p2 v l m h1 h2 hq0 hq1 hq2 hq3 hq4 hq5 hq6 hq7 hq8
        ·
          have hq9 : (decide (IntKind.i64.wrap (v - (1 : Int)) ≤ m)) = true := by
            rcases Bool.eq_false_or_eq_true (decide (IntKind.i64.wrap (v - (1 : Int)) ≤ m)) with h | h
            · exact h
            · exfalso; (try simp only [pFa_b2, pFa_b10] at *); (first | (simp_all only [Bool.and_eq_true, Bool.not_eq_true', Bool.false_eq_true, Bool.true_eq_false, reduceCtorEq]; done) | (simp only [sx, sy, eq_self, ne_eq, IntKind.wrap_i64, wrapU64, Int.reduceLT] at * <;> first | contradiction | omega) | omega | ((try simp only [sx, sy, eq_self, ne_eq, IntKind.wrap_i64, wrapU64, Int.reduceLT] at *) <;> omega) | (simp_all; done))
          have hq10 : (pFa_b10 v l m) = true := by
            rcases Bool.eq_false_or_eq_true (pFa_b10 v l m) with h | h
            · exact h
            · exfalso; (try simp only [pFa_b2, pFa_b10] at *); (first | (simp_all only [Bool.and_eq_true, Bool.not_eq_true', Bool.false_eq_true, Bool.true_eq_false, reduceCtorEq]; done) | (simp only [sx, sy, eq_self, ne_eq, IntKind.wrap_i64, wrapU64, Int.reduceLT] at * <;> first | contradiction | omega) | omega | ((try simp only [sx, sy, eq_self, ne_eq, IntKind.wrap_i64, wrapU64, Int.reduceLT] at *) <;> omega) | (simp_all; done))
          rcases Bool.eq_false_or_eq_true (decide (rT (IntKind.i64.wrap (v - (1 : Int))) ≤ l)) with hq11 | hq11
          ·
            have e0 : pFa_c0 v l m = (IntKind.i64.wrap (v - (1 : Int))) := ((bif_t hq1 _ _).trans ((bif_f hq3 _ _).trans ((bif_f hq7 _ _).trans ((bif_f hq8 _ _).trans ((bif_t hq11 _ _).trans rfl))))); rw [e0]; exact pFa_p3 v l m h1 h2 hq0 hq1 hq2 hq3 hq4 hq5 hq6 hq7 hq8 hq9 hq10 hq11
          ·
            have e0 : pFa_c0 v l m = ((-1 : Int)) := ((bif_t hq1 _ _).trans ((bif_f hq3 _ _).trans ((bif_f hq7 _ _).trans ((bif_f hq8 _ _).trans ((bif_f hq11 _ _).trans rfl))))); rw [e0]; exact pFa_p4 v l m h1 h2 hq0 hq1 hq2 hq3 hq4 hq5 hq6 hq7 hq8 hq9 hq10 hq11
  ·
    have hq4 : (decide (v < (0 : Int))) = false := by
      rcases Bool.eq_false_or_eq_true (decide (v < (0 : Int))) with h | h
      · exfalso; (try simp only [pFa_b2, pFa_b10] at *); (first | (simp_all only [Bool.and_eq_true, Bool.not_eq_true', Bool.false_eq_true, Bool.true_eq_false, reduceCtorEq]; done) | (simp only [sx, sy, eq_self, ne_eq, IntKind.wrap_i64, wrapU64, Int.reduceLT] at * <;> first | contradiction | omega) | omega | ((try simp only [sx, sy, eq_self, ne_eq, IntKind.wrap_i64, wrapU64, Int.reduceLT] at *) <;> omega) | (simp_all; done))
      · exact h
    have hq5 : (decide (v ≤ m)) = true := by
      rcases Bool.eq_false_or_eq_true (decide (v ≤ m)) with h | h
      · exact h
      · exfalso; (try simp only [pFa_b2, pFa_b10] at *); (first | (simp_all only [Bool.and_eq_true, Bool.not_eq_true', Bool.false_eq_true, Bool.true_eq_false, reduceCtorEq]; done) | (simp only [sx, sy, eq_self, ne_eq, IntKind.wrap_i64, wrapU64, Int.reduceLT] at * <;> first | contradiction | omega) | omega | ((try simp only [sx, sy, eq_self, ne_eq, IntKind.wrap_i64, wrapU64, Int.reduceLT] at *) <;> omega) | (simp_all; done))
    have hq6 : (decide ((0 : Int) ≤ v ∧ v ≤ (21 : Int))) = true := by
      rcases Bool.eq_false_or_eq_true (decide ((0 : Int) ≤ v ∧ v ≤ (21 : Int))) with h | h
      · exact h
      · exfalso; (try simp only [pFa_b2, pFa_b10] at *); (first | (simp_all only [Bool.and_eq_true, Bool.not_eq_true', Bool.false_eq_true, Bool.true_eq_false, reduceCtorEq]; done) | (simp only [sx, sy, eq_self, ne_eq, IntKind.wrap_i64, wrapU64, Int.reduceLT] at * <;> first | contradiction | omega) | omega | ((try simp only [sx, sy, eq_self, ne_eq, IntKind.wrap_i64, wrapU64, Int.reduceLT] at *) <;> omega) | (simp_all; done))
    rcases Bool.eq_false_or_eq_true (decide (rT v ≤ l)) with hq7 | hq7
    ·
      have e0 : pFa_c0 v l m = (v) := ((bif_f hq1 _ _).trans ((bif_t hq7 _ _).trans rfl)); rw [e0]; exact pFa_p5 v l m h1 h2 hq0 hq1 hq4 hq5 hq6 hq7
    ·
      have hq8 : (decide (IntKind.i64.wrap (v - (1 : Int)) < (0 : Int))) = false := by
        rcases Bool.eq_false_or_eq_true (decide (IntKind.i64.wrap (v - (1 : Int)) < (0 : Int))) with h | h
        · exfalso; (try simp only [pFa_b2, pFa_b10] at *); (first | (simp_all only [Bool.and_eq_true, Bool.not_eq_true', Bool.false_eq_true, Bool.true_eq_false, reduceCtorEq]; done) | (simp only [sx, sy, eq_self, ne_eq, IntKind.wrap_i64, wrapU64, Int.reduceLT] at * <;> first | contradiction | omega) | omega | ((try simp only [sx, sy, eq_self, ne_eq, IntKind.wrap_i64, wrapU64, Int.reduceLT] at *) <;> omega) | (simp_all; done))
        · exact h
      have hq9 : (decide (IntKind.i64.wrap (v - (1 : Int)) ≤ m)) = true := by
        rcases Bool.eq_false_or_eq_true (decide (IntKind.i64.wrap (v - (1 : Int)) ≤ m)) with h | h
        · exact h
        · exfalso; (try simp only [pFa_b2, pFa_b10] at *); (first | (simp_all only [Bool.and_eq_true, Bool.not_eq_true', Bool.false_eq_true, Bool.true_eq_false, reduceCtorEq]; done) | (simp only [sx, sy, eq_self, ne_eq, IntKind.wrap_i64, wrapU64, Int.reduceLT] at * <;> first | contradiction | omega) | omega | ((try simp only [sx, sy, eq_self, ne_eq, IntKind.wrap_i64, wrapU64, Int.reduceLT] at *) <;> omega) | (simp_all; done))
      have hq10 : (pFa_b10 v l m) = true := by
        rcases Bool.eq_false_or_eq_true (pFa_b10 v l m) with h | h
        · exact h
        · exfalso; (try simp only [pFa_b2, pFa_b10] at *); (first | (simp_all only [Bool.and_eq_true, Bool.not_eq_true', Bool.false_eq_true, Bool.true_eq_false, reduceCtorEq]; done) | (simp only [sx, sy, eq_self, ne_eq, IntKind.wrap_i64, wrapU64, Int.reduceLT] at * <;> first | contradiction | omega) | omega | ((try simp only [sx, sy, eq_self, ne_eq, IntKind.wrap_i64, wrapU64, Int.reduceLT] at *) <;> omega) | (simp_all; done))
      rcases Bool.eq_false_or_eq_true (decide (rT (IntKind.i64.wrap (v - (1 : Int))) ≤ l)) with hq11 | hq11
      ·
        have e0 : pFa_c0 v l m = (IntKind.i64.wrap (v - (1 : Int))) := ((bif_f hq1 _ _).trans ((bif_f hq7 _ _).trans ((bif_t hq11 _ _).trans rfl))); rw [e0]; exact pFa_p6 v l m h1 h2 hq0 hq1 hq4 hq5 hq6 hq7 hq8 hq9 hq10 hq11
      ·
        have e0 : pFa_c0 v l m = ((-1 : Int)) := ((bif_f hq1 _ _).trans ((bif_f hq7 _ _).trans ((bif_f hq11 _ _).trans rfl))); rw [e0]; exact pFa_p7 v l m h1 h2 hq0 hq1 hq4 hq5 hq6 hq7 hq8 hq9 hq10 hq11

noncomputable def rNx_b0 (v l m : Int) : Bool := decide (IntKind.i64.wrap (v + (1 : Int)) ≥ IntKind.i64.wrap (v - (1 : Int)))
noncomputable def rNx_b3 (v l m : Int) : Bool := decide ((0 : Int) ≤ IntKind.i64.wrap (v + (1 : Int)) ∧ IntKind.i64.wrap (v + (1 : Int)) ≤ (21 : Int))
noncomputable def rNx_b5 (v l m : Int) : Bool := decide (IntKind.i64.wrap (IntKind.i64.wrap (v + (1 : Int)) - (1 : Int)) ≥ IntKind.i64.wrap (v - (1 : Int)))
noncomputable def rNx_b6 (v l m : Int) : Bool := decide (IntKind.i64.wrap (IntKind.i64.wrap (v + (1 : Int)) - (1 : Int)) ≥ (0 : Int))
noncomputable def rNx_b7 (v l m : Int) : Bool := decide (IntKind.i64.wrap (IntKind.i64.wrap (v + (1 : Int)) - (1 : Int)) ≤ m)
noncomputable def rNx_b8 (v l m : Int) : Bool := decide ((0 : Int) ≤ IntKind.i64.wrap (IntKind.i64.wrap (v + (1 : Int)) - (1 : Int)) ∧ IntKind.i64.wrap (IntKind.i64.wrap (v + (1 : Int)) - (1 : Int)) ≤ (21 : Int))
noncomputable def rNx_b9 (v l m : Int) : Bool := decide (rT (IntKind.i64.wrap (IntKind.i64.wrap (v + (1 : Int)) - (1 : Int))) ≤ l)
noncomputable def rNx_b10 (v l m : Int) : Bool := decide (IntKind.i64.wrap (IntKind.i64.wrap (IntKind.i64.wrap (v + (1 : Int)) - (1 : Int)) - (1 : Int)) ≥ IntKind.i64.wrap (v - (1 : Int)))
noncomputable def rNx_b11 (v l m : Int) : Bool := decide (IntKind.i64.wrap (IntKind.i64.wrap (IntKind.i64.wrap (v + (1 : Int)) - (1 : Int)) - (1 : Int)) ≥ (0 : Int))
noncomputable def rNx_b12 (v l m : Int) : Bool := decide (IntKind.i64.wrap (IntKind.i64.wrap (IntKind.i64.wrap (v + (1 : Int)) - (1 : Int)) - (1 : Int)) ≤ m)
noncomputable def rNx_b13 (v l m : Int) : Bool := decide ((0 : Int) ≤ IntKind.i64.wrap (IntKind.i64.wrap (IntKind.i64.wrap (v + (1 : Int)) - (1 : Int)) - (1 : Int)) ∧ IntKind.i64.wrap (IntKind.i64.wrap (IntKind.i64.wrap (v + (1 : Int)) - (1 : Int)) - (1 : Int)) ≤ (21 : Int))
noncomputable def rNx_b14 (v l m : Int) : Bool := decide (rT (IntKind.i64.wrap (IntKind.i64.wrap (IntKind.i64.wrap (v + (1 : Int)) - (1 : Int)) - (1 : Int))) ≤ l)
noncomputable def rNx_b15 (v l m : Int) : Bool := decide (IntKind.i64.wrap (IntKind.i64.wrap (IntKind.i64.wrap (IntKind.i64.wrap (v + (1 : Int)) - (1 : Int)) - (1 : Int)) - (1 : Int)) ≥ IntKind.i64.wrap (v - (1 : Int)))
noncomputable def rNx_c0 (v l m : Int) : Int := (bif (decide (IntKind.i64.wrap (v + (1 : Int)) ≤ m)) then (bif (decide (rT (IntKind.i64.wrap (v + (1 : Int))) ≤ l)) then (IntKind.i64.wrap (v + (1 : Int))) else (bif (decide (rT (IntKind.i64.wrap (IntKind.i64.wrap (v + (1 : Int)) - (1 : Int))) ≤ l)) then (IntKind.i64.wrap (IntKind.i64.wrap (v + (1 : Int)) - (1 : Int))) else (bif (decide (IntKind.i64.wrap (IntKind.i64.wrap (IntKind.i64.wrap (v + (1 : Int)) - (1 : Int)) - (1 : Int)) ≥ (0 : Int))) then (bif (decide (rT (IntKind.i64.wrap (IntKind.i64.wrap (IntKind.i64.wrap (v + (1 : Int)) - (1 : Int)) - (1 : Int))) ≤ l)) then (IntKind.i64.wrap (IntKind.i64.wrap (IntKind.i64.wrap (v + (1 : Int)) - (1 : Int)) - (1 : Int))) else ((-1 : Int))) else ((-1 : Int))))) else (bif (decide (rT (IntKind.i64.wrap (IntKind.i64.wrap (v + (1 : Int)) - (1 : Int))) ≤ l)) then (IntKind.i64.wrap (IntKind.i64.wrap (v + (1 : Int)) - (1 : Int))) else (bif (decide (rT (IntKind.i64.wrap (IntKind.i64.wrap (IntKind.i64.wrap (v + (1 : Int)) - (1 : Int)) - (1 : Int))) ≤ l)) then (IntKind.i64.wrap (IntKind.i64.wrap (IntKind.i64.wrap (v + (1 : Int)) - (1 : Int)) - (1 : Int))) else ((-1 : Int)))))
theorem rNx_p0 (v l m : Int) (h1 : 0 ≤ v ∧ v ≤ m ∧ 1 ≤ m ∧ m ≤ 20) (h2 : 1 ≤ l ∧ l ≤ 63000) (hq0 : (rNx_b0 v l m) = true) (hq1 : (decide (IntKind.i64.wrap (v + (1 : Int)) ≥ (0 : Int))) = true) (hq2 : (decide (IntKind.i64.wrap (v + (1 : Int)) ≤ m)) = true) (hq3 : (rNx_b3 v l m) = true) (hq4 : (decide (rT (IntKind.i64.wrap (v + (1 : Int))) ≤ l)) = true) : Known Try.prog [] 59 [.int .i64 v, .int .i64 l, .int .i64 m] (.int .i64 (IntKind.i64.wrap (v + (1 : Int)))) :=
  open_res mix tabA_ok (T := tabA) (fuel := 3000) (ans := [(1, .b 1), (2, .b 1), (6, .b 1), (8, .b 1), (12, .b 1)]) (log := [(decide (rT (IntKind.i64.wrap (v + (1 : Int))) ≤ l)) = true, (rNx_b3 v l m) = true, (decide (IntKind.i64.wrap (v + (1 : Int)) ≤ m)) = true, (decide (IntKind.i64.wrap (v + (1 : Int)) ≥ (0 : Int))) = true, (rNx_b0 v l m) = true]) (by kernel_rfl) ⟨hq4, hq3, hq2, hq1, hq0, trivial⟩ (by kernel_rfl)
theorem rNx_p1 (v l m : Int) (h1 : 0 ≤ v ∧ v ≤ m ∧ 1 ≤ m ∧ m ≤ 20) (h2 : 1 ≤ l ∧ l ≤ 63000) (hq0 : (rNx_b0 v l m) = true) (hq1 : (decide (IntKind.i64.wrap (v + (1 : Int)) ≥ (0 : Int))) = true) (hq2 : (decide (IntKind.i64.wrap (v + (1 : Int)) ≤ m)) = true) (hq3 : (rNx_b3 v l m) = true) (hq4 : (decide (rT (IntKind.i64.wrap (v + (1 : Int))) ≤ l)) = false) (hq5 : (rNx_b5 v l m) = true) (hq6 : (rNx_b6 v l m) = true) (hq7 : (rNx_b7 v l m) = true) (hq8 : (rNx_b8 v l m) = true) (hq9 : (rNx_b9 v l m) = true) : Known Try.prog [] 59 [.int .i64 v, .int .i64 l, .int .i64 m] (.int .i64 (IntKind.i64.wrap (IntKind.i64.wrap (v + (1 : Int)) - (1 : Int)))) :=
  open_res mix tabA_ok (T := tabA) (fuel := 3000) (ans := [(1, .b 1), (2, .b 1), (6, .b 1), (8, .b 1), (12, .b 0), (14, .b 1), (15, .b 1), (19, .b 1), (21, .b 1), (25, .b 1)]) (log := [(rNx_b9 v l m) = true, (rNx_b8 v l m) = true, (rNx_b7 v l m) = true, (rNx_b6 v l m) = true, (rNx_b5 v l m) = true, (decide (rT (IntKind.i64.wrap (v + (1 : Int))) ≤ l)) = false, (rNx_b3 v l m) = true, (decide (IntKind.i64.wrap (v + (1 : Int)) ≤ m)) = true, (decide (IntKind.i64.wrap (v + (1 : Int)) ≥ (0 : Int))) = true, (rNx_b0 v l m) = true]) (by kernel_rfl) ⟨hq9, hq8, hq7, hq6, hq5, hq4, hq3, hq2, hq1, hq0, trivial⟩ (by kernel_rfl)
theorem rNx_p2 (v l m : Int) (h1 : 0 ≤ v ∧ v ≤ m ∧ 1 ≤ m ∧ m ≤ 20) (h2 : 1 ≤ l ∧ l ≤ 63000) (hq0 : (rNx_b0 v l m) = true) (hq1 : (decide (IntKind.i64.wrap (v + (1 : Int)) ≥ (0 : Int))) = true) (hq2 : (decide (IntKind.i64.wrap (v + (1 : Int)) ≤ m)) = true) (hq3 : (rNx_b3 v l m) = true) (hq4 : (decide (rT (IntKind.i64.wrap (v + (1 : Int))) ≤ l)) = false) (hq5 : (rNx_b5 v l m) = true) (hq6 : (rNx_b6 v l m) = true) (hq7 : (rNx_b7 v l m) = true) (hq8 : (rNx_b8 v l m) = true) (hq9 : (rNx_b9 v l m) = false) (hq10 : (rNx_b10 v l m) = true) (hq11 : (rNx_b11 v l m) = true) (hq12 : (rNx_b12 v l m) = true) (hq13 : (rNx_b13 v l m) = true) (hq14 : (rNx_b14 v l m) = true) : Known Try.prog [] 59 [.int .i64 v, .int .i64 l, .int .i64 m] (.int .i64 (IntKind.i64.wrap (IntKind.i64.wrap (IntKind.i64.wrap (v + (1 : Int)) - (1 : Int)) - (1 : Int)))) :=
  open_res mix tabA_ok (T := tabA) (fuel := 3000) (ans := [(1, .b 1), (2, .b 1), (6, .b 1), (8, .b 1), (12, .b 0), (14, .b 1), (15, .b 1), (19, .b 1), (21, .b 1), (25, .b 0), (27, .b 1), (28, .b 1), (32, .b 1), (34, .b 1), (38, .b 1)]) (log := [(rNx_b14 v l m) = true, (rNx_b13 v l m) = true, (rNx_b12 v l m) = true, (rNx_b11 v l m) = true, (rNx_b10 v l m) = true, (rNx_b9 v l m) = false, (rNx_b8 v l m) = true, (rNx_b7 v l m) = true, (rNx_b6 v l m) = true, (rNx_b5 v l m) = true, (decide (rT (IntKind.i64.wrap (v + (1 : Int))) ≤ l)) = false, (rNx_b3 v l m) = true, (decide (IntKind.i64.wrap (v + (1 : Int)) ≤ m)) = true, (decide (IntKind.i64.wrap (v + (1 : Int)) ≥ (0 : Int))) = true, (rNx_b0 v l m) = true]) (by kernel_rfl) ⟨hq14, hq13, hq12, hq11, hq10, hq9, hq8, hq7, hq6, hq5, hq4, hq3, hq2, hq1, hq0, trivial⟩ (by kernel_rfl)
theorem rNx_p3 (v l m : Int) (h1 : 0 ≤ v ∧ v ≤ m ∧ 1 ≤ m ∧ m ≤ 20) (h2 : 1 ≤ l ∧ l ≤ 63000) (hq0 : (rNx_b0 v l m) = true) (hq1 : (decide (IntKind.i64.wrap (v + (1 : Int)) ≥ (0 : Int))) = true) (hq2 : (decide (IntKind.i64.wrap (v + (1 : Int)) ≤ m)) = true) (hq3 : (rNx_b3 v l m) = true) (hq4 : (decide (rT (IntKind.i64.wrap (v + (1 : Int))) ≤ l)) = false) (hq5 : (rNx_b5 v l m) = true) (hq6 : (rNx_b6 v l m) = true) (hq7 : (rNx_b7 v l m) = true) (hq8 : (rNx_b8 v l m) = true) (hq9 : (rNx_b9 v l m) = false) (hq10 : (rNx_b10 v l m) = true) (hq11 : (rNx_b11 v l m) = true) (hq12 : (rNx_b12 v l m) = true) (hq13 : (rNx_b13 v l m) = true) (hq14 : (rNx_b14 v l m) = false) (hq15 : (rNx_b15 v l m) = false) : Known Try.prog [] 59 [.int .i64 v, .int .i64 l, .int .i64 m] (.int .i64 ((-1 : Int))) :=
  open_res mix tabA_ok (T := tabA) (fuel := 3000) (ans := [(1, .b 1), (2, .b 1), (6, .b 1), (8, .b 1), (12, .b 0), (14, .b 1), (15, .b 1), (19, .b 1), (21, .b 1), (25, .b 0), (27, .b 1), (28, .b 1), (32, .b 1), (34, .b 1), (38, .b 0), (40, .b 0)]) (log := [(rNx_b15 v l m) = false, (rNx_b14 v l m) = false, (rNx_b13 v l m) = true, (rNx_b12 v l m) = true, (rNx_b11 v l m) = true, (rNx_b10 v l m) = true, (rNx_b9 v l m) = false, (rNx_b8 v l m) = true, (rNx_b7 v l m) = true, (rNx_b6 v l m) = true, (rNx_b5 v l m) = true, (decide (rT (IntKind.i64.wrap (v + (1 : Int))) ≤ l)) = false, (rNx_b3 v l m) = true, (decide (IntKind.i64.wrap (v + (1 : Int)) ≤ m)) = true, (decide (IntKind.i64.wrap (v + (1 : Int)) ≥ (0 : Int))) = true, (rNx_b0 v l m) = true]) (by kernel_rfl) ⟨hq15, hq14, hq13, hq12, hq11, hq10, hq9, hq8, hq7, hq6, hq5, hq4, hq3, hq2, hq1, hq0, trivial⟩ (by kernel_rfl)
theorem rNx_p4 (v l m : Int) (h1 : 0 ≤ v ∧ v ≤ m ∧ 1 ≤ m ∧ m ≤ 20) (h2 : 1 ≤ l ∧ l ≤ 63000) (hq0 : (rNx_b0 v l m) = true) (hq1 : (decide (IntKind.i64.wrap (v + (1 : Int)) ≥ (0 : Int))) = true) (hq2 : (decide (IntKind.i64.wrap (v + (1 : Int)) ≤ m)) = true) (hq3 : (rNx_b3 v l m) = true) (hq4 : (decide (rT (IntKind.i64.wrap (v + (1 : Int))) ≤ l)) = false) (hq5 : (rNx_b5 v l m) = true) (hq6 : (rNx_b6 v l m) = true) (hq7 : (rNx_b7 v l m) = true) (hq8 : (rNx_b8 v l m) = true) (hq9 : (rNx_b9 v l m) = false) (hq10 : (rNx_b10 v l m) = true) (hq11 : (rNx_b11 v l m) = false) (hq15 : (rNx_b15 v l m) = false) : Known Try.prog [] 59 [.int .i64 v, .int .i64 l, .int .i64 m] (.int .i64 ((-1 : Int))) :=
  open_res mix tabA_ok (T := tabA) (fuel := 3000) (ans := [(1, .b 1), (2, .b 1), (6, .b 1), (8, .b 1), (12, .b 0), (14, .b 1), (15, .b 1), (19, .b 1), (21, .b 1), (25, .b 0), (27, .b 1), (28, .b 0), (39, .b 0)]) (log := [(rNx_b15 v l m) = false, (rNx_b11 v l m) = false, (rNx_b10 v l m) = true, (rNx_b9 v l m) = false, (rNx_b8 v l m) = true, (rNx_b7 v l m) = true, (rNx_b6 v l m) = true, (rNx_b5 v l m) = true, (decide (rT (IntKind.i64.wrap (v + (1 : Int))) ≤ l)) = false, (rNx_b3 v l m) = true, (decide (IntKind.i64.wrap (v + (1 : Int)) ≤ m)) = true, (decide (IntKind.i64.wrap (v + (1 : Int)) ≥ (0 : Int))) = true, (rNx_b0 v l m) = true]) (by kernel_rfl) ⟨hq15, hq11, hq10, hq9, hq8, hq7, hq6, hq5, hq4, hq3, hq2, hq1, hq0, trivial⟩ (by kernel_rfl)
theorem rNx_p5 (v l m : Int) (h1 : 0 ≤ v ∧ v ≤ m ∧ 1 ≤ m ∧ m ≤ 20) (h2 : 1 ≤ l ∧ l ≤ 63000) (hq0 : (rNx_b0 v l m) = true) (hq1 : (decide (IntKind.i64.wrap (v + (1 : Int)) ≥ (0 : Int))) = true) (hq2 : (decide (IntKind.i64.wrap (v + (1 : Int)) ≤ m)) = false) (hq5 : (rNx_b5 v l m) = true) (hq6 : (rNx_b6 v l m) = true) (hq7 : (rNx_b7 v l m) = true) (hq8 : (rNx_b8 v l m) = true) (hq9 : (rNx_b9 v l m) = true) : Known Try.prog [] 59 [.int .i64 v, .int .i64 l, .int .i64 m] (.int .i64 (IntKind.i64.wrap (IntKind.i64.wrap (v + (1 : Int)) - (1 : Int)))) :=
  open_res mix tabA_ok (T := tabA) (fuel := 3000) (ans := [(1, .b 1), (2, .b 1), (6, .b 0), (13, .b 1), (14, .b 1), (18, .b 1), (20, .b 1), (24, .b 1)]) (log := [(rNx_b9 v l m) = true, (rNx_b8 v l m) = true, (rNx_b7 v l m) = true, (rNx_b6 v l m) = true, (rNx_b5 v l m) = true, (decide (IntKind.i64.wrap (v + (1 : Int)) ≤ m)) = false, (decide (IntKind.i64.wrap (v + (1 : Int)) ≥ (0 : Int))) = true, (rNx_b0 v l m) = true]) (by kernel_rfl) ⟨hq9, hq8, hq7, hq6, hq5, hq2, hq1, hq0, trivial⟩ (by kernel_rfl)
theorem rNx_p6 (v l m : Int) (h1 : 0 ≤ v ∧ v ≤ m ∧ 1 ≤ m ∧ m ≤ 20) (h2 : 1 ≤ l ∧ l ≤ 63000) (hq0 : (rNx_b0 v l m) = true) (hq1 : (decide (IntKind.i64.wrap (v + (1 : Int)) ≥ (0 : Int))) = true) (hq2 : (decide (IntKind.i64.wrap (v + (1 : Int)) ≤ m)) = false) (hq5 : (rNx_b5 v l m) = true) (hq6 : (rNx_b6 v l m) = true) (hq7 : (rNx_b7 v l m) = true) (hq8 : (rNx_b8 v l m) = true) (hq9 : (rNx_b9 v l m) = false) (hq10 : (rNx_b10 v l m) = true) (hq11 : (rNx_b11 v l m) = true) (hq12 : (rNx_b12 v l m) = true) (hq13 : (rNx_b13 v l m) = true) (hq14 : (rNx_b14 v l m) = true) : Known Try.prog [] 59 [.int .i64 v, .int .i64 l, .int .i64 m] (.int .i64 (IntKind.i64.wrap (IntKind.i64.wrap (IntKind.i64.wrap (v + (1 : Int)) - (1 : Int)) - (1 : Int)))) :=
  open_res mix tabA_ok (T := tabA) (fuel := 3000) (ans := [(1, .b 1), (2, .b 1), (6, .b 0), (13, .b 1), (14, .b 1), (18, .b 1), (20, .b 1), (24, .b 0), (26, .b 1), (27, .b 1), (31, .b 1), (33, .b 1), (37, .b 1)]) (log := [(rNx_b14 v l m) = true, (rNx_b13 v l m) = true, (rNx_b12 v l m) = true, (rNx_b11 v l m) = true, (rNx_b10 v l m) = true, (rNx_b9 v l m) = false, (rNx_b8 v l m) = true, (rNx_b7 v l m) = true, (rNx_b6 v l m) = true, (rNx_b5 v l m) = true, (decide (IntKind.i64.wrap (v + (1 : Int)) ≤ m)) = false, (decide (IntKind.i64.wrap (v + (1 : Int)) ≥ (0 : Int))) = true, (rNx_b0 v l m) = true]) (by kernel_rfl) ⟨hq14, hq13, hq12, hq11, hq10, hq9, hq8, hq7, hq6, hq5, hq2, hq1, hq0, trivial⟩ (by kernel_rfl)
theorem rNx_p7 (v l m : Int) (h1 : 0 ≤ v ∧ v ≤ m ∧ 1 ≤ m ∧ m ≤ 20) (h2 : 1 ≤ l ∧ l ≤ 63000) (hq0 : (rNx_b0 v l m) = true) (hq1 : (decide (IntKind.i64.wrap (v + (1 : Int)) ≥ (0 : Int))) = true) (hq2 : (decide (IntKind.i64.wrap (v + (1 : Int)) ≤ m)) = false) (hq5 : (rNx_b5 v l m) = true) (hq6 : (rNx_b6 v l m) = true) (hq7 : (rNx_b7 v l m) = true) (hq8 : (rNx_b8 v l m) = true) (hq9 : (rNx_b9 v l m) = false) (hq10 : (rNx_b10 v l m) = true) (hq11 : (rNx_b11 v l m) = true) (hq12 : (rNx_b12 v l m) = true) (hq13 : (rNx_b13 v l m) = true) (hq14 : (rNx_b14 v l m) = false) (hq15 : (rNx_b15 v l m) = false) : Known Try.prog [] 59 [.int .i64 v, .int .i64 l, .int .i64 m] (.int .i64 ((-1 : Int))) :=
  open_res mix tabA_ok (T := tabA) (fuel := 3000) (ans := [(1, .b 1), (2, .b 1), (6, .b 0), (13, .b 1), (14, .b 1), (18, .b 1), (20, .b 1), (24, .b 0), (26, .b 1), (27, .b 1), (31, .b 1), (33, .b 1), (37, .b 0), (39, .b 0)]) (log := [(rNx_b15 v l m) = false, (rNx_b14 v l m) = false, (rNx_b13 v l m) = true, (rNx_b12 v l m) = true, (rNx_b11 v l m) = true, (rNx_b10 v l m) = true, (rNx_b9 v l m) = false, (rNx_b8 v l m) = true, (rNx_b7 v l m) = true, (rNx_b6 v l m) = true, (rNx_b5 v l m) = true, (decide (IntKind.i64.wrap (v + (1 : Int)) ≤ m)) = false, (decide (IntKind.i64.wrap (v + (1 : Int)) ≥ (0 : Int))) = true, (rNx_b0 v l m) = true]) (by kernel_rfl) ⟨hq15, hq14, hq13, hq12, hq11, hq10, hq9, hq8, hq7, hq6, hq5, hq2, hq1, hq0, trivial⟩ (by kernel_rfl)
set_option maxHeartbeats 8000000 in
theorem rNx (v l m : Int) (h1 : 0 ≤ v ∧ v ≤ m ∧ 1 ≤ m ∧ m ≤ 20) (h2 : 1 ≤ l ∧ l ≤ 63000) : Known Try.prog [] 59 [.int .i64 v, .int .i64 l, .int .i64 m] (.int .i64 (rNx_c0 v l m)) := by
  have hq0 : (rNx_b0 v l m) = true := by
    rcases Bool.eq_false_or_eq_true (rNx_b0 v l m) with h | h
    · exact h
    · exfalso; (try simp only [rNx_b0, rNx_b3, rNx_b5, rNx_b6, rNx_b7, rNx_b8, rNx_b9, rNx_b10, rNx_b11, rNx_b12, rNx_b13, rNx_b14, rNx_b15] at *); (first | (simp_all only [Bool.and_eq_true, Bool.not_eq_true', Bool.false_eq_true, Bool.true_eq_false, reduceCtorEq]; done) | (simp only [sx, sy, eq_self, ne_eq, IntKind.wrap_i64, wrapU64, Int.reduceLT] at * <;> first | contradiction | omega) | omega | ((try simp only [sx, sy, eq_self, ne_eq, IntKind.wrap_i64, wrapU64, Int.reduceLT] at *) <;> omega) | (simp_all; done))
  have hq1 : (decide (IntKind.i64.wrap (v + (1 : Int)) ≥ (0 : Int))) = true := by
    rcases Bool.eq_false_or_eq_true (decide (IntKind.i64.wrap (v + (1 : Int)) ≥ (0 : Int))) with h | h
    · exact h
    · exfalso; (try simp only [rNx_b0, rNx_b3, rNx_b5, rNx_b6, rNx_b7, rNx_b8, rNx_b9, rNx_b10, rNx_b11, rNx_b12, rNx_b13, rNx_b14, rNx_b15] at *); (first | (simp_all only [Bool.and_eq_true, Bool.not_eq_true', Bool.false_eq_true, Bool.true_eq_false, reduceCtorEq]; done) | (simp only [sx, sy, eq_self, ne_eq, IntKind.wrap_i64, wrapU64, Int.reduceLT] at * <;> first | contradiction | omega) | omega | ((try simp only [sx, sy, eq_self, ne_eq, IntKind.wrap_i64, wrapU64, Int.reduceLT] at *) <;> omega) | (simp_all; done))
  rcases Bool.eq_false_or_eq_true (decide (IntKind.i64.wrap (v + (1 : Int)) ≤ m)) with hq2 | hq2
  ·
    have hq3 : (rNx_b3 v l m) = true := by
      rcases Bool.eq_false_or_eq_true (rNx_b3 v l m) with h | h
      · exact h
      · exfalso; (try simp only [rNx_b0, rNx_b3, rNx_b5, rNx_b6, rNx_b7, rNx_b8, rNx_b9, rNx_b10, rNx_b11, rNx_b12, rNx_b13, rNx_b14, rNx_b15] at *); (first | (simp_all only [Bool.and_eq_true, Bool.not_eq_true', Bool.false_eq_true, Bool.true_eq_false, reduceCtorEq]; done) | (simp only [sx, sy, eq_self, ne_eq, IntKind.wrap_i64, wrapU64, Int.reduceLT] at * <;> first | contradiction | omega) | omega | ((try simp only [sx, sy, eq_self, ne_eq, IntKind.wrap_i64, wrapU64, Int.reduceLT] at *) <;> omega) | (simp_all; done))
    rcases Bool.eq_false_or_eq_true (decide (rT (IntKind.i64.wrap (v + (1 : Int))) ≤ l)) with hq4 | hq4
    ·
      have e0 : rNx_c0 v l m = (IntKind.i64.wrap (v + (1 : Int))) := ((bif_t hq2 _ _).trans ((bif_t hq4 _ _).trans rfl)); rw [e0]; exact rNx_p0 v l m h1 h2 hq0 hq1 hq2 hq3 hq4
    ·
      have hq5 : (rNx_b5 v l m) = true := by
        rcases Bool.eq_false_or_eq_true (rNx_b5 v l m) with h | h
        · exact h
        · exfalso; (try simp only [rNx_b0, rNx_b3, rNx_b5, rNx_b6, rNx_b7, rNx_b8, rNx_b9, rNx_b10, rNx_b11, rNx_b12, rNx_b13, rNx_b14, rNx_b15] at *); (first | (simp_all only [Bool.and_eq_true, Bool.not_eq_true', Bool.false_eq_true, Bool.true_eq_false, reduceCtorEq]; done) | (simp only [sx, sy, eq_self, ne_eq, IntKind.wrap_i64, wrapU64, Int.reduceLT] at * <;> first | contradiction | omega) | omega | ((try simp only [sx, sy, eq_self, ne_eq, IntKind.wrap_i64, wrapU64, Int.reduceLT] at *) <;> omega) | (simp_all; done))
      have hq6 : (rNx_b6 v l m) = true := by
        rcases Bool.eq_false_or_eq_true (rNx_b6 v l m) with h | h
        · exact h
        · exfalso; (try simp only [rNx_b0, rNx_b3, rNx_b5, rNx_b6, rNx_b7, rNx_b8, rNx_b9, rNx_b10, rNx_b11, rNx_b12, rNx_b13, rNx_b14, rNx_b15] at *); (first | (simp_all only [Bool.and_eq_true, Bool.not_eq_true', Bool.false_eq_true, Bool.true_eq_false, reduceCtorEq]; done) | (simp only [sx, sy, eq_self, ne_eq, IntKind.wrap_i64, wrapU64, Int.reduceLT] at * <;> first | contradiction | omega) | omega | ((try simp only [sx, sy, eq_self, ne_eq, IntKind.wrap_i64, wrapU64, Int.reduceLT] at *) <;> omega) | (simp_all; done))
      have hq7 : (rNx_b7 v l m) = true := by
        rcases Bool.eq_false_or_eq_true (rNx_b7 v l m) with h | h
        · exact h
        · exfalso; (try simp only [rNx_b0, rNx_b3, rNx_b5, rNx_b6, rNx_b7, rNx_b8, rNx_b9, rNx_b10, rNx_b11, rNx_b12, rNx_b13, rNx_b14, rNx_b15] at *); (first | (simp_all only [Bool.and_eq_true, Bool.not_eq_true', Bool.false_eq_true, Bool.true_eq_false, reduceCtorEq]; done) | (simp only [sx, sy, eq_self, ne_eq, IntKind.wrap_i64, wrapU64, Int.reduceLT] at * <;> first | contradiction | omega) | omega | ((try simp only [sx, sy, eq_self, ne_eq, IntKind.wrap_i64, wrapU64, Int.reduceLT] at *) <;> omega) | (simp_all; done))
      have hq8 : (rNx_b8 v l m) = true := by
        rcases Bool.eq_false_or_eq_true (rNx_b8 v l m) with h | h
        · exact h
        · exfalso; (try simp only [rNx_b0, rNx_b3, rNx_b5, rNx_b6, rNx_b7, rNx_b8, rNx_b9, rNx_b10, rNx_b11, rNx_b12, rNx_b13, rNx_b14, rNx_b15] at *); (first | (simp_all only [Bool.and_eq_true, Bool.not_eq_true', Bool.false_eq_true, Bool.true_eq_false, reduceCtorEq]; done) | (simp only [sx, sy, eq_self, ne_eq, IntKind.wrap_i64, wrapU64, Int.reduceLT] at * <;> first | contradiction | omega) | omega | ((try simp only [sx, sy, eq_self, ne_eq, IntKind.wrap_i64, wrapU64, Int.reduceLT] at *) <;> omega) | (simp_all; done))
      rcases Bool.eq_false_or_eq_true (rNx_b9 v l m) with hq9 | hq9
      ·
        have e0 : rNx_c0 v l m = (IntKind.i64.wrap (IntKind.i64.wrap (v + (1 : Int)) - (1 : Int))) := ((bif_t hq2 _ _).trans ((bif_f hq4 _ _).trans ((bif_t hq9 _ _).trans rfl))); rw [e0]; exact rNx_p1 v l m h1 h2 hq0 hq1 hq2 hq3 hq4 hq5 hq6 hq7 hq8 hq9
      ·
        have hq10 : (rNx_b10 v l m) = true := by
          rcases Bool.eq_false_or_eq_true (rNx_b10 v l m) with h | h
          · exact h
          · exfalso; (try simp only [rNx_b0, rNx_b3, rNx_b5, rNx_b6, rNx_b7, rNx_b8, rNx_b9, rNx_b10, rNx_b11, rNx_b12, rNx_b13, rNx_b14, rNx_b15] at *); (first | (simp_all only [Bool.and_eq_true, Bool.not_eq_true', Bool.false_eq_true, Bool.true_eq_false, reduceCtorEq]; done) | (simp only [sx, sy, eq_self, ne_eq, IntKind.wrap_i64, wrapU64, Int.reduceLT] at * <;> first | contradiction | omega) | omega | ((try simp only [sx, sy, eq_self, ne_eq, IntKind.wrap_i64, wrapU64, Int.reduceLT] at *) <;> omega) | (simp_all; done))
        rcases Bool.eq_false_or_eq_true (rNx_b11 v l m) with hq11 | hq11
        ·
          have hq12 : (rNx_b12 v l m) = true := by
            rcases Bool.eq_false_or_eq_true (rNx_b12 v l m) with h | h
            · exact h
            · exfalso; (try simp only [rNx_b0, rNx_b3, rNx_b5, rNx_b6, rNx_b7, rNx_b8, rNx_b9, rNx_b10, rNx_b11, rNx_b12, rNx_b13, rNx_b14, rNx_b15] at *); (first | (simp_all only [Bool.and_eq_true, Bool.not_eq_true', Bool.false_eq_true, Bool.true_eq_false, reduceCtorEq]; done) | (simp only [sx, sy, eq_self, ne_eq, IntKind.wrap_i64, wrapU64, Int.reduceLT] at * <;> first | contradiction | omega) | omega | ((try simp only [sx, sy, eq_self, ne_eq, IntKind.wrap_i64, wrapU64, Int.reduceLT] at *) <;> omega) | (simp_all; done))
          have hq13 : (rNx_b13 v l m) = true := by
            rcases Bool.eq_false_or_eq_true (rNx_b13 v l m) with h | h
            · exact h
            · exfalso; (try simp only [rNx_b0, rNx_b3, rNx_b5, rNx_b6, rNx_b7, rNx_b8, rNx_b9, rNx_b10, rNx_b11, rNx_b12, rNx_b13, rNx_b14, rNx_b15] at *); (first | (simp_all only [Bool.and_eq_true, Bool.not_eq_true', Bool.false_eq_true, Bool.true_eq_false, reduceCtorEq]; done) | (simp only [sx, sy, eq_self, ne_eq, IntKind.wrap_i64, wrapU64, Int.reduceLT] at * <;> first | contradiction | omega) | omega | ((try simp only [sx, sy, eq_self, ne_eq, IntKind.wrap_i64, wrapU64, Int.reduceLT] at *) <;> omega) | (simp_all; done))
          rcases Bool.eq_false_or_eq_true (rNx_b14 v l m) with hq14 | hq14
          ·
            have e0 : rNx_c0 v l m = (IntKind.i64.wrap (IntKind.i64.wrap (IntKind.i64.wrap (v + (1 : Int)) - (1 : Int)) - (1 : Int))) := ((bif_t hq2 _ _).trans ((bif_f hq4 _ _).trans ((bif_f hq9 _ _).trans ((bif_t hq11 _ _).trans ((bif_t hq14 _ _).trans rfl))))); rw [e0]; exact rNx_p2 v l m h1 h2 hq0 hq1 hq2 hq3 hq4 hq5 hq6 hq7 hq8 hq9 hq10 hq11 hq12 hq13 hq14
          ·
            have hq15 : (rNx_b15 v l m) = false := by
              rcases Bool.eq_false_or_eq_true (rNx_b15 v l m) with h | h
              · exfalso; (try simp only [rNx_b0, rNx_b3, rNx_b5, rNx_b6, rNx_b7, rNx_b8, rNx_b9, rNx_b10, rNx_b11, rNx_b12, rNx_b13, rNx_b14, rNx_b15] at *); (first | (simp_all only [Bool.and_eq_true, Bool.not_eq_true', Bool.false_eq_true, Bool.true_eq_false, reduceCtorEq]; done) | (simp only [sx, sy, eq_self, ne_eq, IntKind.wrap_i64, wrapU64, Int.reduceLT] at * <;> first | contradiction | omega) | omega | ((try simp only [sx, sy, eq_self, ne_eq, IntKind.wrap_i64, wrapU64, Int.reduceLT] at *) <;> omega) | (simp_all; done))
              · exact h
            have e0 : rNx_c0 v l m = ((-1 : Int)) := ((bif_t hq2 _ _).trans ((bif_f hq4 _ _).trans ((bif_f hq9 _ _).trans ((bif_t hq11 _ _).trans ((bif_f hq14 _ _).trans rfl))))); rw [e0]; exact rNx_p3 v l m h1 h2 hq0 hq1 hq2 hq3 hq4 hq5 hq6 hq7 hq8 hq9 hq10 hq11 hq12 hq13 hq14 hq15
        ·
          have hq15 : (rNx_b15 v l m) = false := by
            rcases Bool.eq_false_or_eq_true (rNx_b15 v l m) with h | h
            · exfalso; (try simp only [rNx_b0, rNx_b3, rNx_b5, rNx_b6, rNx_b7, rNx_b8, rNx_b9, rNx_b10, rNx_b11, rNx_b12, rNx_b13, rNx_b14, rNx_b15] at *); (first | (simp_all only [Bool.and_eq_true, Bool.not_eq_true', Bool.false_eq_true, Bool.true_eq_false, reduceCtorEq]; done) | (simp only [sx, sy, eq_self, ne_eq, IntKind.wrap_i64, wrapU64, Int.reduceLT] at * <;> first | contradiction | omega) | omega | ((try simp only [sx, sy, eq_self, ne_eq, IntKind.wrap_i64, wrapU64, Int.reduceLT] at *) <;> omega) | (simp_all; done))
            · exact h
          have e0 : rNx_c0 v l m = ((-1 : Int)) := ((bif_t hq2 _ _).trans ((bif_f hq4 _ _).trans ((bif_f hq9 _ _).trans ((bif_f hq11 _ _).trans rfl)))); rw [e0]; exact rNx_p4 v l m h1 h2 hq0 hq1 hq2 hq3 hq4 hq5 hq6 hq7 hq8 hq9 hq10 hq11 hq15
  ·
    have hq5 : (rNx_b5 v l m) = true := by
      rcases Bool.eq_false_or_eq_true (rNx_b5 v l m) with h | h
      · exact h
      · exfalso; (try simp only [rNx_b0, rNx_b3, rNx_b5, rNx_b6, rNx_b7, rNx_b8, rNx_b9, rNx_b10, rNx_b11, rNx_b12, rNx_b13, rNx_b14, rNx_b15] at *); (first | (simp_all only [Bool.and_eq_true, Bool.not_eq_true', Bool.false_eq_true, Bool.true_eq_false, reduceCtorEq]; done) | (simp only [sx, sy, eq_self, ne_eq, IntKind.wrap_i64, wrapU64, Int.reduceLT] at * <;> first | contradiction | omega) | omega | ((try simp only [sx, sy, eq_self, ne_eq, IntKind.wrap_i64, wrapU64, Int.reduceLT] at *) <;> omega) | (simp_all; done))
    have hq6 : (rNx_b6 v l m) = true := by
      rcases Bool.eq_false_or_eq_true (rNx_b6 v l m) with h | h
      · exact h
      · exfalso; (try simp only [rNx_b0, rNx_b3, rNx_b5, rNx_b6, rNx_b7, rNx_b8, rNx_b9, rNx_b10, rNx_b11, rNx_b12, rNx_b13, rNx_b14, rNx_b15] at *); (first | (simp_all only [Bool.and_eq_true, Bool.not_eq_true', Bool.false_eq_true, Bool.true_eq_false, reduceCtorEq]; done) | (simp only [sx, sy, eq_self, ne_eq, IntKind.wrap_i64, wrapU64, Int.reduceLT] at * <;> first | contradiction | omega) | omega | ((try simp only [sx, sy, eq_self, ne_eq, IntKind.wrap_i64, wrapU64, Int.reduceLT] at *) <;> omega) | (simp_all; done))
    have hq7 : (rNx_b7 v l m) = true := by
      rcases Bool.eq_false_or_eq_true (rNx_b7 v l m) with h | h
      · exact h
      · exfalso; (try simp only [rNx_b0, rNx_b3, rNx_b5, rNx_b6, rNx_b7, rNx_b8, rNx_b9, rNx_b10, rNx_b11, rNx_b12, rNx_b13, rNx_b14, rNx_b15] at *); (first | (simp_all only [Bool.and_eq_true, Bool.not_eq_true', Bool.false_eq_true, Bool.true_eq_false, reduceCtorEq]; done) | (simp only [sx, sy, eq_self, ne_eq, IntKind.wrap_i64, wrapU64, Int.reduceLT] at * <;> first | contradiction | omega) | omega | ((try simp only [sx, sy, eq_self, ne_eq, IntKind.wrap_i64, wrapU64, Int.reduceLT] at *) <;> omega) | (simp_all; done))
    have hq8 : (rNx_b8 v l m) = true := by
      rcases Bool.eq_false_or_eq_true (rNx_b8 v l m) with h | h
      · exact h
      · exfalso; (try simp only [rNx_b0, rNx_b3, rNx_b5, rNx_b6, rNx_b7, rNx_b8, rNx_b9, rNx_b10, rNx_b11, rNx_b12, rNx_b13, rNx_b14, rNx_b15] at *); (first | (simp_all only [Bool.and_eq_true, Bool.not_eq_true', Bool.false_eq_true, Bool.true_eq_false, reduceCtorEq]; done) | (simp only [sx, sy, eq_self, ne_eq, IntKind.wrap_i64, wrapU64, Int.reduceLT] at * <;> first | contradiction | omega) | omega | ((try simp only [sx, sy, eq_self, ne_eq, IntKind.wrap_i64, wrapU64, Int.reduceLT] at *) <;> omega) | (simp_all; done))
    rcases Bool.eq_false_or_eq_true (rNx_b9 v l m) with hq9 | hq9
    ·
      have e0 : rNx_c0 v l m = (IntKind.i64.wrap (IntKind.i64.wrap (v + (1 : Int)) - (1 : Int))) := ((bif_f hq2 _ _).trans ((bif_t hq9 _ _).trans rfl)); rw [e0]; exact rNx_p5 v l m h1 h2 hq0 hq1 hq2 hq5 hq6 hq7 hq8 hq9
    ·
      have hq10 : (rNx_b10 v l m) = true := by
        rcases Bool.eq_false_or_eq_true (rNx_b10 v l m) with h | h
        · exact h
        · exfalso; (try simp only [rNx_b0, rNx_b3, rNx_b5, rNx_b6, rNx_b7, rNx_b8, rNx_b9, rNx_b10, rNx_b11, rNx_b12, rNx_b13, rNx_b14, rNx_b15] at *); (first | (simp_all only [Bool.and_eq_true, Bool.not_eq_true', Bool.false_eq_true, Bool.true_eq_false, reduceCtorEq]; done) | (simp only [sx, sy, eq_self, ne_eq, IntKind.wrap_i64, wrapU64, Int.reduceLT] at * <;> first | contradiction | omega) | omega | ((try simp only [sx, sy, eq_self, ne_eq, IntKind.wrap_i64, wrapU64, Int.reduceLT] at *) <;> omega) | (simp_all; done))
      have hq11 : (rNx_b11 v l m) = true := by
        rcases Bool.eq_false_or_eq_true (rNx_b11 v l m) with h | h
        · exact h
        · exfalso; (try simp only [rNx_b0, rNx_b3, rNx_b5, rNx_b6, rNx_b7, rNx_b8, rNx_b9, rNx_b10, rNx_b11, rNx_b12, rNx_b13, rNx_b14, rNx_b15] at *); (first | (simp_all only [Bool.and_eq_true, Bool.not_eq_true', Bool.false_eq_true, Bool.true_eq_false, reduceCtorEq]; done) | (simp only [sx, sy, eq_self, ne_eq, IntKind.wrap_i64, wrapU64, Int.reduceLT] at * <;> first | contradiction | omega) | omega | ((try simp only [sx, sy, eq_self, ne_eq, IntKind.wrap_i64, wrapU64, Int.reduceLT] at *) <;> omega) | (simp_all; done))
      have hq12 : (rNx_b12 v l m) = true := by
        rcases Bool.eq_false_or_eq_true (rNx_b12 v l m) with h | h
        · exact h
        · exfalso; (try simp only [rNx_b0, rNx_b3, rNx_b5, rNx_b6, rNx_b7, rNx_b8, rNx_b9, rNx_b10, rNx_b11, rNx_b12, rNx_b13, rNx_b14, rNx_b15] at *); (first | (simp_all only [Bool.and_eq_true, Bool.not_eq_true', Bool.false_eq_true, Bool.true_eq_false, reduceCtorEq]; done) | (simp only [sx, sy, eq_self, ne_eq, IntKind.wrap_i64, wrapU64, Int.reduceLT] at * <;> first | contradiction | omega) | omega | ((try simp only [sx, sy, eq_self, ne_eq, IntKind.wrap_i64, wrapU64, Int.reduceLT] at *) <;> omega) | (simp_all; done))
      have hq13 : (rNx_b13 v l m) = true := by
        rcases Bool.eq_false_or_eq_true (rNx_b13 v l m) with h | h
        · exact h
        · exfalso; (try simp only [rNx_b0, rNx_b3, rNx_b5, rNx_b6, rNx_b7, rNx_b8, rNx_b9, rNx_b10, rNx_b11, rNx_b12, rNx_b13, rNx_b14, rNx_b15] at *); (first | (simp_all only [Bool.and_eq_true, Bool.not_eq_true', Bool.false_eq_true, Bool.true_eq_false, reduceCtorEq]; done) | (simp only [sx, sy, eq_self, ne_eq, IntKind.wrap_i64, wrapU64, Int.reduceLT] at * <;> first | contradiction | omega) | omega | ((try simp only [sx, sy, eq_self, ne_eq, IntKind.wrap_i64, wrapU64, Int.reduceLT] at *) <;> omega) | (simp_all; done))
      rcases Bool.eq_false_or_eq_true (rNx_b14 v l m) with hq14 | hq14
      ·
        have e0 : rNx_c0 v l m = (IntKind.i64.wrap (IntKind.i64.wrap (IntKind.i64.wrap (v + (1 : Int)) - (1 : Int)) - (1 : Int))) := ((bif_f hq2 _ _).trans ((bif_f hq9 _ _).trans ((bif_t hq14 _ _).trans rfl))); rw [e0]; exact rNx_p6 v l m h1 h2 hq0 hq1 hq2 hq5 hq6 hq7 hq8 hq9 hq10 hq11 hq12 hq13 hq14
      ·
        have hq15 : (rNx_b15 v l m) = false := by
          rcases Bool.eq_false_or_eq_true (rNx_b15 v l m) with h | h
          · exfalso; (try simp only [rNx_b0, rNx_b3, rNx_b5, rNx_b6, rNx_b7, rNx_b8, rNx_b9, rNx_b10, rNx_b11, rNx_b12, rNx_b13, rNx_b14, rNx_b15] at *); (first | (simp_all only [Bool.and_eq_true, Bool.not_eq_true', Bool.false_eq_true, Bool.true_eq_false, reduceCtorEq]; done) | (simp only [sx, sy, eq_self, ne_eq, IntKind.wrap_i64, wrapU64, Int.reduceLT] at * <;> first | contradiction | omega) | omega | ((try simp only [sx, sy, eq_self, ne_eq, IntKind.wrap_i64, wrapU64, Int.reduceLT] at *) <;> omega) | (simp_all; done))
          · exact h
        have e0 : rNx_c0 v l m = ((-1 : Int)) := ((bif_f hq2 _ _).trans ((bif_f hq9 _ _).trans ((bif_f hq14 _ _).trans rfl))); rw [e0]; exact rNx_p7 v l m h1 h2 hq0 hq1 hq2 hq5 hq6 hq7 hq8 hq9 hq10 hq11 hq12 hq13 hq14 hq15

end Go.Proofs.Ytcjlidciniiofaa
