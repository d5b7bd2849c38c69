/- Layer 9: the small functions. -/
import Derived.Test.YtaohbffjfedcgaaEvZ7
import Derived.Test.YtaohbffjfedcgaaProg
import Derived.Test.YtaohbffjfedcgaaPR
import Derived.ProofKit
import Derived.IntWalk
namespace Go.Proofs.Ytaohbffjfedcgaa
open Go Go.RowKit
set_option linter.unusedVariables false
set_option linter.unusedSimpArgs false
set_option linter.unnecessarySimpa false
set_option maxHeartbeats 8000000
set_option maxRecDepth 100000
noncomputable def ptri_c0 (v : Int) : Int := (bif (decide (v < (0 : Int))) then ((0 : Int)) else (bif (decide (v > (20 : Int))) then ((0 : Int)) else (IntKind.i64.wrap ((IntKind.i64.wrap (v * IntKind.i64.wrap (v + (1 : Int)))).tdiv (2 : Int)))))
noncomputable def ptri_c1 (v : Int) : Int := (bif (decide (v < (0 : Int))) then ((2 : Int)) else (bif (decide (v > (20 : Int))) then ((2 : Int)) else ((0 : Int))))
theorem ptri_p0 (v : Int)  (hq0 : (decide (v < (0 : Int))) = true) : Known Try.prog [] 55 [.int .i64 v] (.tuple #[(.int .i64 ((0 : Int))), (.int .i64 ((2 : Int)))]) :=
  open_res mix GOk.none (T := GTab.none) (fuel := 3000) (ans := [(0, .b 1)]) (log := [(decide (v < (0 : Int))) = true]) (by kernel_rfl) ⟨hq0, trivial⟩ (by kernel_rfl)
theorem ptri_p1 (v : Int)  (hq0 : (decide (v < (0 : Int))) = false) (hq1 : (decide (v > (20 : Int))) = true) : Known Try.prog [] 55 [.int .i64 v] (.tuple #[(.int .i64 ((0 : Int))), (.int .i64 ((2 : Int)))]) :=
  open_res mix GOk.none (T := GTab.none) (fuel := 3000) (ans := [(0, .b 0), (3, .b 1)]) (log := [(decide (v > (20 : Int))) = true, (decide (v < (0 : Int))) = false]) (by kernel_rfl) ⟨hq1, hq0, trivial⟩ (by kernel_rfl)
theorem ptri_p2 (v : Int)  (hq0 : (decide (v < (0 : Int))) = false) (hq1 : (decide (v > (20 : Int))) = false) : Known Try.prog [] 55 [.int .i64 v] (.tuple #[(.int .i64 (IntKind.i64.wrap ((IntKind.i64.wrap (v * IntKind.i64.wrap (v + (1 : Int)))).tdiv (2 : Int)))), (.int .i64 ((0 : Int)))]) :=
  open_res mix GOk.none (T := GTab.none) (fuel := 3000) (ans := [(0, .b 0), (3, .b 0)]) (log := [(decide (v > (20 : Int))) = false, (decide (v < (0 : Int))) = false]) (by kernel_rfl) ⟨hq1, hq0, trivial⟩ (by kernel_rfl)
set_option maxHeartbeats 8000000 in
theorem ptri (v : Int)  : Known Try.prog [] 55 [.int .i64 v] (.tuple #[(.int .i64 (ptri_c0 v)), (.int .i64 (ptri_c1 v))]) := by
  rcases Bool.eq_false_or_eq_true (decide (v < (0 : Int))) with hq0 | hq0
  ·
    have e0 : ptri_c0 v = ((0 : Int)) := ((bif_t hq0 _ _).trans rfl); rw [e0]; have e1 : ptri_c1 v = ((2 : Int)) := ((bif_t hq0 _ _).trans rfl); rw [e1]; exact ptri_p0 v hq0
  ·
    rcases Bool.eq_false_or_eq_true (decide (v > (20 : Int))) with hq1 | hq1
    ·
      have e0 : ptri_c0 v = ((0 : Int)) := ((bif_f hq0 _ _).trans ((bif_t hq1 _ _).trans rfl)); rw [e0]; have e1 : ptri_c1 v = ((2 : Int)) := ((bif_f hq0 _ _).trans ((bif_t hq1 _ _).trans rfl)); rw [e1]; exact ptri_p1 v hq0 hq1
    ·
      have e0 : ptri_c0 v = (IntKind.i64.wrap ((IntKind.i64.wrap (v * IntKind.i64.wrap (v + (1 : Int)))).tdiv (2 : Int))) := ((bif_f hq0 _ _).trans ((bif_f hq1 _ _).trans rfl)); rw [e0]; have e1 : ptri_c1 v = ((0 : Int)) := ((bif_f hq0 _ _).trans ((bif_f hq1 _ _).trans rfl)); rw [e1]; exact ptri_p2 v hq0 hq1
noncomputable def ptri_k : List Value → Option Value
  | [.int .i64 v] => some (.tuple #[(.int .i64 (ptri_c0 v)), (.int .i64 (ptri_c1 v))])
  | _ => none
theorem ptri_ok : ∀ args v, ptri_k args = some v → Known Try.prog [] 55 args v := by
  intro args v h
  unfold ptri_k at h
  split at h
  · injection h with h; subst h; exact ptri _
  · cases h

noncomputable def rtri_c0 (v : Int) : Int := (IntKind.i64.wrap ((IntKind.i64.wrap (v * IntKind.i64.wrap (v + (1 : Int)))).tdiv (2 : Int)))
theorem rtri_p0 (v : Int)  : Known Try.prog [] 40 [.int .i64 v] (.int .i64 (IntKind.i64.wrap ((IntKind.i64.wrap (v * IntKind.i64.wrap (v + (1 : Int)))).tdiv (2 : Int)))) :=
  open_res mix GOk.none (T := GTab.none) (fuel := 3000) (ans := []) (log := []) (by kernel_rfl) trivial (by kernel_rfl)
set_option maxHeartbeats 8000000 in
theorem rtri (v : Int)  : Known Try.prog [] 40 [.int .i64 v] (.int .i64 (rtri_c0 v)) := by
  have e0 : rtri_c0 v = (IntKind.i64.wrap ((IntKind.i64.wrap (v * IntKind.i64.wrap (v + (1 : Int)))).tdiv (2 : Int))) := rfl; rw [e0]; exact rtri_p0 v
noncomputable def rtri_k : List Value → Option Value
  | [.int .i64 v] => some (.int .i64 (rtri_c0 v))
  | _ => none
theorem rtri_ok : ∀ args v, rtri_k args = some v → Known Try.prog [] 40 args v := by
  intro args v h
  unfold rtri_k at h
  split at h
  · injection h with h; subst h; exact rtri _
  · cases h

noncomputable def pbrk_c0 (v : Int) : Int := (IntKind.i64.wrap ((IntKind.i64.wrap (IntKind.i64.wrap (v - (1 : Int)) * v)).tdiv (2 : Int)))
theorem pbrk_p0 (v : Int)  : Known Try.prog [] 38 [.int .i64 v] (.int .i64 (IntKind.i64.wrap ((IntKind.i64.wrap (IntKind.i64.wrap (v - (1 : Int)) * v)).tdiv (2 : Int)))) :=
  open_res mix GOk.none (T := GTab.none) (fuel := 3000) (ans := []) (log := []) (by kernel_rfl) trivial (by kernel_rfl)
set_option maxHeartbeats 8000000 in
theorem pbrk (v : Int)  : Known Try.prog [] 38 [.int .i64 v] (.int .i64 (pbrk_c0 v)) := by
  have e0 : pbrk_c0 v = (IntKind.i64.wrap ((IntKind.i64.wrap (IntKind.i64.wrap (v - (1 : Int)) * v)).tdiv (2 : Int))) := rfl; rw [e0]; exact pbrk_p0 v
noncomputable def pbrk_k : List Value → Option Value
  | [.int .i64 v] => some (.int .i64 (pbrk_c0 v))
  | _ => none
theorem pbrk_ok : ∀ args v, pbrk_k args = some v → Known Try.prog [] 38 args v := by
  intro args v h
  unfold pbrk_k at h
  split at h
  · injection h with h; subst h; exact pbrk _
  · cases h

theorem tri_le {v : Int} (h0 : 0 ≤ v) (h : v ≤ 21) : 0 ≤ v * (v + 1) ∧ v * (v + 1) ≤ 462 := by
  have e : v * (v + 1) = v * v + v := by rw [Int.mul_add, Int.mul_one]
  have := sq_bound h0 h; omega
theorem tri_w {v : Int} (h0 : 0 ≤ v) (h : v ≤ 21) : IntKind.i64.wrap ((IntKind.i64.wrap (v * IntKind.i64.wrap (v + 1))).tdiv 2) = rT v := by
  have b := tri_le h0 h
  unfold rT
  rw [w8 (v := v + 1) (by omega), w8 (v := v * (v + 1)) (by omega), Int.tdiv_eq_ediv_of_nonneg b.1, w8 (by omega)]
theorem brk_w {v : Int} (h0 : 0 ≤ v) (h : v ≤ 21) : IntKind.i64.wrap ((IntKind.i64.wrap (IntKind.i64.wrap (v - 1) * v)).tdiv 2) = rT (v - 1) := by
  rw [w8 (v := v - 1) (by omega)]
  rcases (by omega : v = 0 ∨ 1 ≤ v) with e | e
  · subst e; decide
  · have b := tri_le (v := v - 1) (by omega) (by omega)
    rw [show v - 1 + 1 = v by omega] at b
    unfold rT
    rw [show v - 1 + 1 = v by omega, w8 (v := (v - 1) * v) (by omega), Int.tdiv_eq_ediv_of_nonneg b.1, w8 (by omega)]
theorem qTri (v : Int) (hg : (decide (0 ≤ v ∧ v ≤ 20)) = true) : Known Try.prog [] 55 [.int .i64 v] (.tuple #[.int .i64 (rT v), .int .i64 0]) := by have h := of_decide_eq_true hg; have k := ptri v; rw [show ptri_c0 v = rT v by unfold ptri_c0; rw [decide_eq_false (by omega), cond_false, decide_eq_false (by omega), cond_false]; exact tri_w h.1 (by omega), show ptri_c1 v = 0 by unfold ptri_c1; rw [decide_eq_false (by omega), cond_false, decide_eq_false (by omega), cond_false]] at k; exact k
noncomputable def qTri_k : List Value → Option (Bool × Value)
  | [.int .i64 v] => some (decide (0 ≤ v ∧ v ≤ 20), .tuple #[.int .i64 (rT v), .int .i64 0])
  | _ => none
theorem qTri_ok : ∀ args v, qTri_k args = some (true, v) → Known Try.prog [] 55 args v := by
  intro args v h
  unfold qTri_k at h
  split at h
  · injection h with h; injection h with hg h; subst h; exact qTri _ hg
  · cases h
theorem qRtri (v : Int) (hg : (decide (0 ≤ v ∧ v ≤ 21)) = true) : Known Try.prog [] 40 [.int .i64 v] (.int .i64 (rT v)) := by have h := of_decide_eq_true hg; have k := rtri v; rw [show rtri_c0 v = rT v from tri_w h.1 h.2] at k; exact k
noncomputable def qRtri_k : List Value → Option (Bool × Value)
  | [.int .i64 v] => some (decide (0 ≤ v ∧ v ≤ 21), .int .i64 (rT v))
  | _ => none
theorem qRtri_ok : ∀ args v, qRtri_k args = some (true, v) → Known Try.prog [] 40 args v := by
  intro args v h
  unfold qRtri_k at h
  split at h
  · injection h with h; injection h with hg h; subst h; exact qRtri _ hg
  · cases h
theorem qBrk (v : Int) (hg : (decide (0 ≤ v ∧ v ≤ 21)) = true) : Known Try.prog [] 38 [.int .i64 v] (.int .i64 (rT (v - 1))) := by have h := of_decide_eq_true hg; have k := pbrk v; rw [show pbrk_c0 v = rT (v - 1) from brk_w h.1 h.2] at k; exact k
noncomputable def qBrk_k : List Value → Option (Bool × Value)
  | [.int .i64 v] => some (decide (0 ≤ v ∧ v ≤ 21), .int .i64 (rT (v - 1)))
  | _ => none
theorem qBrk_ok : ∀ args v, qBrk_k args = some (true, v) → Known Try.prog [] 38 args v := by
  intro args v h
  unfold qBrk_k at h
  split at h
  · injection h with h; injection h with hg h; subst h; exact qBrk _ hg
  · cases h
noncomputable def tabA : GTab := (GTab.fn 55 qTri_k (GTab.fn 40 qRtri_k (GTab.fn 38 qBrk_k GTab.none)))
theorem tabA_ok : GOk Try.prog [] tabA := (GOk.fn qTri_ok (GOk.fn qRtri_ok (GOk.fn qBrk_ok GOk.none)))
noncomputable def pChk_b9 (p g s m : Int) : Bool := (if IntKind.i64.wrap (p - g) > IntKind.i64.wrap (g - p) then IntKind.i64.wrap (p - g) else IntKind.i64.wrap (g - p)) == (0 : Int)
noncomputable def pChk_b11 (p g s m : Int) : Bool := decide (rT (s - (1 : Int)) > if IntKind.i64.wrap (p - g) > IntKind.i64.wrap (g - p) then IntKind.i64.wrap (p - g) else IntKind.i64.wrap (g - p))
noncomputable def pChk_c0 (p g s m : Int) : Int := (bif (decide (p ≥ (0 : Int))) then (bif (!decide (p ≤ (63000 : Int))) then ((2 : Int)) else (bif (decide (g ≥ (0 : Int))) then (bif (!decide (g ≤ (63000 : Int))) then ((2 : Int)) else (bif (decide (m < (1 : Int))) then ((2 : Int)) else (bif (decide (m > (20 : Int))) then ((2 : Int)) else (bif (decide (s < (0 : Int))) then ((2 : Int)) else (bif (decide (s > m)) then ((2 : Int)) else (bif (decide (s > (0 : Int))) then (bif ((if IntKind.i64.wrap (p - g) > IntKind.i64.wrap (g - p) then IntKind.i64.wrap (p - g) else IntKind.i64.wrap (g - p)) == (0 : Int)) then ((3 : Int)) else (bif (decide (rT (s - (1 : Int)) > if IntKind.i64.wrap (p - g) > IntKind.i64.wrap (g - p) then IntKind.i64.wrap (p - g) else IntKind.i64.wrap (g - p))) then ((3 : Int)) else ((0 : Int)))) else ((0 : Int)))))))) else ((2 : Int)))) else ((2 : Int)))
theorem pChk_p0 (p g s m : Int)  (hq0 : (decide (p ≥ (0 : Int))) = true) (hq1 : (!decide (p ≤ (63000 : Int))) = true) : Known Try.prog [] 11 [.agg #[.int .i64 p, .int .i64 g, .int .i64 s, .int .i64 m]] (.int .i64 ((2 : Int))) :=
  open_res mix tabA_ok (T := tabA) (fuel := 3000) (ans := [(0, .b 1), (3, .b 1)]) (log := [(!decide (p ≤ (63000 : Int))) = true, (decide (p ≥ (0 : Int))) = true]) (by kernel_rfl) ⟨hq1, hq0, trivial⟩ (by kernel_rfl)
theorem pChk_p1 (p g s m : Int)  (hq0 : (decide (p ≥ (0 : Int))) = true) (hq1 : (!decide (p ≤ (63000 : Int))) = false) (hq2 : (decide (g ≥ (0 : Int))) = true) (hq3 : (!decide (g ≤ (63000 : Int))) = true) : Known Try.prog [] 11 [.agg #[.int .i64 p, .int .i64 g, .int .i64 s, .int .i64 m]] (.int .i64 ((2 : Int))) :=
  open_res mix tabA_ok (T := tabA) (fuel := 3000) (ans := [(0, .b 1), (3, .b 0), (6, .b 1), (11, .b 1)]) (log := [(!decide (g ≤ (63000 : Int))) = true, (decide (g ≥ (0 : Int))) = true, (!decide (p ≤ (63000 : Int))) = false, (decide (p ≥ (0 : Int))) = true]) (by kernel_rfl) ⟨hq3, hq2, hq1, hq0, trivial⟩ (by kernel_rfl)
theorem pChk_p2 (p g s m : Int)  (hq0 : (decide (p ≥ (0 : Int))) = true) (hq1 : (!decide (p ≤ (63000 : Int))) = false) (hq2 : (decide (g ≥ (0 : Int))) = true) (hq3 : (!decide (g ≤ (63000 : Int))) = false) (hq4 : (decide (m < (1 : Int))) = true) : Known Try.prog [] 11 [.agg #[.int .i64 p, .int .i64 g, .int .i64 s, .int .i64 m]] (.int .i64 ((2 : Int))) :=
  open_res mix tabA_ok (T := tabA) (fuel := 3000) (ans := [(0, .b 1), (3, .b 0), (6, .b 1), (11, .b 0), (15, .b 1)]) (log := [(decide (m < (1 : Int))) = true, (!decide (g ≤ (63000 : Int))) = false, (decide (g ≥ (0 : Int))) = true, (!decide (p ≤ (63000 : Int))) = false, (decide (p ≥ (0 : Int))) = true]) (by kernel_rfl) ⟨hq4, hq3, hq2, hq1, hq0, trivial⟩ (by kernel_rfl)
theorem pChk_p3 (p g s m : Int)  (hq0 : (decide (p ≥ (0 : Int))) = true) (hq1 : (!decide (p ≤ (63000 : Int))) = false) (hq2 : (decide (g ≥ (0 : Int))) = true) (hq3 : (!decide (g ≤ (63000 : Int))) = false) (hq4 : (decide (m < (1 : Int))) = false) (hq5 : (decide (m > (20 : Int))) = true) : Known Try.prog [] 11 [.agg #[.int .i64 p, .int .i64 g, .int .i64 s, .int .i64 m]] (.int .i64 ((2 : Int))) :=
  open_res mix tabA_ok (T := tabA) (fuel := 3000) (ans := [(0, .b 1), (3, .b 0), (6, .b 1), (11, .b 0), (15, .b 0), (19, .b 1)]) (log := [(decide (m > (20 : Int))) = true, (decide (m < (1 : Int))) = false, (!decide (g ≤ (63000 : Int))) = false, (decide (g ≥ (0 : Int))) = true, (!decide (p ≤ (63000 : Int))) = false, (decide (p ≥ (0 : Int))) = true]) (by kernel_rfl) ⟨hq5, hq4, hq3, hq2, hq1, hq0, trivial⟩ (by kernel_rfl)
theorem pChk_p4 (p g s m : Int)  (hq0 : (decide (p ≥ (0 : Int))) = true) (hq1 : (!decide (p ≤ (63000 : Int))) = false) (hq2 : (decide (g ≥ (0 : Int))) = true) (hq3 : (!decide (g ≤ (63000 : Int))) = false) (hq4 : (decide (m < (1 : Int))) = false) (hq5 : (decide (m > (20 : Int))) = false) (hq6 : (decide (s < (0 : Int))) = true) : Known Try.prog [] 11 [.agg #[.int .i64 p, .int .i64 g, .int .i64 s, .int .i64 m]] (.int .i64 ((2 : Int))) :=
  open_res mix tabA_ok (T := tabA) (fuel := 3000) (ans := [(0, .b 1), (3, .b 0), (6, .b 1), (11, .b 0), (15, .b 0), (19, .b 0), (23, .b 1)]) (log := [(decide (s < (0 : Int))) = true, (decide (m > (20 : Int))) = false, (decide (m < (1 : Int))) = false, (!decide (g ≤ (63000 : Int))) = false, (decide (g ≥ (0 : Int))) = true, (!decide (p ≤ (63000 : Int))) = false, (decide (p ≥ (0 : Int))) = true]) (by kernel_rfl) ⟨hq6, hq5, hq4, hq3, hq2, hq1, hq0, trivial⟩ (by kernel_rfl)
theorem pChk_p5 (p g s m : Int)  (hq0 : (decide (p ≥ (0 : Int))) = true) (hq1 : (!decide (p ≤ (63000 : Int))) = false) (hq2 : (decide (g ≥ (0 : Int))) = true) (hq3 : (!decide (g ≤ (63000 : Int))) = false) (hq4 : (decide (m < (1 : Int))) = false) (hq5 : (decide (m > (20 : Int))) = false) (hq6 : (decide (s < (0 : Int))) = false) (hq7 : (decide (s > m)) = true) : Known Try.prog [] 11 [.agg #[.int .i64 p, .int .i64 g, .int .i64 s, .int .i64 m]] (.int .i64 ((2 : Int))) :=
  open_res mix tabA_ok (T := tabA) (fuel := 3000) (ans := [(0, .b 1), (3, .b 0), (6, .b 1), (11, .b 0), (15, .b 0), (19, .b 0), (23, .b 0), (29, .b 1)]) (log := [(decide (s > m)) = true, (decide (s < (0 : Int))) = false, (decide (m > (20 : Int))) = false, (decide (m < (1 : Int))) = false, (!decide (g ≤ (63000 : Int))) = false, (decide (g ≥ (0 : Int))) = true, (!decide (p ≤ (63000 : Int))) = false, (decide (p ≥ (0 : Int))) = true]) (by kernel_rfl) ⟨hq7, hq6, hq5, hq4, hq3, hq2, hq1, hq0, trivial⟩ (by kernel_rfl)
theorem pChk_p6 (p g s m : Int)  (hq0 : (decide (p ≥ (0 : Int))) = true) (hq1 : (!decide (p ≤ (63000 : Int))) = false) (hq2 : (decide (g ≥ (0 : Int))) = true) (hq3 : (!decide (g ≤ (63000 : Int))) = false) (hq4 : (decide (m < (1 : Int))) = false) (hq5 : (decide (m > (20 : Int))) = false) (hq6 : (decide (s < (0 : Int))) = false) (hq7 : (decide (s > m)) = false) (hq8 : (decide (s > (0 : Int))) = true) (hq9 : (pChk_b9 p g s m) = true) : Known Try.prog [] 11 [.agg #[.int .i64 p, .int .i64 g, .int .i64 s, .int .i64 m]] (.int .i64 ((3 : Int))) :=
  open_res mix tabA_ok (T := tabA) (fuel := 3000) (ans := [(0, .b 1), (3, .b 0), (6, .b 1), (11, .b 0), (15, .b 0), (19, .b 0), (23, .b 0), (29, .b 0), (30, .b 1), (33, .b 1)]) (log := [(pChk_b9 p g s m) = true, (decide (s > (0 : Int))) = true, (decide (s > m)) = false, (decide (s < (0 : Int))) = false, (decide (m > (20 : Int))) = false, (decide (m < (1 : Int))) = false, (!decide (g ≤ (63000 : Int))) = false, (decide (g ≥ (0 : Int))) = true, (!decide (p ≤ (63000 : Int))) = false, (decide (p ≥ (0 : Int))) = true]) (by kernel_rfl) ⟨hq9, hq8, hq7, hq6, hq5, hq4, hq3, hq2, hq1, hq0, trivial⟩ (by kernel_rfl)
theorem pChk_p7 (p g s m : Int)  (hq0 : (decide (p ≥ (0 : Int))) = true) (hq1 : (!decide (p ≤ (63000 : Int))) = false) (hq2 : (decide (g ≥ (0 : Int))) = true) (hq3 : (!decide (g ≤ (63000 : Int))) = false) (hq4 : (decide (m < (1 : Int))) = false) (hq5 : (decide (m > (20 : Int))) = false) (hq6 : (decide (s < (0 : Int))) = false) (hq7 : (decide (s > m)) = false) (hq8 : (decide (s > (0 : Int))) = true) (hq9 : (pChk_b9 p g s m) = false) (hq10 : (decide ((0 : Int) ≤ s ∧ s ≤ (21 : Int))) = true) (hq11 : (pChk_b11 p g s m) = true) : Known Try.prog [] 11 [.agg #[.int .i64 p, .int .i64 g, .int .i64 s, .int .i64 m]] (.int .i64 ((3 : Int))) :=
  open_res mix tabA_ok (T := tabA) (fuel := 3000) (ans := [(0, .b 1), (3, .b 0), (6, .b 1), (11, .b 0), (15, .b 0), (19, .b 0), (23, .b 0), (29, .b 0), (30, .b 1), (33, .b 0), (36, .b 1), (42, .b 1)]) (log := [(pChk_b11 p g s m) = true, (decide ((0 : Int) ≤ s ∧ s ≤ (21 : Int))) = true, (pChk_b9 p g s m) = false, (decide (s > (0 : Int))) = true, (decide (s > m)) = false, (decide (s < (0 : Int))) = false, (decide (m > (20 : Int))) = false, (decide (m < (1 : Int))) = false, (!decide (g ≤ (63000 : Int))) = false, (decide (g ≥ (0 : Int))) = true, (!decide (p ≤ (63000 : Int))) = false, (decide (p ≥ (0 : Int))) = true]) (by kernel_rfl) ⟨hq11, hq10, hq9, hq8, hq7, hq6, hq5, hq4, hq3, hq2, hq1, hq0, trivial⟩ (by kernel_rfl)
theorem pChk_p8 (p g s m : Int)  (hq0 : (decide (p ≥ (0 : Int))) = true) (hq1 : (!decide (p ≤ (63000 : Int))) = false) (hq2 : (decide (g ≥ (0 : Int))) = true) (hq3 : (!decide (g ≤ (63000 : Int))) = false) (hq4 : (decide (m < (1 : Int))) = false) (hq5 : (decide (m > (20 : Int))) = false) (hq6 : (decide (s < (0 : Int))) = false) (hq7 : (decide (s > m)) = false) (hq8 : (decide (s > (0 : Int))) = true) (hq9 : (pChk_b9 p g s m) = false) (hq10 : (decide ((0 : Int) ≤ s ∧ s ≤ (21 : Int))) = true) (hq11 : (pChk_b11 p g s m) = false) : Known Try.prog [] 11 [.agg #[.int .i64 p, .int .i64 g, .int .i64 s, .int .i64 m]] (.int .i64 ((0 : Int))) :=
  open_res mix tabA_ok (T := tabA) (fuel := 3000) (ans := [(0, .b 1), (3, .b 0), (6, .b 1), (11, .b 0), (15, .b 0), (19, .b 0), (23, .b 0), (29, .b 0), (30, .b 1), (33, .b 0), (36, .b 1), (42, .b 0)]) (log := [(pChk_b11 p g s m) = false, (decide ((0 : Int) ≤ s ∧ s ≤ (21 : Int))) = true, (pChk_b9 p g s m) = false, (decide (s > (0 : Int))) = true, (decide (s > m)) = false, (decide (s < (0 : Int))) = false, (decide (m > (20 : Int))) = false, (decide (m < (1 : Int))) = false, (!decide (g ≤ (63000 : Int))) = false, (decide (g ≥ (0 : Int))) = true, (!decide (p ≤ (63000 : Int))) = false, (decide (p ≥ (0 : Int))) = true]) (by kernel_rfl) ⟨hq11, hq10, hq9, hq8, hq7, hq6, hq5, hq4, hq3, hq2, hq1, hq0, trivial⟩ (by kernel_rfl)
theorem pChk_p9 (p g s m : Int)  (hq0 : (decide (p ≥ (0 : Int))) = true) (hq1 : (!decide (p ≤ (63000 : Int))) = false) (hq2 : (decide (g ≥ (0 : Int))) = true) (hq3 : (!decide (g ≤ (63000 : Int))) = false) (hq4 : (decide (m < (1 : Int))) = false) (hq5 : (decide (m > (20 : Int))) = false) (hq6 : (decide (s < (0 : Int))) = false) (hq7 : (decide (s > m)) = false) (hq8 : (decide (s > (0 : Int))) = false) : Known Try.prog [] 11 [.agg #[.int .i64 p, .int .i64 g, .int .i64 s, .int .i64 m]] (.int .i64 ((0 : Int))) :=
  open_res mix tabA_ok (T := tabA) (fuel := 3000) (ans := [(0, .b 1), (3, .b 0), (6, .b 1), (11, .b 0), (15, .b 0), (19, .b 0), (23, .b 0), (29, .b 0), (30, .b 0)]) (log := [(decide (s > (0 : Int))) = false, (decide (s > m)) = false, (decide (s < (0 : Int))) = false, (decide (m > (20 : Int))) = false, (decide (m < (1 : Int))) = false, (!decide (g ≤ (63000 : Int))) = false, (decide (g ≥ (0 : Int))) = true, (!decide (p ≤ (63000 : Int))) = false, (decide (p ≥ (0 : Int))) = true]) (by kernel_rfl) ⟨hq8, hq7, hq6, hq5, hq4, hq3, hq2, hq1, hq0, trivial⟩ (by kernel_rfl)
theorem pChk_p10 (p g s m : Int)  (hq0 : (decide (p ≥ (0 : Int))) = true) (hq1 : (!decide (p ≤ (63000 : Int))) = false) (hq2 : (decide (g ≥ (0 : Int))) = false) : Known Try.prog [] 11 [.agg #[.int .i64 p, .int .i64 g, .int .i64 s, .int .i64 m]] (.int .i64 ((2 : Int))) :=
  open_res mix tabA_ok (T := tabA) (fuel := 3000) (ans := [(0, .b 1), (3, .b 0), (6, .b 0)]) (log := [(decide (g ≥ (0 : Int))) = false, (!decide (p ≤ (63000 : Int))) = false, (decide (p ≥ (0 : Int))) = true]) (by kernel_rfl) ⟨hq2, hq1, hq0, trivial⟩ (by kernel_rfl)
theorem pChk_p11 (p g s m : Int)  (hq0 : (decide (p ≥ (0 : Int))) = false) : Known Try.prog [] 11 [.agg #[.int .i64 p, .int .i64 g, .int .i64 s, .int .i64 m]] (.int .i64 ((2 : Int))) :=
  open_res mix tabA_ok (T := tabA) (fuel := 3000) (ans := [(0, .b 0)]) (log := [(decide (p ≥ (0 : Int))) = false]) (by kernel_rfl) ⟨hq0, trivial⟩ (by kernel_rfl)
set_option maxHeartbeats 8000000 in
theorem pChk (p g s m : Int)  : Known Try.prog [] 11 [.agg #[.int .i64 p, .int .i64 g, .int .i64 s, .int .i64 m]] (.int .i64 (pChk_c0 p g s m)) := by
  rcases Bool.eq_false_or_eq_true (decide (p ≥ (0 : Int))) with hq0 | hq0
  ·
    rcases Bool.eq_false_or_eq_true (!decide (p ≤ (63000 : Int))) with hq1 | hq1
    ·
      have e0 : pChk_c0 p g s m = ((2 : Int)) := ((bif_t hq0 _ _).trans ((bif_t hq1 _ _).trans rfl)); rw [e0]; exact pChk_p0 p g s m hq0 hq1
    ·
      rcases Bool.eq_false_or_eq_true (decide (g ≥ (0 : Int))) with hq2 | hq2
      ·
        rcases Bool.eq_false_or_eq_true (!decide (g ≤ (63000 : Int))) with hq3 | hq3
        ·
          have e0 : pChk_c0 p g s m = ((2 : Int)) := ((bif_t hq0 _ _).trans ((bif_f hq1 _ _).trans ((bif_t hq2 _ _).trans ((bif_t hq3 _ _).trans rfl)))); rw [e0]; exact pChk_p1 p g s m hq0 hq1 hq2 hq3
        ·
          rcases Bool.eq_false_or_eq_true (decide (m < (1 : Int))) with hq4 | hq4
          ·
            have e0 : pChk_c0 p g s m = ((2 : Int)) := ((bif_t hq0 _ _).trans ((bif_f hq1 _ _).trans ((bif_t hq2 _ _).trans ((bif_f hq3 _ _).trans ((bif_t hq4 _ _).trans rfl))))); rw [e0]; exact pChk_p2 p g s m hq0 hq1 hq2 hq3 hq4
          ·
            rcases Bool.eq_false_or_eq_true (decide (m > (20 : Int))) with hq5 | hq5
            ·
              have e0 : pChk_c0 p g s m = ((2 : Int)) := ((bif_t hq0 _ _).trans ((bif_f hq1 _ _).trans ((bif_t hq2 _ _).trans ((bif_f hq3 _ _).trans ((bif_f hq4 _ _).trans ((bif_t hq5 _ _).trans rfl)))))); rw [e0]; exact pChk_p3 p g s m hq0 hq1 hq2 hq3 hq4 hq5
            ·
              rcases Bool.eq_false_or_eq_true (decide (s < (0 : Int))) with hq6 | hq6
              ·
                have e0 : pChk_c0 p g s m = ((2 : Int)) := ((bif_t hq0 _ _).trans ((bif_f hq1 _ _).trans ((bif_t hq2 _ _).trans ((bif_f hq3 _ _).trans ((bif_f hq4 _ _).trans ((bif_f hq5 _ _).trans ((bif_t hq6 _ _).trans rfl))))))); rw [e0]; exact pChk_p4 p g s m hq0 hq1 hq2 hq3 hq4 hq5 hq6
              ·
                rcases Bool.eq_false_or_eq_true (decide (s > m)) with hq7 | hq7
                ·
                  have e0 : pChk_c0 p g s m = ((2 : Int)) := ((bif_t hq0 _ _).trans ((bif_f hq1 _ _).trans ((bif_t hq2 _ _).trans ((bif_f hq3 _ _).trans ((bif_f hq4 _ _).trans ((bif_f hq5 _ _).trans ((bif_f hq6 _ _).trans ((bif_t hq7 _ _).trans rfl)))))))); rw [e0]; exact pChk_p5 p g s m hq0 hq1 hq2 hq3 hq4 hq5 hq6 hq7
                ·
                  rcases Bool.eq_false_or_eq_true (decide (s > (0 : Int))) with hq8 | hq8
                  ·
                    rcases Bool.eq_false_or_eq_true (pChk_b9 p g s m) with hq9 | hq9
                    ·
                      have e0 : pChk_c0 p g s m = ((3 : Int)) := ((bif_t hq0 _ _).trans ((bif_f hq1 _ _).trans ((bif_t hq2 _ _).trans ((bif_f hq3 _ _).trans ((bif_f hq4 _ _).trans ((bif_f hq5 _ _).trans ((bif_f hq6 _ _).trans ((bif_f hq7 _ _).trans ((bif_t hq8 _ _).trans ((bif_t hq9 _ _).trans rfl)))))))))); rw [e0]; exact pChk_p6 p g s m hq0 hq1 hq2 hq3 hq4 hq5 hq6 hq7 hq8 hq9
                    ·
                      have hq10 : (decide ((0 : Int) ≤ s ∧ s ≤ (21 : Int))) = true := by
                        rcases Bool.eq_false_or_eq_true (decide ((0 : Int) ≤ s ∧ s ≤ (21 : Int))) with h | h
                        · exact h
                        · exfalso; (try simp only [pChk_b9, pChk_b11] at *); (first | (simp_all only [Bool.and_eq_true, Bool.not_eq_true', Bool.false_eq_true, Bool.true_eq_false, reduceCtorEq]; done) | (simp only [sx, sy, eq_self, ne_eq, IntKind.wrap_i64, wrapU64, Int.reduceLT] at * <;> first | contradiction | omega) | (simp_all; done))
                      rcases Bool.eq_false_or_eq_true (pChk_b11 p g s m) with hq11 | hq11
                      ·
                        have e0 : pChk_c0 p g s m = ((3 : Int)) := ((bif_t hq0 _ _).trans ((bif_f hq1 _ _).trans ((bif_t hq2 _ _).trans ((bif_f hq3 _ _).trans ((bif_f hq4 _ _).trans ((bif_f hq5 _ _).trans ((bif_f hq6 _ _).trans ((bif_f hq7 _ _).trans ((bif_t hq8 _ _).trans ((bif_f hq9 _ _).trans ((bif_t hq11 _ _).trans rfl))))))))))); rw [e0]; exact pChk_p7 p g s m hq0 hq1 hq2 hq3 hq4 hq5 hq6 hq7 hq8 hq9 hq10 hq11
                      ·
                        have e0 : pChk_c0 p g s m = ((0 : Int)) := ((bif_t hq0 _ _).trans ((bif_f hq1 _ _).trans ((bif_t hq2 _ _).trans ((bif_f hq3 _ _).trans ((bif_f hq4 _ _).trans ((bif_f hq5 _ _).trans ((bif_f hq6 _ _).trans ((bif_f hq7 _ _).trans ((bif_t hq8 _ _).trans ((bif_f hq9 _ _).trans ((bif_f hq11 _ _).trans rfl))))))))))); rw [e0]; exact pChk_p8 p g s m hq0 hq1 hq2 hq3 hq4 hq5 hq6 hq7 hq8 hq9 hq10 hq11
                  ·
                    have e0 : pChk_c0 p g s m = ((0 : Int)) := ((bif_t hq0 _ _).trans ((bif_f hq1 _ _).trans ((bif_t hq2 _ _).trans ((bif_f hq3 _ _).trans ((bif_f hq4 _ _).trans ((bif_f hq5 _ _).trans ((bif_f hq6 _ _).trans ((bif_f hq7 _ _).trans ((bif_f hq8 _ _).trans rfl))))))))); rw [e0]; exact pChk_p9 p g s m hq0 hq1 hq2 hq3 hq4 hq5 hq6 hq7 hq8
      ·
        have e0 : pChk_c0 p g s m = ((2 : Int)) := ((bif_t hq0 _ _).trans ((bif_f hq1 _ _).trans ((bif_f hq2 _ _).trans rfl))); rw [e0]; exact pChk_p10 p g s m hq0 hq1 hq2
  ·
    have e0 : pChk_c0 p g s m = ((2 : Int)) := ((bif_f hq0 _ _).trans rfl); rw [e0]; exact pChk_p11 p g s m hq0
noncomputable def pChk_k : List Value → Option Value
  | [.agg ⟨[.int .i64 p, .int .i64 g, .int .i64 s, .int .i64 m]⟩] => some (.int .i64 (pChk_c0 p g s m))
  | _ => none
theorem pChk_ok : ∀ args v, pChk_k args = some v → Known Try.prog [] 11 args v := by
  intro args v h
  unfold pChk_k at h
  split at h
  · injection h with h; subst h; exact pChk _ _ _ _
  · cases h

noncomputable def rChk_b9 (p g s m : Int) : Bool := (if IntKind.i64.wrap (g - p) > IntKind.i64.wrap (p - g) then IntKind.i64.wrap (g - p) else IntKind.i64.wrap (p - g)) == (0 : Int)
noncomputable def rChk_b10 (p g s m : Int) : Bool := decide ((0 : Int) ≤ IntKind.i64.wrap (s - (1 : Int)) ∧ IntKind.i64.wrap (s - (1 : Int)) ≤ (21 : Int))
noncomputable def rChk_b11 (p g s m : Int) : Bool := decide (rT (IntKind.i64.wrap (s - (1 : Int))) > if IntKind.i64.wrap (g - p) > IntKind.i64.wrap (p - g) then IntKind.i64.wrap (g - p) else IntKind.i64.wrap (p - g))
noncomputable def rChk_c0 (p g s m : Int) : Int := (bif (decide (p < (0 : Int))) then ((2 : Int)) else (bif (decide (p > (63000 : Int))) then ((2 : Int)) else (bif (decide (g < (0 : Int))) then ((2 : Int)) else (bif (decide (g > (63000 : Int))) then ((2 : Int)) else (bif (decide (m < (1 : Int))) then ((2 : Int)) else (bif (decide (m > (20 : Int))) then ((2 : Int)) else (bif (decide (s < (0 : Int))) then ((2 : Int)) else (bif (decide (s > m)) then ((2 : Int)) else (bif (decide (s > (0 : Int))) then (bif ((if IntKind.i64.wrap (g - p) > IntKind.i64.wrap (p - g) then IntKind.i64.wrap (g - p) else IntKind.i64.wrap (p - g)) == (0 : Int)) then ((3 : Int)) else (bif (decide (rT (IntKind.i64.wrap (s - (1 : Int))) > if IntKind.i64.wrap (g - p) > IntKind.i64.wrap (p - g) then IntKind.i64.wrap (g - p) else IntKind.i64.wrap (p - g))) then ((3 : Int)) else ((0 : Int)))) else ((0 : Int)))))))))))
theorem rChk_p0 (p g s m : Int)  (hq0 : (decide (p < (0 : Int))) = true) : Known Try.prog [] 12 [.agg #[.int .i64 p, .int .i64 g, .int .i64 s, .int .i64 m]] (.int .i64 ((2 : Int))) :=
  open_res mix tabA_ok (T := tabA) (fuel := 3000) (ans := [(0, .b 1)]) (log := [(decide (p < (0 : Int))) = true]) (by kernel_rfl) ⟨hq0, trivial⟩ (by kernel_rfl)
theorem rChk_p1 (p g s m : Int)  (hq0 : (decide (p < (0 : Int))) = false) (hq1 : (decide (p > (63000 : Int))) = true) : Known Try.prog [] 12 [.agg #[.int .i64 p, .int .i64 g, .int .i64 s, .int .i64 m]] (.int .i64 ((2 : Int))) :=
  open_res mix tabA_ok (T := tabA) (fuel := 3000) (ans := [(0, .b 0), (3, .b 1)]) (log := [(decide (p > (63000 : Int))) = true, (decide (p < (0 : Int))) = false]) (by kernel_rfl) ⟨hq1, hq0, trivial⟩ (by kernel_rfl)
theorem rChk_p2 (p g s m : Int)  (hq0 : (decide (p < (0 : Int))) = false) (hq1 : (decide (p > (63000 : Int))) = false) (hq2 : (decide (g < (0 : Int))) = true) : Known Try.prog [] 12 [.agg #[.int .i64 p, .int .i64 g, .int .i64 s, .int .i64 m]] (.int .i64 ((2 : Int))) :=
  open_res mix tabA_ok (T := tabA) (fuel := 3000) (ans := [(0, .b 0), (3, .b 0), (6, .b 1)]) (log := [(decide (g < (0 : Int))) = true, (decide (p > (63000 : Int))) = false, (decide (p < (0 : Int))) = false]) (by kernel_rfl) ⟨hq2, hq1, hq0, trivial⟩ (by kernel_rfl)
theorem rChk_p3 (p g s m : Int)  (hq0 : (decide (p < (0 : Int))) = false) (hq1 : (decide (p > (63000 : Int))) = false) (hq2 : (decide (g < (0 : Int))) = false) (hq3 : (decide (g > (63000 : Int))) = true) : Known Try.prog [] 12 [.agg #[.int .i64 p, .int .i64 g, .int .i64 s, .int .i64 m]] (.int .i64 ((2 : Int))) :=
  open_res mix tabA_ok (T := tabA) (fuel := 3000) (ans := [(0, .b 0), (3, .b 0), (6, .b 0), (9, .b 1)]) (log := [(decide (g > (63000 : Int))) = true, (decide (g < (0 : Int))) = false, (decide (p > (63000 : Int))) = false, (decide (p < (0 : Int))) = false]) (by kernel_rfl) ⟨hq3, hq2, hq1, hq0, trivial⟩ (by kernel_rfl)
theorem rChk_p4 (p g s m : Int)  (hq0 : (decide (p < (0 : Int))) = false) (hq1 : (decide (p > (63000 : Int))) = false) (hq2 : (decide (g < (0 : Int))) = false) (hq3 : (decide (g > (63000 : Int))) = false) (hq4 : (decide (m < (1 : Int))) = true) : Known Try.prog [] 12 [.agg #[.int .i64 p, .int .i64 g, .int .i64 s, .int .i64 m]] (.int .i64 ((2 : Int))) :=
  open_res mix tabA_ok (T := tabA) (fuel := 3000) (ans := [(0, .b 0), (3, .b 0), (6, .b 0), (9, .b 0), (12, .b 1)]) (log := [(decide (m < (1 : Int))) = true, (decide (g > (63000 : Int))) = false, (decide (g < (0 : Int))) = false, (decide (p > (63000 : Int))) = false, (decide (p < (0 : Int))) = false]) (by kernel_rfl) ⟨hq4, hq3, hq2, hq1, hq0, trivial⟩ (by kernel_rfl)
theorem rChk_p5 (p g s m : Int)  (hq0 : (decide (p < (0 : Int))) = false) (hq1 : (decide (p > (63000 : Int))) = false) (hq2 : (decide (g < (0 : Int))) = false) (hq3 : (decide (g > (63000 : Int))) = false) (hq4 : (decide (m < (1 : Int))) = false) (hq5 : (decide (m > (20 : Int))) = true) : Known Try.prog [] 12 [.agg #[.int .i64 p, .int .i64 g, .int .i64 s, .int .i64 m]] (.int .i64 ((2 : Int))) :=
  open_res mix tabA_ok (T := tabA) (fuel := 3000) (ans := [(0, .b 0), (3, .b 0), (6, .b 0), (9, .b 0), (12, .b 0), (15, .b 1)]) (log := [(decide (m > (20 : Int))) = true, (decide (m < (1 : Int))) = false, (decide (g > (63000 : Int))) = false, (decide (g < (0 : Int))) = false, (decide (p > (63000 : Int))) = false, (decide (p < (0 : Int))) = false]) (by kernel_rfl) ⟨hq5, hq4, hq3, hq2, hq1, hq0, trivial⟩ (by kernel_rfl)
theorem rChk_p6 (p g s m : Int)  (hq0 : (decide (p < (0 : Int))) = false) (hq1 : (decide (p > (63000 : Int))) = false) (hq2 : (decide (g < (0 : Int))) = false) (hq3 : (decide (g > (63000 : Int))) = false) (hq4 : (decide (m < (1 : Int))) = false) (hq5 : (decide (m > (20 : Int))) = false) (hq6 : (decide (s < (0 : Int))) = true) : Known Try.prog [] 12 [.agg #[.int .i64 p, .int .i64 g, .int .i64 s, .int .i64 m]] (.int .i64 ((2 : Int))) :=
  open_res mix tabA_ok (T := tabA) (fuel := 3000) (ans := [(0, .b 0), (3, .b 0), (6, .b 0), (9, .b 0), (12, .b 0), (15, .b 0), (20, .b 1)]) (log := [(decide (s < (0 : Int))) = true, (decide (m > (20 : Int))) = false, (decide (m < (1 : Int))) = false, (decide (g > (63000 : Int))) = false, (decide (g < (0 : Int))) = false, (decide (p > (63000 : Int))) = false, (decide (p < (0 : Int))) = false]) (by kernel_rfl) ⟨hq6, hq5, hq4, hq3, hq2, hq1, hq0, trivial⟩ (by kernel_rfl)
theorem rChk_p7 (p g s m : Int)  (hq0 : (decide (p < (0 : Int))) = false) (hq1 : (decide (p > (63000 : Int))) = false) (hq2 : (decide (g < (0 : Int))) = false) (hq3 : (decide (g > (63000 : Int))) = false) (hq4 : (decide (m < (1 : Int))) = false) (hq5 : (decide (m > (20 : Int))) = false) (hq6 : (decide (s < (0 : Int))) = false) (hq7 : (decide (s > m)) = true) : Known Try.prog [] 12 [.agg #[.int .i64 p, .int .i64 g, .int .i64 s, .int .i64 m]] (.int .i64 ((2 : Int))) :=
  open_res mix tabA_ok (T := tabA) (fuel := 3000) (ans := [(0, .b 0), (3, .b 0), (6, .b 0), (9, .b 0), (12, .b 0), (15, .b 0), (20, .b 0), (26, .b 1)]) (log := [(decide (s > m)) = true, (decide (s < (0 : Int))) = false, (decide (m > (20 : Int))) = false, (decide (m < (1 : Int))) = false, (decide (g > (63000 : Int))) = false, (decide (g < (0 : Int))) = false, (decide (p > (63000 : Int))) = false, (decide (p < (0 : Int))) = false]) (by kernel_rfl) ⟨hq7, hq6, hq5, hq4, hq3, hq2, hq1, hq0, trivial⟩ (by kernel_rfl)
theorem rChk_p8 (p g s m : Int)  (hq0 : (decide (p < (0 : Int))) = false) (hq1 : (decide (p > (63000 : Int))) = false) (hq2 : (decide (g < (0 : Int))) = false) (hq3 : (decide (g > (63000 : Int))) = false) (hq4 : (decide (m < (1 : Int))) = false) (hq5 : (decide (m > (20 : Int))) = false) (hq6 : (decide (s < (0 : Int))) = false) (hq7 : (decide (s > m)) = false) (hq8 : (decide (s > (0 : Int))) = true) (hq9 : (rChk_b9 p g s m) = true) : Known Try.prog [] 12 [.agg #[.int .i64 p, .int .i64 g, .int .i64 s, .int .i64 m]] (.int .i64 ((3 : Int))) :=
  open_res mix tabA_ok (T := tabA) (fuel := 3000) (ans := [(0, .b 0), (3, .b 0), (6, .b 0), (9, .b 0), (12, .b 0), (15, .b 0), (20, .b 0), (26, .b 0), (27, .b 1), (31, .b 1)]) (log := [(rChk_b9 p g s m) = true, (decide (s > (0 : Int))) = true, (decide (s > m)) = false, (decide (s < (0 : Int))) = false, (decide (m > (20 : Int))) = false, (decide (m < (1 : Int))) = false, (decide (g > (63000 : Int))) = false, (decide (g < (0 : Int))) = false, (decide (p > (63000 : Int))) = false, (decide (p < (0 : Int))) = false]) (by kernel_rfl) ⟨hq9, hq8, hq7, hq6, hq5, hq4, hq3, hq2, hq1, hq0, trivial⟩ (by kernel_rfl)
theorem rChk_p9 (p g s m : Int)  (hq0 : (decide (p < (0 : Int))) = false) (hq1 : (decide (p > (63000 : Int))) = false) (hq2 : (decide (g < (0 : Int))) = false) (hq3 : (decide (g > (63000 : Int))) = false) (hq4 : (decide (m < (1 : Int))) = false) (hq5 : (decide (m > (20 : Int))) = false) (hq6 : (decide (s < (0 : Int))) = false) (hq7 : (decide (s > m)) = false) (hq8 : (decide (s > (0 : Int))) = true) (hq9 : (rChk_b9 p g s m) = false) (hq10 : (rChk_b10 p g s m) = true) (hq11 : (rChk_b11 p g s m) = true) : Known Try.prog [] 12 [.agg #[.int .i64 p, .int .i64 g, .int .i64 s, .int .i64 m]] (.int .i64 ((3 : Int))) :=
  open_res mix tabA_ok (T := tabA) (fuel := 3000) (ans := [(0, .b 0), (3, .b 0), (6, .b 0), (9, .b 0), (12, .b 0), (15, .b 0), (20, .b 0), (26, .b 0), (27, .b 1), (31, .b 0), (35, .b 1), (42, .b 1)]) (log := [(rChk_b11 p g s m) = true, (rChk_b10 p g s m) = true, (rChk_b9 p g s m) = false, (decide (s > (0 : Int))) = true, (decide (s > m)) = false, (decide (s < (0 : Int))) = false, (decide (m > (20 : Int))) = false, (decide (m < (1 : Int))) = false, (decide (g > (63000 : Int))) = false, (decide (g < (0 : Int))) = false, (decide (p > (63000 : Int))) = false, (decide (p < (0 : Int))) = false]) (by kernel_rfl) ⟨hq11, hq10, hq9, hq8, hq7, hq6, hq5, hq4, hq3, hq2, hq1, hq0, trivial⟩ (by kernel_rfl)
theorem rChk_p10 (p g s m : Int)  (hq0 : (decide (p < (0 : Int))) = false) (hq1 : (decide (p > (63000 : Int))) = false) (hq2 : (decide (g < (0 : Int))) = false) (hq3 : (decide (g > (63000 : Int))) = false) (hq4 : (decide (m < (1 : Int))) = false) (hq5 : (decide (m > (20 : Int))) = false) (hq6 : (decide (s < (0 : Int))) = false) (hq7 : (decide (s > m)) = false) (hq8 : (decide (s > (0 : Int))) = true) (hq9 : (rChk_b9 p g s m) = false) (hq10 : (rChk_b10 p g s m) = true) (hq11 : (rChk_b11 p g s m) = false) : Known Try.prog [] 12 [.agg #[.int .i64 p, .int .i64 g, .int .i64 s, .int .i64 m]] (.int .i64 ((0 : Int))) :=
  open_res mix tabA_ok (T := tabA) (fuel := 3000) (ans := [(0, .b 0), (3, .b 0), (6, .b 0), (9, .b 0), (12, .b 0), (15, .b 0), (20, .b 0), (26, .b 0), (27, .b 1), (31, .b 0), (35, .b 1), (42, .b 0)]) (log := [(rChk_b11 p g s m) = false, (rChk_b10 p g s m) = true, (rChk_b9 p g s m) = false, (decide (s > (0 : Int))) = true, (decide (s > m)) = false, (decide (s < (0 : Int))) = false, (decide (m > (20 : Int))) = false, (decide (m < (1 : Int))) = false, (decide (g > (63000 : Int))) = false, (decide (g < (0 : Int))) = false, (decide (p > (63000 : Int))) = false, (decide (p < (0 : Int))) = false]) (by kernel_rfl) ⟨hq11, hq10, hq9, hq8, hq7, hq6, hq5, hq4, hq3, hq2, hq1, hq0, trivial⟩ (by kernel_rfl)
theorem rChk_p11 (p g s m : Int)  (hq0 : (decide (p < (0 : Int))) = false) (hq1 : (decide (p > (63000 : Int))) = false) (hq2 : (decide (g < (0 : Int))) = false) (hq3 : (decide (g > (63000 : Int))) = false) (hq4 : (decide (m < (1 : Int))) = false) (hq5 : (decide (m > (20 : Int))) = false) (hq6 : (decide (s < (0 : Int))) = false) (hq7 : (decide (s > m)) = false) (hq8 : (decide (s > (0 : Int))) = false) : Known Try.prog [] 12 [.agg #[.int .i64 p, .int .i64 g, .int .i64 s, .int .i64 m]] (.int .i64 ((0 : Int))) :=
  open_res mix tabA_ok (T := tabA) (fuel := 3000) (ans := [(0, .b 0), (3, .b 0), (6, .b 0), (9, .b 0), (12, .b 0), (15, .b 0), (20, .b 0), (26, .b 0), (27, .b 0)]) (log := [(decide (s > (0 : Int))) = false, (decide (s > m)) = false, (decide (s < (0 : Int))) = false, (decide (m > (20 : Int))) = false, (decide (m < (1 : Int))) = false, (decide (g > (63000 : Int))) = false, (decide (g < (0 : Int))) = false, (decide (p > (63000 : Int))) = false, (decide (p < (0 : Int))) = false]) (by kernel_rfl) ⟨hq8, hq7, hq6, hq5, hq4, hq3, hq2, hq1, hq0, trivial⟩ (by kernel_rfl)
set_option maxHeartbeats 8000000 in
theorem rChk (p g s m : Int)  : Known Try.prog [] 12 [.agg #[.int .i64 p, .int .i64 g, .int .i64 s, .int .i64 m]] (.int .i64 (rChk_c0 p g s m)) := by
  rcases Bool.eq_false_or_eq_true (decide (p < (0 : Int))) with hq0 | hq0
  ·
    have e0 : rChk_c0 p g s m = ((2 : Int)) := ((bif_t hq0 _ _).trans rfl); rw [e0]; exact rChk_p0 p g s m hq0
  ·
    rcases Bool.eq_false_or_eq_true (decide (p > (63000 : Int))) with hq1 | hq1
    ·
      have e0 : rChk_c0 p g s m = ((2 : Int)) := ((bif_f hq0 _ _).trans ((bif_t hq1 _ _).trans rfl)); rw [e0]; exact rChk_p1 p g s m hq0 hq1
    ·
      rcases Bool.eq_false_or_eq_true (decide (g < (0 : Int))) with hq2 | hq2
      ·
        have e0 : rChk_c0 p g s m = ((2 : Int)) := ((bif_f hq0 _ _).trans ((bif_f hq1 _ _).trans ((bif_t hq2 _ _).trans rfl))); rw [e0]; exact rChk_p2 p g s m hq0 hq1 hq2
      ·
        rcases Bool.eq_false_or_eq_true (decide (g > (63000 : Int))) with hq3 | hq3
        ·
          have e0 : rChk_c0 p g s m = ((2 : Int)) := ((bif_f hq0 _ _).trans ((bif_f hq1 _ _).trans ((bif_f hq2 _ _).trans ((bif_t hq3 _ _).trans rfl)))); rw [e0]; exact rChk_p3 p g s m hq0 hq1 hq2 hq3
        ·
          rcases Bool.eq_false_or_eq_true (decide (m < (1 : Int))) with hq4 | hq4
          ·
            have e0 : rChk_c0 p g s m = ((2 : Int)) := ((bif_f hq0 _ _).trans ((bif_f hq1 _ _).trans ((bif_f hq2 _ _).trans ((bif_f hq3 _ _).trans ((bif_t hq4 _ _).trans rfl))))); rw [e0]; exact rChk_p4 p g s m hq0 hq1 hq2 hq3 hq4
          ·
            rcases Bool.eq_false_or_eq_true (decide (m > (20 : Int))) with hq5 | hq5
            ·
              have e0 : rChk_c0 p g s m = ((2 : Int)) := ((bif_f hq0 _ _).trans ((bif_f hq1 _ _).trans ((bif_f hq2 _ _).trans ((bif_f hq3 _ _).trans ((bif_f hq4 _ _).trans ((bif_t hq5 _ _).trans rfl)))))); rw [e0]; exact rChk_p5 p g s m hq0 hq1 hq2 hq3 hq4 hq5
            ·
              rcases Bool.eq_false_or_eq_true (decide (s < (0 : Int))) with hq6 | hq6
              ·
                have e0 : rChk_c0 p g s m = ((2 : Int)) := ((bif_f hq0 _ _).trans ((bif_f hq1 _ _).trans ((bif_f hq2 _ _).trans ((bif_f hq3 _ _).trans ((bif_f hq4 _ _).trans ((bif_f hq5 _ _).trans ((bif_t hq6 _ _).trans rfl))))))); rw [e0]; exact rChk_p6 p g s m hq0 hq1 hq2 hq3 hq4 hq5 hq6
              ·
                rcases Bool.eq_false_or_eq_true (decide (s > m)) with hq7 | hq7
                ·
                  have e0 : rChk_c0 p g s m = ((2 : Int)) := ((bif_f hq0 _ _).trans ((bif_f hq1 _ _).trans ((bif_f hq2 _ _).trans ((bif_f hq3 _ _).trans ((bif_f hq4 _ _).trans ((bif_f hq5 _ _).trans ((bif_f hq6 _ _).trans ((bif_t hq7 _ _).trans rfl)))))))); rw [e0]; exact rChk_p7 p g s m hq0 hq1 hq2 hq3 hq4 hq5 hq6 hq7
                ·
                  rcases Bool.eq_false_or_eq_true (decide (s > (0 : Int))) with hq8 | hq8
                  ·
                    rcases Bool.eq_false_or_eq_true (rChk_b9 p g s m) with hq9 | hq9
                    ·
                      have e0 : rChk_c0 p g s m = ((3 : Int)) := ((bif_f hq0 _ _).trans ((bif_f hq1 _ _).trans ((bif_f hq2 _ _).trans ((bif_f hq3 _ _).trans ((bif_f hq4 _ _).trans ((bif_f hq5 _ _).trans ((bif_f hq6 _ _).trans ((bif_f hq7 _ _).trans ((bif_t hq8 _ _).trans ((bif_t hq9 _ _).trans rfl)))))))))); rw [e0]; exact rChk_p8 p g s m hq0 hq1 hq2 hq3 hq4 hq5 hq6 hq7 hq8 hq9
                    ·
                      have hq10 : (rChk_b10 p g s m) = true := by
                        rcases Bool.eq_false_or_eq_true (rChk_b10 p g s m) with h | h
                        · exact h
                        · exfalso; (try simp only [rChk_b9, rChk_b10, rChk_b11] at *); (first | (simp_all only [Bool.and_eq_true, Bool.not_eq_true', Bool.false_eq_true, Bool.true_eq_false, reduceCtorEq]; done) | (simp only [sx, sy, eq_self, ne_eq, IntKind.wrap_i64, wrapU64, Int.reduceLT] at * <;> first | contradiction | omega) | (simp_all; done))
                      rcases Bool.eq_false_or_eq_true (rChk_b11 p g s m) with hq11 | hq11
                      ·
                        have e0 : rChk_c0 p g s m = ((3 : Int)) := ((bif_f hq0 _ _).trans ((bif_f hq1 _ _).trans ((bif_f hq2 _ _).trans ((bif_f hq3 _ _).trans ((bif_f hq4 _ _).trans ((bif_f hq5 _ _).trans ((bif_f hq6 _ _).trans ((bif_f hq7 _ _).trans ((bif_t hq8 _ _).trans ((bif_f hq9 _ _).trans ((bif_t hq11 _ _).trans rfl))))))))))); rw [e0]; exact rChk_p9 p g s m hq0 hq1 hq2 hq3 hq4 hq5 hq6 hq7 hq8 hq9 hq10 hq11
                      ·
                        have e0 : rChk_c0 p g s m = ((0 : Int)) := ((bif_f hq0 _ _).trans ((bif_f hq1 _ _).trans ((bif_f hq2 _ _).trans ((bif_f hq3 _ _).trans ((bif_f hq4 _ _).trans ((bif_f hq5 _ _).trans ((bif_f hq6 _ _).trans ((bif_f hq7 _ _).trans ((bif_t hq8 _ _).trans ((bif_f hq9 _ _).trans ((bif_f hq11 _ _).trans rfl))))))))))); rw [e0]; exact rChk_p10 p g s m hq0 hq1 hq2 hq3 hq4 hq5 hq6 hq7 hq8 hq9 hq10 hq11
                  ·
                    have e0 : rChk_c0 p g s m = ((0 : Int)) := ((bif_f hq0 _ _).trans ((bif_f hq1 _ _).trans ((bif_f hq2 _ _).trans ((bif_f hq3 _ _).trans ((bif_f hq4 _ _).trans ((bif_f hq5 _ _).trans ((bif_f hq6 _ _).trans ((bif_f hq7 _ _).trans ((bif_f hq8 _ _).trans rfl))))))))); rw [e0]; exact rChk_p11 p g s m hq0 hq1 hq2 hq3 hq4 hq5 hq6 hq7 hq8
noncomputable def rChk_k : List Value → Option Value
  | [.agg ⟨[.int .i64 p, .int .i64 g, .int .i64 s, .int .i64 m]⟩] => some (.int .i64 (rChk_c0 p g s m))
  | _ => none
theorem rChk_ok : ∀ args v, rChk_k args = some v → Known Try.prog [] 12 args v := by
  intro args v h
  unfold rChk_k at h
  split at h
  · injection h with h; subst h; exact rChk _ _ _ _
  · cases h

end Go.Proofs.Ytaohbffjfedcgaa
