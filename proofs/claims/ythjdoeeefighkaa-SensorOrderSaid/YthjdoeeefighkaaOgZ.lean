/- Layer 12: SensorOrder. -/
import Derived.Test.YthjdoeeefighkaaNG
import Derived.Test.YthjdoeeefighkaaND
import Derived.ProofKit
import Derived.IntWalk
namespace Go.Proofs.Ythjdoeeefighkaa
open Go Go.RowKit
set_option linter.unusedVariables false
set_option linter.unusedSimpArgs false
set_option linter.unnecessarySimpa false
set_option maxHeartbeats 8000000
set_option maxRecDepth 100000
noncomputable def ckP_c0 (o : Bool) (f z : Int) : Int := (bif (decide (f < (-1 : Int))) then ((2 : Int)) else (bif (decide (f ≥ (64 : Int))) then ((2 : Int)) else (bif (decide (z < (0 : Int))) then ((2 : Int)) else (bif (decide (z > (1 : Int))) then ((2 : Int)) else (bif (!o) then (bif (!(o == false && (f == (-1 : Int) && z == (0 : Int)))) then ((3 : Int)) else ((0 : Int))) else ((0 : Int)))))))
theorem ckP_p0 (o : Bool) (f z : Int)  (hq0 : (decide (f < (-1 : Int))) = true) : Known Try.prog [] 14 [.agg #[.bool o, .int .i64 f, .int .i64 z]] (.int .i64 ((2 : Int))) :=
  open_res mix GOk.none (T := GTab.none) (fuel := 3000) (ans := [(0, .b 1)]) (log := [(decide (f < (-1 : Int))) = true]) (by kernel_rfl) ⟨hq0, trivial⟩ (by kernel_rfl)
theorem ckP_p1 (o : Bool) (f z : Int)  (hq0 : (decide (f < (-1 : Int))) = false) (hq1 : (decide (f ≥ (64 : Int))) = true) : Known Try.prog [] 14 [.agg #[.bool o, .int .i64 f, .int .i64 z]] (.int .i64 ((2 : Int))) :=
  open_res mix GOk.none (T := GTab.none) (fuel := 3000) (ans := [(0, .b 0), (4, .b 1)]) (log := [(decide (f ≥ (64 : Int))) = true, (decide (f < (-1 : Int))) = false]) (by kernel_rfl) ⟨hq1, hq0, trivial⟩ (by kernel_rfl)
theorem ckP_p2 (o : Bool) (f z : Int)  (hq0 : (decide (f < (-1 : Int))) = false) (hq1 : (decide (f ≥ (64 : Int))) = false) (hq2 : (decide (z < (0 : Int))) = true) : Known Try.prog [] 14 [.agg #[.bool o, .int .i64 f, .int .i64 z]] (.int .i64 ((2 : Int))) :=
  open_res mix GOk.none (T := GTab.none) (fuel := 3000) (ans := [(0, .b 0), (4, .b 0), (8, .b 1)]) (log := [(decide (z < (0 : Int))) = true, (decide (f ≥ (64 : Int))) = false, (decide (f < (-1 : Int))) = false]) (by kernel_rfl) ⟨hq2, hq1, hq0, trivial⟩ (by kernel_rfl)
theorem ckP_p3 (o : Bool) (f z : Int)  (hq0 : (decide (f < (-1 : Int))) = false) (hq1 : (decide (f ≥ (64 : Int))) = false) (hq2 : (decide (z < (0 : Int))) = false) (hq3 : (decide (z > (1 : Int))) = true) : Known Try.prog [] 14 [.agg #[.bool o, .int .i64 f, .int .i64 z]] (.int .i64 ((2 : Int))) :=
  open_res mix GOk.none (T := GTab.none) (fuel := 3000) (ans := [(0, .b 0), (4, .b 0), (8, .b 0), (12, .b 1)]) (log := [(decide (z > (1 : Int))) = true, (decide (z < (0 : Int))) = false, (decide (f ≥ (64 : Int))) = false, (decide (f < (-1 : Int))) = false]) (by kernel_rfl) ⟨hq3, hq2, hq1, hq0, trivial⟩ (by kernel_rfl)
theorem ckP_p4 (o : Bool) (f z : Int)  (hq0 : (decide (f < (-1 : Int))) = false) (hq1 : (decide (f ≥ (64 : Int))) = false) (hq2 : (decide (z < (0 : Int))) = false) (hq3 : (decide (z > (1 : Int))) = false) (hq4 : (!o) = true) (hq5 : (!(o == false && (f == (-1 : Int) && z == (0 : Int)))) = true) : Known Try.prog [] 14 [.agg #[.bool o, .int .i64 f, .int .i64 z]] (.int .i64 ((3 : Int))) :=
  open_res mix GOk.none (T := GTab.none) (fuel := 3000) (ans := [(0, .b 0), (4, .b 0), (8, .b 0), (12, .b 0), (13, .b 1), (17, .b 1)]) (log := [(!(o == false && (f == (-1 : Int) && z == (0 : Int)))) = true, (!o) = true, (decide (z > (1 : Int))) = false, (decide (z < (0 : Int))) = false, (decide (f ≥ (64 : Int))) = false, (decide (f < (-1 : Int))) = false]) (by kernel_rfl) ⟨hq5, hq4, hq3, hq2, hq1, hq0, trivial⟩ (by kernel_rfl)
theorem ckP_p5 (o : Bool) (f z : Int)  (hq0 : (decide (f < (-1 : Int))) = false) (hq1 : (decide (f ≥ (64 : Int))) = false) (hq2 : (decide (z < (0 : Int))) = false) (hq3 : (decide (z > (1 : Int))) = false) (hq4 : (!o) = true) (hq5 : (!(o == false && (f == (-1 : Int) && z == (0 : Int)))) = false) : Known Try.prog [] 14 [.agg #[.bool o, .int .i64 f, .int .i64 z]] (.int .i64 ((0 : Int))) :=
  open_res mix GOk.none (T := GTab.none) (fuel := 3000) (ans := [(0, .b 0), (4, .b 0), (8, .b 0), (12, .b 0), (13, .b 1), (17, .b 0)]) (log := [(!(o == false && (f == (-1 : Int) && z == (0 : Int)))) = false, (!o) = true, (decide (z > (1 : Int))) = false, (decide (z < (0 : Int))) = false, (decide (f ≥ (64 : Int))) = false, (decide (f < (-1 : Int))) = false]) (by kernel_rfl) ⟨hq5, hq4, hq3, hq2, hq1, hq0, trivial⟩ (by kernel_rfl)
theorem ckP_p6 (o : Bool) (f z : Int)  (hq0 : (decide (f < (-1 : Int))) = false) (hq1 : (decide (f ≥ (64 : Int))) = false) (hq2 : (decide (z < (0 : Int))) = false) (hq3 : (decide (z > (1 : Int))) = false) (hq4 : (!o) = false) : Known Try.prog [] 14 [.agg #[.bool o, .int .i64 f, .int .i64 z]] (.int .i64 ((0 : Int))) :=
  open_res mix GOk.none (T := GTab.none) (fuel := 3000) (ans := [(0, .b 0), (4, .b 0), (8, .b 0), (12, .b 0), (13, .b 0)]) (log := [(!o) = false, (decide (z > (1 : Int))) = false, (decide (z < (0 : Int))) = false, (decide (f ≥ (64 : Int))) = false, (decide (f < (-1 : Int))) = false]) (by kernel_rfl) ⟨hq4, hq3, hq2, hq1, hq0, trivial⟩ (by kernel_rfl)
set_option maxHeartbeats 8000000 in
theorem ckP (o : Bool) (f z : Int)  : Known Try.prog [] 14 [.agg #[.bool o, .int .i64 f, .int .i64 z]] (.int .i64 (ckP_c0 o f z)) := by
  rcases Bool.eq_false_or_eq_true (decide (f < (-1 : Int))) with hq0 | hq0
  ·
    have e0 : ckP_c0 o f z = ((2 : Int)) := ((bif_t hq0 _ _).trans rfl); rw [e0]; exact ckP_p0 o f z hq0
  ·
    rcases Bool.eq_false_or_eq_true (decide (f ≥ (64 : Int))) with hq1 | hq1
    ·
      have e0 : ckP_c0 o f z = ((2 : Int)) := ((bif_f hq0 _ _).trans ((bif_t hq1 _ _).trans rfl)); rw [e0]; exact ckP_p1 o f z hq0 hq1
    ·
      rcases Bool.eq_false_or_eq_true (decide (z < (0 : Int))) with hq2 | hq2
      ·
        have e0 : ckP_c0 o f z = ((2 : Int)) := ((bif_f hq0 _ _).trans ((bif_f hq1 _ _).trans ((bif_t hq2 _ _).trans rfl))); rw [e0]; exact ckP_p2 o f z hq0 hq1 hq2
      ·
        rcases Bool.eq_false_or_eq_true (decide (z > (1 : Int))) with hq3 | hq3
        ·
          have e0 : ckP_c0 o f z = ((2 : Int)) := ((bif_f hq0 _ _).trans ((bif_f hq1 _ _).trans ((bif_f hq2 _ _).trans ((bif_t hq3 _ _).trans rfl)))); rw [e0]; exact ckP_p3 o f z hq0 hq1 hq2 hq3
        ·
          rcases Bool.eq_false_or_eq_true (!o) with hq4 | hq4
          ·
            rcases Bool.eq_false_or_eq_true (!(o == false && (f == (-1 : Int) && z == (0 : Int)))) with hq5 | hq5
            ·
              have e0 : ckP_c0 o f z = ((3 : Int)) := ((bif_f hq0 _ _).trans ((bif_f hq1 _ _).trans ((bif_f hq2 _ _).trans ((bif_f hq3 _ _).trans ((bif_t hq4 _ _).trans ((bif_t hq5 _ _).trans rfl)))))); rw [e0]; exact ckP_p4 o f z hq0 hq1 hq2 hq3 hq4 hq5
            ·
              have e0 : ckP_c0 o f z = ((0 : Int)) := ((bif_f hq0 _ _).trans ((bif_f hq1 _ _).trans ((bif_f hq2 _ _).trans ((bif_f hq3 _ _).trans ((bif_t hq4 _ _).trans ((bif_f hq5 _ _).trans rfl)))))); rw [e0]; exact ckP_p5 o f z hq0 hq1 hq2 hq3 hq4 hq5
          ·
            have e0 : ckP_c0 o f z = ((0 : Int)) := ((bif_f hq0 _ _).trans ((bif_f hq1 _ _).trans ((bif_f hq2 _ _).trans ((bif_f hq3 _ _).trans ((bif_f hq4 _ _).trans rfl))))); rw [e0]; exact ckP_p6 o f z hq0 hq1 hq2 hq3 hq4
noncomputable def ckP_k : List Value → Option Value
  | [.agg ⟨[.bool o, .int .i64 f, .int .i64 z]⟩] => some (.int .i64 (ckP_c0 o f z))
  | _ => none
theorem ckP_ok : ∀ args v, ckP_k args = some v → Known Try.prog [] 14 args v := by
  intro args v h
  unfold ckP_k at h
  split at h
  · injection h with h; subst h; exact ckP _ _ _
  · cases h

noncomputable def ckG (o : Bool) (f z : Int) : Bool := (Classical.propDecidable (isR o f z)).decide
theorem ck_k {o : Bool} {f z : Int} (h : ckG o f z = true) : Known Try.prog [] 14 [.agg #[.bool o, .int .i64 f, .int .i64 z]] (.int .i64 0) := by
  have h2 : isR o f z := by
    unfold ckG at h
    exact (@decide_eq_true_iff _ (Classical.propDecidable _)).1 h
  obtain ⟨c, hc, rfl, rfl, rfl⟩ := h2
  have k := ckP (rdO c) (rdF c) (rdZ c)
  have e : ckP_c0 (rdO c) (rdF c) (rdZ c) = 0 := by
    unfold ckP_c0
    rcases (by omega : c = 0 ∨ c = 1 ∨ c = 2 ∨ c = 3 ∨ c = 4 ∨ c = 5 ∨ c = 6 ∨ c = 7 ∨ c = 8) with rfl | rfl | rfl | rfl | rfl | rfl | rfl | rfl | rfl <;> decide +kernel
  rw [e] at k
  exact k
theorem sensor_known : Known Try.prog [] 6 [] (.bool true) := run_res knSensorKnown_mix knSensorKnown_k0 sensorKnown_run
attribute [local irreducible] wG wO wF wZ mO mF mZ ckG
theorem qMdR (n : Int) : Known Try.prog [] 32 [.int .i64 n] (.agg #[.bool (mO n), .int .i64 (mF n), .int .i64 (mZ n)]) := made_is n
noncomputable def qMdR_k : List Value → Option Value
  | [.int .i64 n] => some (.agg #[.bool (mO n), .int .i64 (mF n), .int .i64 (mZ n)])
  | _ => none
theorem qMdR_ok : ∀ args v, qMdR_k args = some v → Known Try.prog [] 32 args v := by
  intro args v h
  unfold qMdR_k at h
  split at h
  · injection h with h; subst h; exact qMdR _
  · cases h
theorem qVt (a1 : Bool) (b1 c1 : Int) (a2 : Bool) (b2 c2 : Int) (a3 : Bool) (b3 c3 : Int) (hg : (wG a1 b1 c1 a2 b2 c2 a3 b3 c3) = true) : Known Try.prog [] 17 [.agg #[.bool a1, .int .i64 b1, .int .i64 c1], .agg #[.bool a2, .int .i64 b2, .int .i64 c2], .agg #[.bool a3, .int .i64 b3, .int .i64 c3]] (.tuple #[.agg #[.bool (wO a1 b1 c1 a2 b2 c2 a3 b3 c3), .int .i64 (wF a1 b1 c1 a2 b2 c2 a3 b3 c3), .int .i64 (wZ a1 b1 c1 a2 b2 c2 a3 b3 c3)], .int .i64 0]) := wvote_k hg
noncomputable def qVt_k : List Value → Option (Bool × Value)
  | [.agg ⟨[.bool a1, .int .i64 b1, .int .i64 c1]⟩, .agg ⟨[.bool a2, .int .i64 b2, .int .i64 c2]⟩, .agg ⟨[.bool a3, .int .i64 b3, .int .i64 c3]⟩] => some (wG a1 b1 c1 a2 b2 c2 a3 b3 c3, .tuple #[.agg #[.bool (wO a1 b1 c1 a2 b2 c2 a3 b3 c3), .int .i64 (wF a1 b1 c1 a2 b2 c2 a3 b3 c3), .int .i64 (wZ a1 b1 c1 a2 b2 c2 a3 b3 c3)], .int .i64 0])
  | _ => none
theorem qVt_ok : ∀ args v, qVt_k args = some (true, v) → Known Try.prog [] 17 args v := by
  intro args v h
  unfold qVt_k at h
  split at h
  · injection h with h; injection h with hg h; subst h; exact qVt _ _ _ _ _ _ _ _ _ hg
  · cases h
theorem qCk (o : Bool) (f z : Int) (hg : (ckG o f z) = true) : Known Try.prog [] 14 [.agg #[.bool o, .int .i64 f, .int .i64 z]] (.int .i64 0) := ck_k hg
noncomputable def qCk_k : List Value → Option (Bool × Value)
  | [.agg ⟨[.bool o, .int .i64 f, .int .i64 z]⟩] => some (ckG o f z, .int .i64 0)
  | _ => none
theorem qCk_ok : ∀ args v, qCk_k args = some (true, v) → Known Try.prog [] 14 args v := by
  intro args v h
  unfold qCk_k at h
  split at h
  · injection h with h; injection h with hg h; subst h; exact qCk _ _ _ hg
  · cases h
noncomputable def tabOr : GTab := (GTab.fn1 32 qMdR_k (GTab.fn 17 qVt_k (GTab.fn 14 qCk_k (GTab.fn1 6 (fun l => match l with | [] => some (.bool true) | _ => none) GTab.none))))
theorem tabOr_ok : GOk Try.prog [] tabOr := (GOk.fn1 qMdR_ok (GOk.fn qVt_ok (GOk.fn qCk_ok (GOk.fn1 (known0 sensor_known) GOk.none))))
noncomputable def ord_b1 (a b c : Int) : Bool := ckG (wO (mO a) (mF a) (mZ a) (mO b) (mF b) (mZ b) (mO c) (mF c) (mZ c)) (wF (mO a) (mF a) (mZ a) (mO b) (mF b) (mZ b) (mO c) (mF c) (mZ c)) (wZ (mO a) (mF a) (mZ a) (mO b) (mF b) (mZ b) (mO c) (mF c) (mZ c))
noncomputable def ord_b3 (a b c : Int) : Bool := !(wO (mO a) (mF a) (mZ a) (mO c) (mF c) (mZ c) (mO b) (mF b) (mZ b) == wO (mO a) (mF a) (mZ a) (mO b) (mF b) (mZ b) (mO c) (mF c) (mZ c) && (wF (mO a) (mF a) (mZ a) (mO c) (mF c) (mZ c) (mO b) (mF b) (mZ b) == wF (mO a) (mF a) (mZ a) (mO b) (mF b) (mZ b) (mO c) (mF c) (mZ c) && wZ (mO a) (mF a) (mZ a) (mO c) (mF c) (mZ c) (mO b) (mF b) (mZ b) == wZ (mO a) (mF a) (mZ a) (mO b) (mF b) (mZ b) (mO c) (mF c) (mZ c)))
noncomputable def ord_b5 (a b c : Int) : Bool := !(wO (mO b) (mF b) (mZ b) (mO a) (mF a) (mZ a) (mO c) (mF c) (mZ c) == wO (mO a) (mF a) (mZ a) (mO b) (mF b) (mZ b) (mO c) (mF c) (mZ c) && (wF (mO b) (mF b) (mZ b) (mO a) (mF a) (mZ a) (mO c) (mF c) (mZ c) == wF (mO a) (mF a) (mZ a) (mO b) (mF b) (mZ b) (mO c) (mF c) (mZ c) && wZ (mO b) (mF b) (mZ b) (mO a) (mF a) (mZ a) (mO c) (mF c) (mZ c) == wZ (mO a) (mF a) (mZ a) (mO b) (mF b) (mZ b) (mO c) (mF c) (mZ c)))
noncomputable def ord_b7 (a b c : Int) : Bool := !(wO (mO b) (mF b) (mZ b) (mO c) (mF c) (mZ c) (mO a) (mF a) (mZ a) == wO (mO a) (mF a) (mZ a) (mO b) (mF b) (mZ b) (mO c) (mF c) (mZ c) && (wF (mO b) (mF b) (mZ b) (mO c) (mF c) (mZ c) (mO a) (mF a) (mZ a) == wF (mO a) (mF a) (mZ a) (mO b) (mF b) (mZ b) (mO c) (mF c) (mZ c) && wZ (mO b) (mF b) (mZ b) (mO c) (mF c) (mZ c) (mO a) (mF a) (mZ a) == wZ (mO a) (mF a) (mZ a) (mO b) (mF b) (mZ b) (mO c) (mF c) (mZ c)))
noncomputable def ord_b9 (a b c : Int) : Bool := !(wO (mO c) (mF c) (mZ c) (mO a) (mF a) (mZ a) (mO b) (mF b) (mZ b) == wO (mO a) (mF a) (mZ a) (mO b) (mF b) (mZ b) (mO c) (mF c) (mZ c) && (wF (mO c) (mF c) (mZ c) (mO a) (mF a) (mZ a) (mO b) (mF b) (mZ b) == wF (mO a) (mF a) (mZ a) (mO b) (mF b) (mZ b) (mO c) (mF c) (mZ c) && wZ (mO c) (mF c) (mZ c) (mO a) (mF a) (mZ a) (mO b) (mF b) (mZ b) == wZ (mO a) (mF a) (mZ a) (mO b) (mF b) (mZ b) (mO c) (mF c) (mZ c)))
noncomputable def ord_b11 (a b c : Int) : Bool := !(wO (mO c) (mF c) (mZ c) (mO b) (mF b) (mZ b) (mO a) (mF a) (mZ a) == wO (mO a) (mF a) (mZ a) (mO b) (mF b) (mZ b) (mO c) (mF c) (mZ c) && (wF (mO c) (mF c) (mZ c) (mO b) (mF b) (mZ b) (mO a) (mF a) (mZ a) == wF (mO a) (mF a) (mZ a) (mO b) (mF b) (mZ b) (mO c) (mF c) (mZ c) && wZ (mO c) (mF c) (mZ c) (mO b) (mF b) (mZ b) (mO a) (mF a) (mZ a) == wZ (mO a) (mF a) (mZ a) (mO b) (mF b) (mZ b) (mO c) (mF c) (mZ c)))
theorem ord_p0 (a b c : Int) (g0 : wG (mO a) (mF a) (mZ a) (mO b) (mF b) (mZ b) (mO c) (mF c) (mZ c) = true) (g1 : wG (mO a) (mF a) (mZ a) (mO c) (mF c) (mZ c) (mO b) (mF b) (mZ b) = true) (g2 : wG (mO b) (mF b) (mZ b) (mO a) (mF a) (mZ a) (mO c) (mF c) (mZ c) = true) (g3 : wG (mO b) (mF b) (mZ b) (mO c) (mF c) (mZ c) (mO a) (mF a) (mZ a) = true) (g4 : wG (mO c) (mF c) (mZ c) (mO a) (mF a) (mZ a) (mO b) (mF b) (mZ b) = true) (g5 : wG (mO c) (mF c) (mZ c) (mO b) (mF b) (mZ b) (mO a) (mF a) (mZ a) = true) (gc : ckG (wO (mO a) (mF a) (mZ a) (mO b) (mF b) (mZ b) (mO c) (mF c) (mZ c)) (wF (mO a) (mF a) (mZ a) (mO b) (mF b) (mZ b) (mO c) (mF c) (mZ c)) (wZ (mO a) (mF a) (mZ a) (mO b) (mF b) (mZ b) (mO c) (mF c) (mZ c)) = true) (q0 : (!(wO (mO a) (mF a) (mZ a) (mO c) (mF c) (mZ c) (mO b) (mF b) (mZ b) == wO (mO a) (mF a) (mZ a) (mO b) (mF b) (mZ b) (mO c) (mF c) (mZ c) && (wF (mO a) (mF a) (mZ a) (mO c) (mF c) (mZ c) (mO b) (mF b) (mZ b) == wF (mO a) (mF a) (mZ a) (mO b) (mF b) (mZ b) (mO c) (mF c) (mZ c) && wZ (mO a) (mF a) (mZ a) (mO c) (mF c) (mZ c) (mO b) (mF b) (mZ b) == wZ (mO a) (mF a) (mZ a) (mO b) (mF b) (mZ b) (mO c) (mF c) (mZ c)))) = false) (q1 : (!(wO (mO b) (mF b) (mZ b) (mO a) (mF a) (mZ a) (mO c) (mF c) (mZ c) == wO (mO a) (mF a) (mZ a) (mO b) (mF b) (mZ b) (mO c) (mF c) (mZ c) && (wF (mO b) (mF b) (mZ b) (mO a) (mF a) (mZ a) (mO c) (mF c) (mZ c) == wF (mO a) (mF a) (mZ a) (mO b) (mF b) (mZ b) (mO c) (mF c) (mZ c) && wZ (mO b) (mF b) (mZ b) (mO a) (mF a) (mZ a) (mO c) (mF c) (mZ c) == wZ (mO a) (mF a) (mZ a) (mO b) (mF b) (mZ b) (mO c) (mF c) (mZ c)))) = false) (q2 : (!(wO (mO b) (mF b) (mZ b) (mO c) (mF c) (mZ c) (mO a) (mF a) (mZ a) == wO (mO a) (mF a) (mZ a) (mO b) (mF b) (mZ b) (mO c) (mF c) (mZ c) && (wF (mO b) (mF b) (mZ b) (mO c) (mF c) (mZ c) (mO a) (mF a) (mZ a) == wF (mO a) (mF a) (mZ a) (mO b) (mF b) (mZ b) (mO c) (mF c) (mZ c) && wZ (mO b) (mF b) (mZ b) (mO c) (mF c) (mZ c) (mO a) (mF a) (mZ a) == wZ (mO a) (mF a) (mZ a) (mO b) (mF b) (mZ b) (mO c) (mF c) (mZ c)))) = false) (q3 : (!(wO (mO c) (mF c) (mZ c) (mO a) (mF a) (mZ a) (mO b) (mF b) (mZ b) == wO (mO a) (mF a) (mZ a) (mO b) (mF b) (mZ b) (mO c) (mF c) (mZ c) && (wF (mO c) (mF c) (mZ c) (mO a) (mF a) (mZ a) (mO b) (mF b) (mZ b) == wF (mO a) (mF a) (mZ a) (mO b) (mF b) (mZ b) (mO c) (mF c) (mZ c) && wZ (mO c) (mF c) (mZ c) (mO a) (mF a) (mZ a) (mO b) (mF b) (mZ b) == wZ (mO a) (mF a) (mZ a) (mO b) (mF b) (mZ b) (mO c) (mF c) (mZ c)))) = false) (q4 : (!(wO (mO c) (mF c) (mZ c) (mO b) (mF b) (mZ b) (mO a) (mF a) (mZ a) == wO (mO a) (mF a) (mZ a) (mO b) (mF b) (mZ b) (mO c) (mF c) (mZ c) && (wF (mO c) (mF c) (mZ c) (mO b) (mF b) (mZ b) (mO a) (mF a) (mZ a) == wF (mO a) (mF a) (mZ a) (mO b) (mF b) (mZ b) (mO c) (mF c) (mZ c) && wZ (mO c) (mF c) (mZ c) (mO b) (mF b) (mZ b) (mO a) (mF a) (mZ a) == wZ (mO a) (mF a) (mZ a) (mO b) (mF b) (mZ b) (mO c) (mF c) (mZ c)))) = false) (hq0 : (wG (mO a) (mF a) (mZ a) (mO b) (mF b) (mZ b) (mO c) (mF c) (mZ c)) = true) (hq1 : (ord_b1 a b c) = true) (hq2 : (wG (mO a) (mF a) (mZ a) (mO c) (mF c) (mZ c) (mO b) (mF b) (mZ b)) = true) (hq3 : (ord_b3 a b c) = false) (hq4 : (wG (mO b) (mF b) (mZ b) (mO a) (mF a) (mZ a) (mO c) (mF c) (mZ c)) = true) (hq5 : (ord_b5 a b c) = false) (hq6 : (wG (mO b) (mF b) (mZ b) (mO c) (mF c) (mZ c) (mO a) (mF a) (mZ a)) = true) (hq7 : (ord_b7 a b c) = false) (hq8 : (wG (mO c) (mF c) (mZ c) (mO a) (mF a) (mZ a) (mO b) (mF b) (mZ b)) = true) (hq9 : (ord_b9 a b c) = false) (hq10 : (wG (mO c) (mF c) (mZ c) (mO b) (mF b) (mZ b) (mO a) (mF a) (mZ a)) = true) (hq11 : (ord_b11 a b c) = false) : Known Try.prog [] 7 [.int .i64 a, .int .i64 b, .int .i64 c] (.bool (true)) :=
  open_res mix tabOr_ok (T := tabOr) (fuel := 3000) (ans := [(4, .b 1), (7, .b 1), (19, .b 1), (24, .b 0), (33, .b 1), (38, .b 0), (47, .b 1), (52, .b 0), (61, .b 1), (66, .b 0), (75, .b 1), (80, .b 0)]) (log := [(ord_b11 a b c) = false, (wG (mO c) (mF c) (mZ c) (mO b) (mF b) (mZ b) (mO a) (mF a) (mZ a)) = true, (ord_b9 a b c) = false, (wG (mO c) (mF c) (mZ c) (mO a) (mF a) (mZ a) (mO b) (mF b) (mZ b)) = true, (ord_b7 a b c) = false, (wG (mO b) (mF b) (mZ b) (mO c) (mF c) (mZ c) (mO a) (mF a) (mZ a)) = true, (ord_b5 a b c) = false, (wG (mO b) (mF b) (mZ b) (mO a) (mF a) (mZ a) (mO c) (mF c) (mZ c)) = true, (ord_b3 a b c) = false, (wG (mO a) (mF a) (mZ a) (mO c) (mF c) (mZ c) (mO b) (mF b) (mZ b)) = true, (ord_b1 a b c) = true, (wG (mO a) (mF a) (mZ a) (mO b) (mF b) (mZ b) (mO c) (mF c) (mZ c)) = true]) (by kernel_rfl) ⟨hq11, hq10, hq9, hq8, hq7, hq6, hq5, hq4, hq3, hq2, hq1, hq0, trivial⟩ (by kernel_rfl)
set_option maxHeartbeats 8000000 in
theorem ord (a b c : Int) (g0 : wG (mO a) (mF a) (mZ a) (mO b) (mF b) (mZ b) (mO c) (mF c) (mZ c) = true) (g1 : wG (mO a) (mF a) (mZ a) (mO c) (mF c) (mZ c) (mO b) (mF b) (mZ b) = true) (g2 : wG (mO b) (mF b) (mZ b) (mO a) (mF a) (mZ a) (mO c) (mF c) (mZ c) = true) (g3 : wG (mO b) (mF b) (mZ b) (mO c) (mF c) (mZ c) (mO a) (mF a) (mZ a) = true) (g4 : wG (mO c) (mF c) (mZ c) (mO a) (mF a) (mZ a) (mO b) (mF b) (mZ b) = true) (g5 : wG (mO c) (mF c) (mZ c) (mO b) (mF b) (mZ b) (mO a) (mF a) (mZ a) = true) (gc : ckG (wO (mO a) (mF a) (mZ a) (mO b) (mF b) (mZ b) (mO c) (mF c) (mZ c)) (wF (mO a) (mF a) (mZ a) (mO b) (mF b) (mZ b) (mO c) (mF c) (mZ c)) (wZ (mO a) (mF a) (mZ a) (mO b) (mF b) (mZ b) (mO c) (mF c) (mZ c)) = true) (q0 : (!(wO (mO a) (mF a) (mZ a) (mO c) (mF c) (mZ c) (mO b) (mF b) (mZ b) == wO (mO a) (mF a) (mZ a) (mO b) (mF b) (mZ b) (mO c) (mF c) (mZ c) && (wF (mO a) (mF a) (mZ a) (mO c) (mF c) (mZ c) (mO b) (mF b) (mZ b) == wF (mO a) (mF a) (mZ a) (mO b) (mF b) (mZ b) (mO c) (mF c) (mZ c) && wZ (mO a) (mF a) (mZ a) (mO c) (mF c) (mZ c) (mO b) (mF b) (mZ b) == wZ (mO a) (mF a) (mZ a) (mO b) (mF b) (mZ b) (mO c) (mF c) (mZ c)))) = false) (q1 : (!(wO (mO b) (mF b) (mZ b) (mO a) (mF a) (mZ a) (mO c) (mF c) (mZ c) == wO (mO a) (mF a) (mZ a) (mO b) (mF b) (mZ b) (mO c) (mF c) (mZ c) && (wF (mO b) (mF b) (mZ b) (mO a) (mF a) (mZ a) (mO c) (mF c) (mZ c) == wF (mO a) (mF a) (mZ a) (mO b) (mF b) (mZ b) (mO c) (mF c) (mZ c) && wZ (mO b) (mF b) (mZ b) (mO a) (mF a) (mZ a) (mO c) (mF c) (mZ c) == wZ (mO a) (mF a) (mZ a) (mO b) (mF b) (mZ b) (mO c) (mF c) (mZ c)))) = false) (q2 : (!(wO (mO b) (mF b) (mZ b) (mO c) (mF c) (mZ c) (mO a) (mF a) (mZ a) == wO (mO a) (mF a) (mZ a) (mO b) (mF b) (mZ b) (mO c) (mF c) (mZ c) && (wF (mO b) (mF b) (mZ b) (mO c) (mF c) (mZ c) (mO a) (mF a) (mZ a) == wF (mO a) (mF a) (mZ a) (mO b) (mF b) (mZ b) (mO c) (mF c) (mZ c) && wZ (mO b) (mF b) (mZ b) (mO c) (mF c) (mZ c) (mO a) (mF a) (mZ a) == wZ (mO a) (mF a) (mZ a) (mO b) (mF b) (mZ b) (mO c) (mF c) (mZ c)))) = false) (q3 : (!(wO (mO c) (mF c) (mZ c) (mO a) (mF a) (mZ a) (mO b) (mF b) (mZ b) == wO (mO a) (mF a) (mZ a) (mO b) (mF b) (mZ b) (mO c) (mF c) (mZ c) && (wF (mO c) (mF c) (mZ c) (mO a) (mF a) (mZ a) (mO b) (mF b) (mZ b) == wF (mO a) (mF a) (mZ a) (mO b) (mF b) (mZ b) (mO c) (mF c) (mZ c) && wZ (mO c) (mF c) (mZ c) (mO a) (mF a) (mZ a) (mO b) (mF b) (mZ b) == wZ (mO a) (mF a) (mZ a) (mO b) (mF b) (mZ b) (mO c) (mF c) (mZ c)))) = false) (q4 : (!(wO (mO c) (mF c) (mZ c) (mO b) (mF b) (mZ b) (mO a) (mF a) (mZ a) == wO (mO a) (mF a) (mZ a) (mO b) (mF b) (mZ b) (mO c) (mF c) (mZ c) && (wF (mO c) (mF c) (mZ c) (mO b) (mF b) (mZ b) (mO a) (mF a) (mZ a) == wF (mO a) (mF a) (mZ a) (mO b) (mF b) (mZ b) (mO c) (mF c) (mZ c) && wZ (mO c) (mF c) (mZ c) (mO b) (mF b) (mZ b) (mO a) (mF a) (mZ a) == wZ (mO a) (mF a) (mZ a) (mO b) (mF b) (mZ b) (mO c) (mF c) (mZ c)))) = false) : Known Try.prog [] 7 [.int .i64 a, .int .i64 b, .int .i64 c] (.bool (true)) := by
  have hq0 : (wG (mO a) (mF a) (mZ a) (mO b) (mF b) (mZ b) (mO c) (mF c) (mZ c)) = true := by
    rcases Bool.eq_false_or_eq_true (wG (mO a) (mF a) (mZ a) (mO b) (mF b) (mZ b) (mO c) (mF c) (mZ c)) with h | h
    · exact h
    · exfalso; (try simp only [ord_b1, ord_b3, ord_b5, ord_b7, ord_b9, ord_b11] at *); (first | (simp_all only [Bool.and_eq_true, Bool.not_eq_true', Bool.false_eq_true, Bool.true_eq_false, reduceCtorEq]; done) | (simp only [sx, sy, eq_self, ne_eq, IntKind.wrap_i64, wrapU64, Int.reduceLT] at * <;> first | contradiction | omega) | omega | ((try simp only [sx, sy, eq_self, ne_eq, IntKind.wrap_i64, wrapU64, Int.reduceLT] at *) <;> omega) | (simp_all; done))
  have hq1 : (ord_b1 a b c) = true := by
    rcases Bool.eq_false_or_eq_true (ord_b1 a b c) with h | h
    · exact h
    · exfalso; (try simp only [ord_b1, ord_b3, ord_b5, ord_b7, ord_b9, ord_b11] at *); (first | (simp_all only [Bool.and_eq_true, Bool.not_eq_true', Bool.false_eq_true, Bool.true_eq_false, reduceCtorEq]; done) | (simp only [sx, sy, eq_self, ne_eq, IntKind.wrap_i64, wrapU64, Int.reduceLT] at * <;> first | contradiction | omega) | omega | ((try simp only [sx, sy, eq_self, ne_eq, IntKind.wrap_i64, wrapU64, Int.reduceLT] at *) <;> omega) | (simp_all; done))
  have hq2 : (wG (mO a) (mF a) (mZ a) (mO c) (mF c) (mZ c) (mO b) (mF b) (mZ b)) = true := by
    rcases Bool.eq_false_or_eq_true (wG (mO a) (mF a) (mZ a) (mO c) (mF c) (mZ c) (mO b) (mF b) (mZ b)) with h | h
    · exact h
    · exfalso; (try simp only [ord_b1, ord_b3, ord_b5, ord_b7, ord_b9, ord_b11] at *); (first | (simp_all only [Bool.and_eq_true, Bool.not_eq_true', Bool.false_eq_true, Bool.true_eq_false, reduceCtorEq]; done) | (simp only [sx, sy, eq_self, ne_eq, IntKind.wrap_i64, wrapU64, Int.reduceLT] at * <;> first | contradiction | omega) | omega | ((try simp only [sx, sy, eq_self, ne_eq, IntKind.wrap_i64, wrapU64, Int.reduceLT] at *) <;> omega) | (simp_all; done))
  have hq3 : (ord_b3 a b c) = false := by
    rcases Bool.eq_false_or_eq_true (ord_b3 a b c) with h | h
    · exfalso; (try simp only [ord_b1, ord_b3, ord_b5, ord_b7, ord_b9, ord_b11] at *); (first | (simp_all only [Bool.and_eq_true, Bool.not_eq_true', Bool.false_eq_true, Bool.true_eq_false, reduceCtorEq]; done) | (simp only [sx, sy, eq_self, ne_eq, IntKind.wrap_i64, wrapU64, Int.reduceLT] at * <;> first | contradiction | omega) | omega | ((try simp only [sx, sy, eq_self, ne_eq, IntKind.wrap_i64, wrapU64, Int.reduceLT] at *) <;> omega) | (simp_all; done))
    · exact h
  have hq4 : (wG (mO b) (mF b) (mZ b) (mO a) (mF a) (mZ a) (mO c) (mF c) (mZ c)) = true := by
    rcases Bool.eq_false_or_eq_true (wG (mO b) (mF b) (mZ b) (mO a) (mF a) (mZ a) (mO c) (mF c) (mZ c)) with h | h
    · exact h
    · exfalso; (try simp only [ord_b1, ord_b3, ord_b5, ord_b7, ord_b9, ord_b11] at *); (first | (simp_all only [Bool.and_eq_true, Bool.not_eq_true', Bool.false_eq_true, Bool.true_eq_false, reduceCtorEq]; done) | (simp only [sx, sy, eq_self, ne_eq, IntKind.wrap_i64, wrapU64, Int.reduceLT] at * <;> first | contradiction | omega) | omega | ((try simp only [sx, sy, eq_self, ne_eq, IntKind.wrap_i64, wrapU64, Int.reduceLT] at *) <;> omega) | (simp_all; done))
  have hq5 : (ord_b5 a b c) = false := by
    rcases Bool.eq_false_or_eq_true (ord_b5 a b c) with h | h
    · exfalso; (try simp only [ord_b1, ord_b3, ord_b5, ord_b7, ord_b9, ord_b11] at *); (first | (simp_all only [Bool.and_eq_true, Bool.not_eq_true', Bool.false_eq_true, Bool.true_eq_false, reduceCtorEq]; done) | (simp only [sx, sy, eq_self, ne_eq, IntKind.wrap_i64, wrapU64, Int.reduceLT] at * <;> first | contradiction | omega) | omega | ((try simp only [sx, sy, eq_self, ne_eq, IntKind.wrap_i64, wrapU64, Int.reduceLT] at *) <;> omega) | (simp_all; done))
    · exact h
  have hq6 : (wG (mO b) (mF b) (mZ b) (mO c) (mF c) (mZ c) (mO a) (mF a) (mZ a)) = true := by
    rcases Bool.eq_false_or_eq_true (wG (mO b) (mF b) (mZ b) (mO c) (mF c) (mZ c) (mO a) (mF a) (mZ a)) with h | h
    · exact h
    · exfalso; (try simp only [ord_b1, ord_b3, ord_b5, ord_b7, ord_b9, ord_b11] at *); (first | (simp_all only [Bool.and_eq_true, Bool.not_eq_true', Bool.false_eq_true, Bool.true_eq_false, reduceCtorEq]; done) | (simp only [sx, sy, eq_self, ne_eq, IntKind.wrap_i64, wrapU64, Int.reduceLT] at * <;> first | contradiction | omega) | omega | ((try simp only [sx, sy, eq_self, ne_eq, IntKind.wrap_i64, wrapU64, Int.reduceLT] at *) <;> omega) | (simp_all; done))
  have hq7 : (ord_b7 a b c) = false := by
    rcases Bool.eq_false_or_eq_true (ord_b7 a b c) with h | h
    · exfalso; (try simp only [ord_b1, ord_b3, ord_b5, ord_b7, ord_b9, ord_b11] at *); (first | (simp_all only [Bool.and_eq_true, Bool.not_eq_true', Bool.false_eq_true, Bool.true_eq_false, reduceCtorEq]; done) | (simp only [sx, sy, eq_self, ne_eq, IntKind.wrap_i64, wrapU64, Int.reduceLT] at * <;> first | contradiction | omega) | omega | ((try simp only [sx, sy, eq_self, ne_eq, IntKind.wrap_i64, wrapU64, Int.reduceLT] at *) <;> omega) | (simp_all; done))
    · exact h
  have hq8 : (wG (mO c) (mF c) (mZ c) (mO a) (mF a) (mZ a) (mO b) (mF b) (mZ b)) = true := by
    rcases Bool.eq_false_or_eq_true (wG (mO c) (mF c) (mZ c) (mO a) (mF a) (mZ a) (mO b) (mF b) (mZ b)) with h | h
    · exact h
    · exfalso; (try simp only [ord_b1, ord_b3, ord_b5, ord_b7, ord_b9, ord_b11] at *); (first | (simp_all only [Bool.and_eq_true, Bool.not_eq_true', Bool.false_eq_true, Bool.true_eq_false, reduceCtorEq]; done) | (simp only [sx, sy, eq_self, ne_eq, IntKind.wrap_i64, wrapU64, Int.reduceLT] at * <;> first | contradiction | omega) | omega | ((try simp only [sx, sy, eq_self, ne_eq, IntKind.wrap_i64, wrapU64, Int.reduceLT] at *) <;> omega) | (simp_all; done))
  have hq9 : (ord_b9 a b c) = false := by
    rcases Bool.eq_false_or_eq_true (ord_b9 a b c) with h | h
    · exfalso; (try simp only [ord_b1, ord_b3, ord_b5, ord_b7, ord_b9, ord_b11] at *); (first | (simp_all only [Bool.and_eq_true, Bool.not_eq_true', Bool.false_eq_true, Bool.true_eq_false, reduceCtorEq]; done) | (simp only [sx, sy, eq_self, ne_eq, IntKind.wrap_i64, wrapU64, Int.reduceLT] at * <;> first | contradiction | omega) | omega | ((try simp only [sx, sy, eq_self, ne_eq, IntKind.wrap_i64, wrapU64, Int.reduceLT] at *) <;> omega) | (simp_all; done))
    · exact h
  have hq10 : (wG (mO c) (mF c) (mZ c) (mO b) (mF b) (mZ b) (mO a) (mF a) (mZ a)) = true := by
    rcases Bool.eq_false_or_eq_true (wG (mO c) (mF c) (mZ c) (mO b) (mF b) (mZ b) (mO a) (mF a) (mZ a)) with h | h
    · exact h
    · exfalso; (try simp only [ord_b1, ord_b3, ord_b5, ord_b7, ord_b9, ord_b11] at *); (first | (simp_all only [Bool.and_eq_true, Bool.not_eq_true', Bool.false_eq_true, Bool.true_eq_false, reduceCtorEq]; done) | (simp only [sx, sy, eq_self, ne_eq, IntKind.wrap_i64, wrapU64, Int.reduceLT] at * <;> first | contradiction | omega) | omega | ((try simp only [sx, sy, eq_self, ne_eq, IntKind.wrap_i64, wrapU64, Int.reduceLT] at *) <;> omega) | (simp_all; done))
  have hq11 : (ord_b11 a b c) = false := by
    rcases Bool.eq_false_or_eq_true (ord_b11 a b c) with h | h
    · exfalso; (try simp only [ord_b1, ord_b3, ord_b5, ord_b7, ord_b9, ord_b11] at *); (first | (simp_all only [Bool.and_eq_true, Bool.not_eq_true', Bool.false_eq_true, Bool.true_eq_false, reduceCtorEq]; done) | (simp only [sx, sy, eq_self, ne_eq, IntKind.wrap_i64, wrapU64, Int.reduceLT] at * <;> first | contradiction | omega) | omega | ((try simp only [sx, sy, eq_self, ne_eq, IntKind.wrap_i64, wrapU64, Int.reduceLT] at *) <;> omega) | (simp_all; done))
    · exact h
  exact ord_p0 a b c g0 g1 g2 g3 g4 g5 gc q0 q1 q2 q3 q4 hq0 hq1 hq2 hq3 hq4 hq5 hq6 hq7 hq8 hq9 hq10 hq11

end Go.Proofs.Ythjdoeeefighkaa
