/- Layer 2: Nearest. -/
import Derived.Test.YtboobndcgilmlaaDoorMB
import Derived.ProofKit
import Derived.IntWalk
namespace Go.Proofs.YtboobndcgilmlaaDoor
open Go Go.RowKit
set_option linter.unusedVariables false
set_option linter.unusedSimpArgs false
set_option linter.unnecessarySimpa false
set_option maxHeartbeats 8000000
set_option maxRecDepth 100000
/-- a word -/
def isW (m : Int) : Bool := decide (0 ≤ m ∧ m < 18446744073709551616)
noncomputable def beV (m f : Int) : Int := beP_c0 m f
noncomputable def beE (m f : Int) : Int := beP_c1 m f
noncomputable def abV (m f : Int) : Int := abP_c0 m f
noncomputable def abE (m f : Int) : Int := abP_c1 m f
theorem has_k {m : Int} (h : isW m = true) (f : Int) : Known Tryd.prog knMaskKnownL 17 [.int .u64 m, .int .i64 f] (.bool (hs m f)) := by
  have hm := of_decide_eq_true h
  have := haP m f hm
  rwa [has_is hm] at this
theorem below_k {m : Int} (h : isW m = true) (f : Int) : Known Tryd.prog knMaskKnownL 13 [.int .u64 m, .int .i64 f] (.tuple #[.int .i64 (beV m f), .int .i64 (beE m f)]) := beP m f (of_decide_eq_true h)
theorem above_k {m : Int} (h : isW m = true) (f : Int) : Known Tryd.prog knMaskKnownL 11 [.int .u64 m, .int .i64 f] (.tuple #[.int .i64 (abV m f), .int .i64 (abE m f)]) := abP m f (of_decide_eq_true h)
attribute [local irreducible] hs beV beE abV abE
theorem qHas (m f : Int) (hg : (isW m) = true) : Known Tryd.prog knMaskKnownL 17 [.int .u64 m, .int .i64 f] (.bool (hs m f)) := has_k hg f
noncomputable def qHas_k : List Value → Option (Bool × Value)
  | [.int .u64 m, .int .i64 f] => some (isW m, .bool (hs m f))
  | _ => none
theorem qHas_ok : ∀ args v, qHas_k args = some (true, v) → Known Tryd.prog knMaskKnownL 17 args v := by
  intro args v h
  unfold qHas_k at h
  split at h
  · injection h with h; injection h with hg h; subst h; exact qHas _ _ hg
  · cases h
theorem qBe (m f : Int) (hg : (isW m) = true) : Known Tryd.prog knMaskKnownL 13 [.int .u64 m, .int .i64 f] (.tuple #[.int .i64 (beV m f), .int .i64 (beE m f)]) := below_k hg f
noncomputable def qBe_k : List Value → Option (Bool × Value)
  | [.int .u64 m, .int .i64 f] => some (isW m, .tuple #[.int .i64 (beV m f), .int .i64 (beE m f)])
  | _ => none
theorem qBe_ok : ∀ args v, qBe_k args = some (true, v) → Known Tryd.prog knMaskKnownL 13 args v := by
  intro args v h
  unfold qBe_k at h
  split at h
  · injection h with h; injection h with hg h; subst h; exact qBe _ _ hg
  · cases h
theorem qAb (m f : Int) (hg : (isW m) = true) : Known Tryd.prog knMaskKnownL 11 [.int .u64 m, .int .i64 f] (.tuple #[.int .i64 (abV m f), .int .i64 (abE m f)]) := above_k hg f
noncomputable def qAb_k : List Value → Option (Bool × Value)
  | [.int .u64 m, .int .i64 f] => some (isW m, .tuple #[.int .i64 (abV m f), .int .i64 (abE m f)])
  | _ => none
theorem qAb_ok : ∀ args v, qAb_k args = some (true, v) → Known Tryd.prog knMaskKnownL 11 args v := by
  intro args v h
  unfold qAb_k at h
  split at h
  · injection h with h; injection h with hg h; subst h; exact qAb _ _ hg
  · cases h
noncomputable def tabNb : GTab := (GTab.fn 17 qHas_k (GTab.fn 13 qBe_k (GTab.fn 11 qAb_k GTab.none)))
theorem tabNb_ok : GOk Tryd.prog knMaskKnownL tabNb := (GOk.fn qHas_ok (GOk.fn qBe_ok (GOk.fn qAb_ok GOk.none)))
noncomputable def neP_b5 (m f : Int) : Bool := decide (IntKind.i64.wrap (f - beV m f) ≤ IntKind.i64.wrap (abV m f - f))
noncomputable def neP_c0 (m f : Int) : Int := (bif (hs m f) then (f) else (bif (beE m f == (2 : Int)) then ((0 : Int)) else (bif (beE m f == (0 : Int)) then (bif (abE m f != (0 : Int)) then (beV m f) else (bif (decide (IntKind.i64.wrap (f - beV m f) ≤ IntKind.i64.wrap (abV m f - f))) then (beV m f) else (abV m f))) else (abV m f))))
noncomputable def neP_c1 (m f : Int) : Int := (bif (hs m f) then ((0 : Int)) else (bif (beE m f == (2 : Int)) then (beE m f) else (bif (beE m f == (0 : Int)) then (bif (abE m f != (0 : Int)) then ((0 : Int)) else (bif (decide (IntKind.i64.wrap (f - beV m f) ≤ IntKind.i64.wrap (abV m f - f))) then ((0 : Int)) else (abE m f))) else (abE m f))))
theorem neP_p0 (m f : Int) (hw : isW m = true) (hq0 : (isW m) = true) (hq1 : (hs m f) = true) : Known Tryd.prog knMaskKnownL 15 [.int .u64 m, .int .i64 f] (.tuple #[(.int .i64 (f)), (.int .i64 ((0 : Int)))]) :=
  open_res mix tabNb_ok (T := tabNb) (fuel := 3000) (ans := [(0, .b 1), (1, .b 1)]) (log := [(hs m f) = true, (isW m) = true]) (by kernel_rfl) ⟨hq1, hq0, trivial⟩ (by kernel_rfl)
theorem neP_p1 (m f : Int) (hw : isW m = true) (hq0 : (isW m) = true) (hq1 : (hs m f) = false) (hq2 : (beE m f == (2 : Int)) = true) : Known Tryd.prog knMaskKnownL 15 [.int .u64 m, .int .i64 f] (.tuple #[(.int .i64 ((0 : Int))), (.int .i64 (beE m f))]) :=
  open_res mix tabNb_ok (T := tabNb) (fuel := 3000) (ans := [(0, .b 1), (1, .b 0), (2, .b 1), (3, .b 1)]) (log := [(beE m f == (2 : Int)) = true, (isW m) = true, (hs m f) = false, (isW m) = true]) (by kernel_rfl) ⟨hq2, hq0, hq1, hq0, trivial⟩ (by kernel_rfl)
theorem neP_p2 (m f : Int) (hw : isW m = true) (hq0 : (isW m) = true) (hq1 : (hs m f) = false) (hq2 : (beE m f == (2 : Int)) = false) (hq3 : (beE m f == (0 : Int)) = true) (hq4 : (abE m f != (0 : Int)) = true) : Known Tryd.prog knMaskKnownL 15 [.int .u64 m, .int .i64 f] (.tuple #[(.int .i64 (beV m f)), (.int .i64 ((0 : Int)))]) :=
  open_res mix tabNb_ok (T := tabNb) (fuel := 3000) (ans := [(0, .b 1), (1, .b 0), (2, .b 1), (3, .b 0), (4, .b 1), (5, .b 1), (8, .b 1)]) (log := [(abE m f != (0 : Int)) = true, (beE m f == (0 : Int)) = true, (isW m) = true, (beE m f == (2 : Int)) = false, (isW m) = true, (hs m f) = false, (isW m) = true]) (by kernel_rfl) ⟨hq4, hq3, hq0, hq2, hq0, hq1, hq0, trivial⟩ (by kernel_rfl)
theorem neP_p3 (m f : Int) (hw : isW m = true) (hq0 : (isW m) = true) (hq1 : (hs m f) = false) (hq2 : (beE m f == (2 : Int)) = false) (hq3 : (beE m f == (0 : Int)) = true) (hq4 : (abE m f != (0 : Int)) = false) (hq5 : (neP_b5 m f) = true) : Known Tryd.prog knMaskKnownL 15 [.int .u64 m, .int .i64 f] (.tuple #[(.int .i64 (beV m f)), (.int .i64 ((0 : Int)))]) :=
  open_res mix tabNb_ok (T := tabNb) (fuel := 3000) (ans := [(0, .b 1), (1, .b 0), (2, .b 1), (3, .b 0), (4, .b 1), (5, .b 1), (8, .b 0), (18, .b 1)]) (log := [(neP_b5 m f) = true, (abE m f != (0 : Int)) = false, (beE m f == (0 : Int)) = true, (isW m) = true, (beE m f == (2 : Int)) = false, (isW m) = true, (hs m f) = false, (isW m) = true]) (by kernel_rfl) ⟨hq5, hq4, hq3, hq0, hq2, hq0, hq1, hq0, trivial⟩ (by kernel_rfl)
theorem neP_p4 (m f : Int) (hw : isW m = true) (hq0 : (isW m) = true) (hq1 : (hs m f) = false) (hq2 : (beE m f == (2 : Int)) = false) (hq3 : (beE m f == (0 : Int)) = true) (hq4 : (abE m f != (0 : Int)) = false) (hq5 : (neP_b5 m f) = false) : Known Tryd.prog knMaskKnownL 15 [.int .u64 m, .int .i64 f] (.tuple #[(.int .i64 (abV m f)), (.int .i64 (abE m f))]) :=
  open_res mix tabNb_ok (T := tabNb) (fuel := 3000) (ans := [(0, .b 1), (1, .b 0), (2, .b 1), (3, .b 0), (4, .b 1), (5, .b 1), (8, .b 0), (18, .b 0)]) (log := [(neP_b5 m f) = false, (abE m f != (0 : Int)) = false, (beE m f == (0 : Int)) = true, (isW m) = true, (beE m f == (2 : Int)) = false, (isW m) = true, (hs m f) = false, (isW m) = true]) (by kernel_rfl) ⟨hq5, hq4, hq3, hq0, hq2, hq0, hq1, hq0, trivial⟩ (by kernel_rfl)
theorem neP_p5 (m f : Int) (hw : isW m = true) (hq0 : (isW m) = true) (hq1 : (hs m f) = false) (hq2 : (beE m f == (2 : Int)) = false) (hq3 : (beE m f == (0 : Int)) = false) : Known Tryd.prog knMaskKnownL 15 [.int .u64 m, .int .i64 f] (.tuple #[(.int .i64 (abV m f)), (.int .i64 (abE m f))]) :=
  open_res mix tabNb_ok (T := tabNb) (fuel := 3000) (ans := [(0, .b 1), (1, .b 0), (2, .b 1), (3, .b 0), (4, .b 1), (5, .b 0)]) (log := [(beE m f == (0 : Int)) = false, (isW m) = true, (beE m f == (2 : Int)) = false, (isW m) = true, (hs m f) = false, (isW m) = true]) (by kernel_rfl) ⟨hq3, hq0, hq2, hq0, hq1, hq0, trivial⟩ (by kernel_rfl)
set_option maxHeartbeats 8000000 in
theorem neP (m f : Int) (hw : isW m = true) : Known Tryd.prog knMaskKnownL 15 [.int .u64 m, .int .i64 f] (.tuple #[(.int .i64 (neP_c0 m f)), (.int .i64 (neP_c1 m f))]) := by
  have hq0 : (isW m) = true := by
    rcases Bool.eq_false_or_eq_true (isW m) with h | h
    · exact h
    · exfalso; (try simp only [neP_b5] at *); (first | (simp_all only [Bool.and_eq_true, Bool.not_eq_true', Bool.false_eq_true, Bool.true_eq_false, reduceCtorEq]; done) | (simp only [sx, sy, eq_self, ne_eq, IntKind.wrap_i64, wrapU64, Int.reduceLT] at * <;> first | contradiction | omega) | omega | ((try simp only [sx, sy, eq_self, ne_eq, IntKind.wrap_i64, wrapU64, Int.reduceLT] at *) <;> omega) | (simp_all; done))
  rcases Bool.eq_false_or_eq_true (hs m f) with hq1 | hq1
  ·
    have e0 : neP_c0 m f = (f) := ((bif_t hq1 _ _).trans rfl); rw [e0]; have e1 : neP_c1 m f = ((0 : Int)) := ((bif_t hq1 _ _).trans rfl); rw [e1]; exact neP_p0 m f hw hq0 hq1
  ·
    rcases Bool.eq_false_or_eq_true (beE m f == (2 : Int)) with hq2 | hq2
    ·
      have e0 : neP_c0 m f = ((0 : Int)) := ((bif_f hq1 _ _).trans ((bif_t hq2 _ _).trans rfl)); rw [e0]; have e1 : neP_c1 m f = (beE m f) := ((bif_f hq1 _ _).trans ((bif_t hq2 _ _).trans rfl)); rw [e1]; exact neP_p1 m f hw hq0 hq1 hq2
    ·
      rcases Bool.eq_false_or_eq_true (beE m f == (0 : Int)) with hq3 | hq3
      ·
        rcases Bool.eq_false_or_eq_true (abE m f != (0 : Int)) with hq4 | hq4
        ·
          have e0 : neP_c0 m f = (beV m f) := ((bif_f hq1 _ _).trans ((bif_f hq2 _ _).trans ((bif_t hq3 _ _).trans ((bif_t hq4 _ _).trans rfl)))); rw [e0]; have e1 : neP_c1 m f = ((0 : Int)) := ((bif_f hq1 _ _).trans ((bif_f hq2 _ _).trans ((bif_t hq3 _ _).trans ((bif_t hq4 _ _).trans rfl)))); rw [e1]; exact neP_p2 m f hw hq0 hq1 hq2 hq3 hq4
        ·
          rcases Bool.eq_false_or_eq_true (neP_b5 m f) with hq5 | hq5
          ·
            have e0 : neP_c0 m f = (beV m f) := ((bif_f hq1 _ _).trans ((bif_f hq2 _ _).trans ((bif_t hq3 _ _).trans ((bif_f hq4 _ _).trans ((bif_t hq5 _ _).trans rfl))))); rw [e0]; have e1 : neP_c1 m f = ((0 : Int)) := ((bif_f hq1 _ _).trans ((bif_f hq2 _ _).trans ((bif_t hq3 _ _).trans ((bif_f hq4 _ _).trans ((bif_t hq5 _ _).trans rfl))))); rw [e1]; exact neP_p3 m f hw hq0 hq1 hq2 hq3 hq4 hq5
          ·
            have e0 : neP_c0 m f = (abV m f) := ((bif_f hq1 _ _).trans ((bif_f hq2 _ _).trans ((bif_t hq3 _ _).trans ((bif_f hq4 _ _).trans ((bif_f hq5 _ _).trans rfl))))); rw [e0]; have e1 : neP_c1 m f = (abE m f) := ((bif_f hq1 _ _).trans ((bif_f hq2 _ _).trans ((bif_t hq3 _ _).trans ((bif_f hq4 _ _).trans ((bif_f hq5 _ _).trans rfl))))); rw [e1]; exact neP_p4 m f hw hq0 hq1 hq2 hq3 hq4 hq5
      ·
        have e0 : neP_c0 m f = (abV m f) := ((bif_f hq1 _ _).trans ((bif_f hq2 _ _).trans ((bif_f hq3 _ _).trans rfl))); rw [e0]; have e1 : neP_c1 m f = (abE m f) := ((bif_f hq1 _ _).trans ((bif_f hq2 _ _).trans ((bif_f hq3 _ _).trans rfl))); rw [e1]; exact neP_p5 m f hw hq0 hq1 hq2 hq3

end Go.Proofs.YtboobndcgilmlaaDoor
