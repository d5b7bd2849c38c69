/- Layer 8: ProfileGrows, ProfileLeast. -/
import Derived.Test.YtjemhamkakgnhaaRA
import Derived.Test.YtjemhamkakgnhaaKnProfileKnown
import Derived.ProofKit
import Derived.IntWalk
namespace Go.Proofs.Ytjemhamkakgnhaa
open Go Go.RowKit
set_option linter.unusedVariables false
set_option linter.unusedSimpArgs false
set_option linter.unnecessarySimpa false
theorem qDur (n m : Int) (hg : (decide (0 ≤ n ∧ n ≤ 63000 ∧ 1 ≤ m ∧ m ≤ 20)) = true) : Known Try.prog [] 36 [.int .i64 n, .int .i64 m] (.int .i64 (rD m n)) := by have h := of_decide_eq_true hg; exact pDuration ⟨h.1, h.2.1⟩ h.2.2
noncomputable def qDur_k : List Value → Option (Bool × Value)
  | [.int .i64 n, .int .i64 m] => some (decide (0 ≤ n ∧ n ≤ 63000 ∧ 1 ≤ m ∧ m ≤ 20), .int .i64 (rD m n))
  | _ => none
theorem qDur_ok : ∀ args v, qDur_k args = some (true, v) → Known Try.prog [] 36 args v := by
  intro args v h
  unfold qDur_k at h
  split at h
  · injection h with h; injection h with hg h; subst h; exact qDur _ _ hg
  · cases h
theorem qRide (n m : Int) (hg : (decide (0 ≤ n ∧ n ≤ 63000 ∧ 1 ≤ m ∧ m ≤ 20)) = true) : Known Try.prog [] 37 [.int .i64 n, .int .i64 m] (.tuple #[.int .i64 (rD m n), .int .i64 (ridePk n m)]) := by have h := of_decide_eq_true hg; exact rRide ⟨h.1, h.2.1⟩ h.2.2
noncomputable def qRide_k : List Value → Option (Bool × Value)
  | [.int .i64 n, .int .i64 m] => some (decide (0 ≤ n ∧ n ≤ 63000 ∧ 1 ≤ m ∧ m ≤ 20), .tuple #[.int .i64 (rD m n), .int .i64 (ridePk n m)])
  | _ => none
theorem qRide_ok : ∀ args v, qRide_k args = some (true, v) → Known Try.prog [] 37 args v := by
  intro args v h
  unfold qRide_k at h
  split at h
  · injection h with h; injection h with hg h; subst h; exact qRide _ _ hg
  · cases h
noncomputable def tabD : GTab := (GTab.fn 36 qDur_k (GTab.fn 37 qRide_k (GTab.fn1 14 (fun l => match l with | [] => some (.bool true) | _ => none) GTab.none)))
theorem tabD_ok : GOk Try.prog [] tabD := (GOk.fn qDur_ok (GOk.fn qRide_ok (GOk.fn1 (known0 knProfileKnown_e0) GOk.none)))
noncomputable def pTravel_c0 (n m : Int) : Int := (bif (decide (n < 0)) then (0) else (bif (decide (n > 63000)) then (0) else (bif (decide (m < 1)) then (0) else (bif (decide (m > 20)) then (0) else (rD m n)))))
noncomputable def pTravel_c1 (n m : Int) : Int := (bif (decide (n < 0)) then (2) else (bif (decide (n > 63000)) then (2) else (bif (decide (m < 1)) then (2) else (bif (decide (m > 20)) then (2) else (0)))))
theorem pTravel_p0 (n m : Int)  (hq0 : (decide (n < 0)) = true) : Known Try.prog [] 15 [.int .i64 n, .int .i64 m] (.tuple #[(.int .i64 (0)), (.int .i64 (2))]) :=
  open_res mix tabD_ok (T := tabD) (fuel := 3000) (ans := [(0, .b 1)]) (log := [(decide (n < 0)) = true]) (by kernel_rfl) ⟨hq0, trivial⟩ (by kernel_rfl)
theorem pTravel_p1 (n m : Int)  (hq0 : (decide (n < 0)) = false) (hq1 : (decide (n > 63000)) = true) : Known Try.prog [] 15 [.int .i64 n, .int .i64 m] (.tuple #[(.int .i64 (0)), (.int .i64 (2))]) :=
  open_res mix tabD_ok (T := tabD) (fuel := 3000) (ans := [(0, .b 0), (3, .b 1)]) (log := [(decide (n > 63000)) = true, (decide (n < 0)) = false]) (by kernel_rfl) ⟨hq1, hq0, trivial⟩ (by kernel_rfl)
theorem pTravel_p2 (n m : Int)  (hq0 : (decide (n < 0)) = false) (hq1 : (decide (n > 63000)) = false) (hq2 : (decide (m < 1)) = true) : Known Try.prog [] 15 [.int .i64 n, .int .i64 m] (.tuple #[(.int .i64 (0)), (.int .i64 (2))]) :=
  open_res mix tabD_ok (T := tabD) (fuel := 3000) (ans := [(0, .b 0), (3, .b 0), (6, .b 1)]) (log := [(decide (m < 1)) = true, (decide (n > 63000)) = false, (decide (n < 0)) = false]) (by kernel_rfl) ⟨hq2, hq1, hq0, trivial⟩ (by kernel_rfl)
theorem pTravel_p3 (n m : Int)  (hq0 : (decide (n < 0)) = false) (hq1 : (decide (n > 63000)) = false) (hq2 : (decide (m < 1)) = false) (hq3 : (decide (m > 20)) = true) : Known Try.prog [] 15 [.int .i64 n, .int .i64 m] (.tuple #[(.int .i64 (0)), (.int .i64 (2))]) :=
  open_res mix tabD_ok (T := tabD) (fuel := 3000) (ans := [(0, .b 0), (3, .b 0), (6, .b 0), (9, .b 1)]) (log := [(decide (m > 20)) = true, (decide (m < 1)) = false, (decide (n > 63000)) = false, (decide (n < 0)) = false]) (by kernel_rfl) ⟨hq3, hq2, hq1, hq0, trivial⟩ (by kernel_rfl)
theorem pTravel_p4 (n m : Int)  (hq0 : (decide (n < 0)) = false) (hq1 : (decide (n > 63000)) = false) (hq2 : (decide (m < 1)) = false) (hq3 : (decide (m > 20)) = false) (hq4 : (decide (0 ≤ n ∧ n ≤ 63000 ∧ 1 ≤ m ∧ m ≤ 20)) = true) : Known Try.prog [] 15 [.int .i64 n, .int .i64 m] (.tuple #[(.int .i64 (rD m n)), (.int .i64 (0))]) :=
  open_res mix tabD_ok (T := tabD) (fuel := 3000) (ans := [(0, .b 0), (3, .b 0), (6, .b 0), (9, .b 0), (11, .b 1)]) (log := [(decide (0 ≤ n ∧ n ≤ 63000 ∧ 1 ≤ m ∧ m ≤ 20)) = true, (decide (m > 20)) = false, (decide (m < 1)) = false, (decide (n > 63000)) = false, (decide (n < 0)) = false]) (by kernel_rfl) ⟨hq4, hq3, hq2, hq1, hq0, trivial⟩ (by kernel_rfl)
theorem pTravel (n m : Int)  : Known Try.prog [] 15 [.int .i64 n, .int .i64 m] (.tuple #[(.int .i64 (pTravel_c0 n m)), (.int .i64 (pTravel_c1 n m))]) := by
  rcases Bool.eq_false_or_eq_true (decide (n < 0)) with hq0 | hq0
  ·
    have e0 : pTravel_c0 n m = (0) := ((bif_t hq0 _ _).trans rfl); rw [e0]; have e1 : pTravel_c1 n m = (2) := ((bif_t hq0 _ _).trans rfl); rw [e1]; exact pTravel_p0 n m hq0
  ·
    rcases Bool.eq_false_or_eq_true (decide (n > 63000)) with hq1 | hq1
    ·
      have e0 : pTravel_c0 n m = (0) := ((bif_f hq0 _ _).trans ((bif_t hq1 _ _).trans rfl)); rw [e0]; have e1 : pTravel_c1 n m = (2) := ((bif_f hq0 _ _).trans ((bif_t hq1 _ _).trans rfl)); rw [e1]; exact pTravel_p1 n m hq0 hq1
    ·
      rcases Bool.eq_false_or_eq_true (decide (m < 1)) with hq2 | hq2
      ·
        have e0 : pTravel_c0 n m = (0) := ((bif_f hq0 _ _).trans ((bif_f hq1 _ _).trans ((bif_t hq2 _ _).trans rfl))); rw [e0]; have e1 : pTravel_c1 n m = (2) := ((bif_f hq0 _ _).trans ((bif_f hq1 _ _).trans ((bif_t hq2 _ _).trans rfl))); rw [e1]; exact pTravel_p2 n m hq0 hq1 hq2
      ·
        rcases Bool.eq_false_or_eq_true (decide (m > 20)) with hq3 | hq3
        ·
          have e0 : pTravel_c0 n m = (0) := ((bif_f hq0 _ _).trans ((bif_f hq1 _ _).trans ((bif_f hq2 _ _).trans ((bif_t hq3 _ _).trans rfl)))); rw [e0]; have e1 : pTravel_c1 n m = (2) := ((bif_f hq0 _ _).trans ((bif_f hq1 _ _).trans ((bif_f hq2 _ _).trans ((bif_t hq3 _ _).trans rfl)))); rw [e1]; exact pTravel_p3 n m hq0 hq1 hq2 hq3
        ·
          have hq4 : (decide (0 ≤ n ∧ n ≤ 63000 ∧ 1 ≤ m ∧ m ≤ 20)) = true := by
            rcases Bool.eq_false_or_eq_true (decide (0 ≤ n ∧ n ≤ 63000 ∧ 1 ≤ m ∧ m ≤ 20)) with h | h
            · first | exact h | (exfalso; (simp only [decide_eq_true_eq, decide_eq_false_iff_not, beq_iff_eq, beq_eq_false_iff_ne, bne_iff_ne, bne_eq_false_iff_eq, ne_eq, eq_self, Bool.not_eq_true', Bool.not_eq_false', Bool.and_eq_true, Bool.or_eq_true, Bool.and_eq_false_iff, Bool.or_eq_false_iff, not_true_eq_false, not_false_eq_true, IntKind.wrap_i64, wrapU64, tdivP, tmodP, fdivP, Int.reduceLT, Int.not_lt, Int.not_le, gt_iff_lt, ge_iff_le] at * <;> first | contradiction | omega))
            · first | exact h | (exfalso; (simp only [decide_eq_true_eq, decide_eq_false_iff_not, beq_iff_eq, beq_eq_false_iff_ne, bne_iff_ne, bne_eq_false_iff_eq, ne_eq, eq_self, Bool.not_eq_true', Bool.not_eq_false', Bool.and_eq_true, Bool.or_eq_true, Bool.and_eq_false_iff, Bool.or_eq_false_iff, not_true_eq_false, not_false_eq_true, IntKind.wrap_i64, wrapU64, tdivP, tmodP, fdivP, Int.reduceLT, Int.not_lt, Int.not_le, gt_iff_lt, ge_iff_le] at * <;> first | contradiction | omega))
          have e0 : pTravel_c0 n m = (rD m n) := ((bif_f hq0 _ _).trans ((bif_f hq1 _ _).trans ((bif_f hq2 _ _).trans ((bif_f hq3 _ _).trans rfl)))); rw [e0]; have e1 : pTravel_c1 n m = (0) := ((bif_f hq0 _ _).trans ((bif_f hq1 _ _).trans ((bif_f hq2 _ _).trans ((bif_f hq3 _ _).trans rfl)))); rw [e1]; exact pTravel_p4 n m hq0 hq1 hq2 hq3 hq4
noncomputable def pTravel_k : List Value → Option Value
  | [.int .i64 n, .int .i64 m] => some (.tuple #[(.int .i64 (pTravel_c0 n m)), (.int .i64 (pTravel_c1 n m))])
  | _ => none
theorem pTravel_ok : ∀ args v, pTravel_k args = some v → Known Try.prog [] 15 args v := by
  intro args v h
  unfold pTravel_k at h
  split at h
  · injection h with h; subst h; exact pTravel _ _
  · cases h

noncomputable def pRe_hd (t m : Int) : Hd := headO Try.prog [] tabD 3000 24 [.int .i64 t, .int .i64 m] [(0, .b 0), (3, .b 0), (6, .b 0), (9, .b 0), (11, .stop)]
noncomputable def pRe_S (t m : Int) (y0 : Int) (y1 : Int) (j : Nat → Value) : St := ((pRe_hd t m).s.updF [(5, .int .i64 y0), (6, .int .i64 y1), (7, j 7), (9, j 9), (10, j 10), (11, j 11), (12, j 12), (13, j 13), (14, j 14), (15, j 15), (16, j 16), (17, j 17), (18, j 18), (19, j 19), (20, j 20), (21, j 21), (22, j 22), (23, j 23), (24, j 24)] [])
noncomputable def pRe_J0 (t m : Int) (y0 : Int) (y1 : Int) (j : Nat → Value) : Nat → Value := jOf (bodySt (bodyF Try.prog ([] : Vars).length tabD 3000 (pRe_hd t m) (pRe_S t m y0 y1  j) [(0, .b 1), (1, .b 1), (2, .b 1)]))
theorem pRe_p0 (t m : Int) (h1 : 0 ≤ t ∧ t ≤ 63000) (h2 : 1 ≤ m ∧ m ≤ 20) (y0 : Int) (y1 : Int) (j : Nat → Value) (hi : (decide (0 ≤ y0 ∧ y0 ≤ y1 ∧ y1 ≤ 63000)) = true) (hq0 : (decide (y0 < y1)) = true) (hq1 : (decide (0 ≤ IntKind.i64.wrap (IntKind.i64.wrap ((IntKind.u64.wrap (IntKind.i64.wrap (y0 + y1))).fdiv 2) + 1) ∧ IntKind.i64.wrap (IntKind.i64.wrap ((IntKind.u64.wrap (IntKind.i64.wrap (y0 + y1))).fdiv 2) + 1) ≤ 63000 ∧ 1 ≤ m ∧ m ≤ 20)) = true) (hq2 : (!decide (rD m (IntKind.i64.wrap (IntKind.i64.wrap ((IntKind.u64.wrap (IntKind.i64.wrap (y0 + y1))).fdiv 2) + 1)) > t)) = true) : bodyF Try.prog ([] : Vars).length tabD 3000 (pRe_hd t m) (pRe_S t m y0 y1  j) [(0, .b 1), (1, .b 1), (2, .b 1)] = some (.normal, (pRe_S t m (IntKind.i64.wrap (IntKind.i64.wrap ((IntKind.u64.wrap (IntKind.i64.wrap (y0 + y1))).fdiv 2) + 1)) (y1) (pRe_J0 t m y0 y1 j)), [(!decide (rD m (IntKind.i64.wrap (IntKind.i64.wrap ((IntKind.u64.wrap (IntKind.i64.wrap (y0 + y1))).fdiv 2) + 1)) > t)) = true, (decide (0 ≤ IntKind.i64.wrap (IntKind.i64.wrap ((IntKind.u64.wrap (IntKind.i64.wrap (y0 + y1))).fdiv 2) + 1) ∧ IntKind.i64.wrap (IntKind.i64.wrap ((IntKind.u64.wrap (IntKind.i64.wrap (y0 + y1))).fdiv 2) + 1) ≤ 63000 ∧ 1 ≤ m ∧ m ≤ 20)) = true, (decide (y0 < y1)) = true]) := by kernel_rfl
noncomputable def pRe_J1 (t m : Int) (y0 : Int) (y1 : Int) (j : Nat → Value) : Nat → Value := jOf (bodySt (bodyF Try.prog ([] : Vars).length tabD 3000 (pRe_hd t m) (pRe_S t m y0 y1  j) [(0, .b 1), (1, .b 1), (2, .b 0)]))
theorem pRe_p1 (t m : Int) (h1 : 0 ≤ t ∧ t ≤ 63000) (h2 : 1 ≤ m ∧ m ≤ 20) (y0 : Int) (y1 : Int) (j : Nat → Value) (hi : (decide (0 ≤ y0 ∧ y0 ≤ y1 ∧ y1 ≤ 63000)) = true) (hq0 : (decide (y0 < y1)) = true) (hq1 : (decide (0 ≤ IntKind.i64.wrap (IntKind.i64.wrap ((IntKind.u64.wrap (IntKind.i64.wrap (y0 + y1))).fdiv 2) + 1) ∧ IntKind.i64.wrap (IntKind.i64.wrap ((IntKind.u64.wrap (IntKind.i64.wrap (y0 + y1))).fdiv 2) + 1) ≤ 63000 ∧ 1 ≤ m ∧ m ≤ 20)) = true) (hq2 : (!decide (rD m (IntKind.i64.wrap (IntKind.i64.wrap ((IntKind.u64.wrap (IntKind.i64.wrap (y0 + y1))).fdiv 2) + 1)) > t)) = false) : bodyF Try.prog ([] : Vars).length tabD 3000 (pRe_hd t m) (pRe_S t m y0 y1  j) [(0, .b 1), (1, .b 1), (2, .b 0)] = some (.normal, (pRe_S t m (y0) (IntKind.i64.wrap ((IntKind.u64.wrap (IntKind.i64.wrap (y0 + y1))).fdiv 2)) (pRe_J1 t m y0 y1 j)), [(!decide (rD m (IntKind.i64.wrap (IntKind.i64.wrap ((IntKind.u64.wrap (IntKind.i64.wrap (y0 + y1))).fdiv 2) + 1)) > t)) = false, (decide (0 ≤ IntKind.i64.wrap (IntKind.i64.wrap ((IntKind.u64.wrap (IntKind.i64.wrap (y0 + y1))).fdiv 2) + 1) ∧ IntKind.i64.wrap (IntKind.i64.wrap ((IntKind.u64.wrap (IntKind.i64.wrap (y0 + y1))).fdiv 2) + 1) ≤ 63000 ∧ 1 ≤ m ∧ m ≤ 20)) = true, (decide (y0 < y1)) = true]) := by kernel_rfl
theorem pRe_p2 (t m : Int) (h1 : 0 ≤ t ∧ t ≤ 63000) (h2 : 1 ≤ m ∧ m ≤ 20) (y0 : Int) (y1 : Int) (j : Nat → Value) (hi : (decide (0 ≤ y0 ∧ y0 ≤ y1 ∧ y1 ≤ 63000)) = true) (hq0 : (decide (y0 < y1)) = false) : bodyF Try.prog ([] : Vars).length tabD 3000 (pRe_hd t m) (pRe_S t m y0 y1  j) [(0, .b 0)] = some (.exit 0, bodySt (bodyF Try.prog ([] : Vars).length tabD 3000 (pRe_hd t m) (pRe_S t m y0 y1  j) [(0, .b 0)]), [(decide (y0 < y1)) = false]) := by kernel_rfl
theorem pRe_d0 (t m : Int) (h1 : 0 ≤ t ∧ t ≤ 63000) (h2 : 1 ≤ m ∧ m ≤ 20) (y0 : Int) (y1 : Int) (hi : (decide (0 ≤ y0 ∧ y0 ≤ y1 ∧ y1 ≤ 63000)) = true) (hq0 : (decide (y0 < y1)) = true) : (decide (0 ≤ IntKind.i64.wrap (IntKind.i64.wrap ((IntKind.u64.wrap (IntKind.i64.wrap (y0 + y1))).fdiv 2) + 1) ∧ IntKind.i64.wrap (IntKind.i64.wrap ((IntKind.u64.wrap (IntKind.i64.wrap (y0 + y1))).fdiv 2) + 1) ≤ 63000 ∧ 1 ≤ m ∧ m ≤ 20)) = true := by
  rcases Bool.eq_false_or_eq_true (decide (0 ≤ IntKind.i64.wrap (IntKind.i64.wrap ((IntKind.u64.wrap (IntKind.i64.wrap (y0 + y1))).fdiv 2) + 1) ∧ IntKind.i64.wrap (IntKind.i64.wrap ((IntKind.u64.wrap (IntKind.i64.wrap (y0 + y1))).fdiv 2) + 1) ≤ 63000 ∧ 1 ≤ m ∧ m ≤ 20)) with h | h
  · first | exact h | (exfalso; (simp only [decide_eq_true_eq, decide_eq_false_iff_not, beq_iff_eq, beq_eq_false_iff_ne, bne_iff_ne, bne_eq_false_iff_eq, ne_eq, eq_self, Bool.not_eq_true', Bool.not_eq_false', Bool.and_eq_true, Bool.or_eq_true, Bool.and_eq_false_iff, Bool.or_eq_false_iff, not_true_eq_false, not_false_eq_true, IntKind.wrap_i64, wrapU64, tdivP, tmodP, fdivP, Int.reduceLT, Int.not_lt, Int.not_le, gt_iff_lt, ge_iff_le] at * <;> first | contradiction | omega))
  · first | exact h | (exfalso; (simp only [decide_eq_true_eq, decide_eq_false_iff_not, beq_iff_eq, beq_eq_false_iff_ne, bne_iff_ne, bne_eq_false_iff_eq, ne_eq, eq_self, Bool.not_eq_true', Bool.not_eq_false', Bool.and_eq_true, Bool.or_eq_true, Bool.and_eq_false_iff, Bool.or_eq_false_iff, not_true_eq_false, not_false_eq_true, IntKind.wrap_i64, wrapU64, tdivP, tmodP, fdivP, Int.reduceLT, Int.not_lt, Int.not_le, gt_iff_lt, ge_iff_le] at * <;> first | contradiction | omega))
def pRe_X : Nat → VX
  | 0 => .exit 0
  | _ => .normal
noncomputable def pRe_E (k : Nat) (t m : Int) (y0 : Int) (y1 : Int) (j : Nat → Value) : St := match k with
  | 0 => bodySt (bodyF Try.prog ([] : Vars).length tabD 3000 (pRe_hd t m) (pRe_S t m y0 y1  j) [(0, .b 0)])
  | _ => (pRe_hd t m).s
noncomputable def pRe_f (t m : Int) : Nat → Int → Int → Option (Nat × (Int × Int))
  | 0, _, _ => none
  | fu + 1, y0, y1 => (bif (decide (0 ≤ y0 ∧ y0 ≤ y1 ∧ y1 ≤ 63000)) then (bif (decide (y0 < y1)) then (bif (!decide (rD m (IntKind.i64.wrap (IntKind.i64.wrap ((IntKind.u64.wrap (IntKind.i64.wrap (y0 + y1))).fdiv 2) + 1)) > t)) then pRe_f t m fu (IntKind.i64.wrap (IntKind.i64.wrap ((IntKind.u64.wrap (IntKind.i64.wrap (y0 + y1))).fdiv 2) + 1)) (y1) else pRe_f t m fu (y0) (IntKind.i64.wrap ((IntKind.u64.wrap (IntKind.i64.wrap (y0 + y1))).fdiv 2))) else some (0, (y0, y1))) else none)
theorem pRe_fs (t m : Int) (fu : Nat) (y0 : Int) (y1 : Int) : pRe_f t m (fu + 1) y0 y1 = (bif (decide (0 ≤ y0 ∧ y0 ≤ y1 ∧ y1 ≤ 63000)) then (bif (decide (y0 < y1)) then (bif (!decide (rD m (IntKind.i64.wrap (IntKind.i64.wrap ((IntKind.u64.wrap (IntKind.i64.wrap (y0 + y1))).fdiv 2) + 1)) > t)) then pRe_f t m fu (IntKind.i64.wrap (IntKind.i64.wrap ((IntKind.u64.wrap (IntKind.i64.wrap (y0 + y1))).fdiv 2) + 1)) (y1) else pRe_f t m fu (y0) (IntKind.i64.wrap ((IntKind.u64.wrap (IntKind.i64.wrap (y0 + y1))).fdiv 2))) else some (0, (y0, y1))) else none) := rfl
theorem pRe_f0 (t m : Int) (y0 : Int) (y1 : Int) : pRe_f t m 0 y0 y1 = none := rfl
theorem pRe_loop (t m : Int) (h1 : 0 ≤ t ∧ t ≤ 63000) (h2 : 1 ≤ m ∧ m ≤ 20) : ∀ (fu : Nat) (y0 : Int) (y1 : Int) (j : Nat → Value) (kk : Nat) (zz : Int × Int), pRe_f t m fu y0 y1 = some (kk, zz) → ∃ j', LoopRes Try.prog ([] : Vars).length tabD (pRe_hd t m).ro (pRe_hd t m).a (pRe_S t m y0 y1  j) (pRe_X kk) (pRe_E kk t m zz.1 zz.2 j')
  | 0, y0, y1, j, kk, zz, hf => by cases (pRe_f0 t m y0 y1 ).symm.trans hf
  | fu + 1, y0, y1, j, kk, zz, hf => by
    have ih := pRe_loop t m h1  h2  fu
    have hf := (pRe_fs t m fu y0 y1 ).symm.trans hf
    rcases bif_or hf with ⟨hi, hf⟩ | ⟨hi, hf⟩
    case inr => cases hf
    rcases bif_or hf with ⟨hq0, hf⟩ | ⟨hq0, hf⟩
    ·
      have hq1 := pRe_d0 t m h1  h2  y0 y1 hi hq0 
      rcases bif_or hf with ⟨hq2, hf⟩ | ⟨hq2, hf⟩
      ·
        obtain ⟨j', hj⟩ := ih (IntKind.i64.wrap (IntKind.i64.wrap ((IntKind.u64.wrap (IntKind.i64.wrap (y0 + y1))).fdiv 2) + 1)) (y1) (pRe_J0 t m y0 y1 j) kk zz hf; exact ⟨j', loop_next (body_res (pRe_p0 t m h1  h2  y0 y1 j hi  hq0 hq1 hq2)) ⟨hq2, hq1, hq0, trivial⟩ hj⟩
      ·
        obtain ⟨j', hj⟩ := ih (y0) (IntKind.i64.wrap ((IntKind.u64.wrap (IntKind.i64.wrap (y0 + y1))).fdiv 2)) (pRe_J1 t m y0 y1 j) kk zz hf; exact ⟨j', loop_next (body_res (pRe_p1 t m h1  h2  y0 y1 j hi  hq0 hq1 hq2)) ⟨hq2, hq1, hq0, trivial⟩ hj⟩
    ·
      injection hf with hf; injection hf with e1 e2; subst e1; subst e2; exact ⟨j, loop_exit (body_res (pRe_p2 t m h1  h2  y0 y1 j hi  hq0)) ⟨hq0, trivial⟩⟩
theorem pRe_run (t m : Int) (h1 : 0 ≤ t ∧ t ≤ 63000) (h2 : 1 ≤ m ∧ m ≤ 20) (fu kk : Nat) (zz : Int × Int) (hf : pRe_f t m fu (0) (63000) = some (kk, zz)) : ∃ j', LoopRes Try.prog ([] : Vars).length tabD (pRe_hd t m).ro (pRe_hd t m).a (pRe_hd t m).s (pRe_X kk) (pRe_E kk t m zz.1 zz.2 j') := by
  have e : (pRe_hd t m).s = (pRe_S t m (0) (63000) noJ) := by kernel_rfl
  rw [e]
  exact pRe_loop t m h1  h2  fu (0) (63000) noJ kk zz hf

noncomputable def pReK_c0 (t m : Int) (pRe_z0 : Int) (pRe_z1 : Int) (pRe_j : Nat → Value) : Int := (pRe_z0)
theorem pReK_p0 (t m : Int) (pRe_z0 : Int) (pRe_z1 : Int) (pRe_j : Nat → Value) (h1 : 0 ≤ t ∧ t ≤ 63000) (h2 : 1 ≤ m ∧ m ≤ 20) (pRe_k0 : (decide (t < 0)) = false) (pRe_k3 : (decide (t > 63000)) = false) (pRe_k6 : (decide (m < 1)) = false) (pRe_k9 : (decide (m > 20)) = false) (pRe_l : LoopRes Try.prog ([] : Vars).length tabD (pRe_hd t m).ro (pRe_hd t m).a (pRe_hd t m).s (pRe_X 0) (pRe_E 0 t m pRe_z0 pRe_z1 pRe_j)) : Known Try.prog [] 24 [.int .i64 t, .int .i64 m] (.tuple #[(.int .i64 (pRe_z0)), (.int .i64 (0))]) :=
  open_res mix tabD_ok (T := tabD) (fuel := 3000) (ans := [(0, .b 0), (3, .b 0), (6, .b 0), (9, .b 0), (11, .loop (pRe_X 0) (pRe_E 0 t m pRe_z0 pRe_z1 pRe_j)), ]) (log := [LoopRes Try.prog ([] : Vars).length tabD (pRe_hd t m).ro (pRe_hd t m).a (pRe_hd t m).s (pRe_X 0) (pRe_E 0 t m pRe_z0 pRe_z1 pRe_j), (decide (m > 20)) = false, (decide (m < 1)) = false, (decide (t > 63000)) = false, (decide (t < 0)) = false]) (by kernel_rfl) ⟨pRe_l, pRe_k9, pRe_k6, pRe_k3, pRe_k0, trivial⟩ (by kernel_rfl)
theorem pReK (t m : Int) (pRe_z0 : Int) (pRe_z1 : Int) (pRe_j : Nat → Value) (h1 : 0 ≤ t ∧ t ≤ 63000) (h2 : 1 ≤ m ∧ m ≤ 20) (pRe_k0 : (decide (t < 0)) = false) (pRe_k3 : (decide (t > 63000)) = false) (pRe_k6 : (decide (m < 1)) = false) (pRe_k9 : (decide (m > 20)) = false) (pRe_l : LoopRes Try.prog ([] : Vars).length tabD (pRe_hd t m).ro (pRe_hd t m).a (pRe_hd t m).s (pRe_X 0) (pRe_E 0 t m pRe_z0 pRe_z1 pRe_j)) : Known Try.prog [] 24 [.int .i64 t, .int .i64 m] (.tuple #[(.int .i64 (pReK_c0 t m pRe_z0 pRe_z1 pRe_j)), (.int .i64 (0))]) := by
  have e0 : pReK_c0 t m pRe_z0 pRe_z1 pRe_j = (pRe_z0) := rfl; rw [e0]; exact pReK_p0 t m pRe_z0 pRe_z1 pRe_j h1 h2 pRe_k0 pRe_k3 pRe_k6 pRe_k9 pRe_l

theorem pReE_p0 (t m : Int) (h1 : ¬ (0 ≤ t ∧ t ≤ 63000 ∧ 1 ≤ m ∧ m ≤ 20)) (hq0 : (decide (t < 0)) = true) : Known Try.prog [] 24 [.int .i64 t, .int .i64 m] (.tuple #[(.int .i64 (0)), (.int .i64 (2))]) :=
  open_res mix tabD_ok (T := tabD) (fuel := 3000) (ans := [(0, .b 1)]) (log := [(decide (t < 0)) = true]) (by kernel_rfl) ⟨hq0, trivial⟩ (by kernel_rfl)
theorem pReE_p1 (t m : Int) (h1 : ¬ (0 ≤ t ∧ t ≤ 63000 ∧ 1 ≤ m ∧ m ≤ 20)) (hq0 : (decide (t < 0)) = false) (hq1 : (decide (t > 63000)) = true) : Known Try.prog [] 24 [.int .i64 t, .int .i64 m] (.tuple #[(.int .i64 (0)), (.int .i64 (2))]) :=
  open_res mix tabD_ok (T := tabD) (fuel := 3000) (ans := [(0, .b 0), (3, .b 1)]) (log := [(decide (t > 63000)) = true, (decide (t < 0)) = false]) (by kernel_rfl) ⟨hq1, hq0, trivial⟩ (by kernel_rfl)
theorem pReE_p2 (t m : Int) (h1 : ¬ (0 ≤ t ∧ t ≤ 63000 ∧ 1 ≤ m ∧ m ≤ 20)) (hq0 : (decide (t < 0)) = false) (hq1 : (decide (t > 63000)) = false) (hq2 : (decide (m < 1)) = true) : Known Try.prog [] 24 [.int .i64 t, .int .i64 m] (.tuple #[(.int .i64 (0)), (.int .i64 (2))]) :=
  open_res mix tabD_ok (T := tabD) (fuel := 3000) (ans := [(0, .b 0), (3, .b 0), (6, .b 1)]) (log := [(decide (m < 1)) = true, (decide (t > 63000)) = false, (decide (t < 0)) = false]) (by kernel_rfl) ⟨hq2, hq1, hq0, trivial⟩ (by kernel_rfl)
theorem pReE_p3 (t m : Int) (h1 : ¬ (0 ≤ t ∧ t ≤ 63000 ∧ 1 ≤ m ∧ m ≤ 20)) (hq0 : (decide (t < 0)) = false) (hq1 : (decide (t > 63000)) = false) (hq2 : (decide (m < 1)) = false) (hq3 : (decide (m > 20)) = true) : Known Try.prog [] 24 [.int .i64 t, .int .i64 m] (.tuple #[(.int .i64 (0)), (.int .i64 (2))]) :=
  open_res mix tabD_ok (T := tabD) (fuel := 3000) (ans := [(0, .b 0), (3, .b 0), (6, .b 0), (9, .b 1)]) (log := [(decide (m > 20)) = true, (decide (m < 1)) = false, (decide (t > 63000)) = false, (decide (t < 0)) = false]) (by kernel_rfl) ⟨hq3, hq2, hq1, hq0, trivial⟩ (by kernel_rfl)
theorem pReE (t m : Int) (h1 : ¬ (0 ≤ t ∧ t ≤ 63000 ∧ 1 ≤ m ∧ m ≤ 20)) : Known Try.prog [] 24 [.int .i64 t, .int .i64 m] (.tuple #[(.int .i64 (0)), (.int .i64 (2))]) := by
  rcases Bool.eq_false_or_eq_true (decide (t < 0)) with hq0 | hq0
  ·
    exact pReE_p0 t m h1 hq0
  ·
    rcases Bool.eq_false_or_eq_true (decide (t > 63000)) with hq1 | hq1
    ·
      exact pReE_p1 t m h1 hq0 hq1
    ·
      rcases Bool.eq_false_or_eq_true (decide (m < 1)) with hq2 | hq2
      ·
        exact pReE_p2 t m h1 hq0 hq1 hq2
      ·
        have hq3 : (decide (m > 20)) = true := by
          rcases Bool.eq_false_or_eq_true (decide (m > 20)) with h | h
          · first | exact h | (exfalso; (simp only [decide_eq_true_eq, decide_eq_false_iff_not, beq_iff_eq, beq_eq_false_iff_ne, bne_iff_ne, bne_eq_false_iff_eq, ne_eq, eq_self, Bool.not_eq_true', Bool.not_eq_false', Bool.and_eq_true, Bool.or_eq_true, Bool.and_eq_false_iff, Bool.or_eq_false_iff, not_true_eq_false, not_false_eq_true, IntKind.wrap_i64, wrapU64, tdivP, tmodP, fdivP, Int.reduceLT, Int.not_lt, Int.not_le, gt_iff_lt, ge_iff_le] at * <;> first | contradiction | omega))
          · first | exact h | (exfalso; (simp only [decide_eq_true_eq, decide_eq_false_iff_not, beq_iff_eq, beq_eq_false_iff_ne, bne_iff_ne, bne_eq_false_iff_eq, ne_eq, eq_self, Bool.not_eq_true', Bool.not_eq_false', Bool.and_eq_true, Bool.or_eq_true, Bool.and_eq_false_iff, Bool.or_eq_false_iff, not_true_eq_false, not_false_eq_true, IntKind.wrap_i64, wrapU64, tdivP, tmodP, fdivP, Int.reduceLT, Int.not_lt, Int.not_le, gt_iff_lt, ge_iff_le] at * <;> first | contradiction | omega))
        exact pReE_p3 t m h1 hq0 hq1 hq2 hq3

noncomputable def rRe_hd (t m : Int) : Hd := headO Try.prog [] tabD 3000 25 [.int .i64 t, .int .i64 m] [(6, .b 0), (9, .b 0), (13, .b 0), (18, .b 0), (20, .stop)]
noncomputable def rRe_S (t m : Int) (y0 : Int) (y1 : Int) (j : Nat → Value) : St := ((rRe_hd t m).s.updF [(7, .int .i64 y0), (8, .int .i64 y1), (9, j 9), (10, j 10), (11, j 11), (27, j 27), (28, j 28), (29, j 29), (30, j 30), (31, j 31), (32, j 32), (33, j 33), (34, j 34), (35, j 35), (36, j 36), (37, j 37), (38, j 38), (39, j 39), (40, j 40), (41, j 41), (42, j 42), (43, j 43), (44, j 44), (45, j 45), (46, j 46), (47, j 47), (48, j 48)] [])
noncomputable def rRe_J0 (t m : Int) (y0 : Int) (y1 : Int) (j : Nat → Value) : Nat → Value := jOf (bodySt (bodyF Try.prog ([] : Vars).length tabD 3000 (rRe_hd t m) (rRe_S t m y0 y1  j) [(0, .b 1), (2, .b 1), (3, .b 1)]))
theorem rRe_p0 (t m : Int) (h1 : 0 ≤ t ∧ t ≤ 63000) (h2 : 1 ≤ m ∧ m ≤ 20) (y0 : Int) (y1 : Int) (j : Nat → Value) (hi : (decide (0 ≤ y0 ∧ y0 ≤ y1 ∧ y1 ≤ 63000)) = true) (hq0 : (decide (y0 < y1)) = true) (hq1 : (decide (0 ≤ IntKind.i64.wrap (y0 + IntKind.i64.wrap ((IntKind.i64.wrap (IntKind.i64.wrap (y1 - y0) + 1)).tdiv 2)) ∧ IntKind.i64.wrap (y0 + IntKind.i64.wrap ((IntKind.i64.wrap (IntKind.i64.wrap (y1 - y0) + 1)).tdiv 2)) ≤ 63000 ∧ 1 ≤ m ∧ m ≤ 20)) = true) (hq2 : (decide (rD m (IntKind.i64.wrap (y0 + IntKind.i64.wrap ((IntKind.i64.wrap (IntKind.i64.wrap (y1 - y0) + 1)).tdiv 2))) ≤ t)) = true) : bodyF Try.prog ([] : Vars).length tabD 3000 (rRe_hd t m) (rRe_S t m y0 y1  j) [(0, .b 1), (2, .b 1), (3, .b 1)] = some (.normal, (rRe_S t m (IntKind.i64.wrap (y0 + IntKind.i64.wrap ((IntKind.i64.wrap (IntKind.i64.wrap (y1 - y0) + 1)).tdiv 2))) (y1) (rRe_J0 t m y0 y1 j)), [(decide (rD m (IntKind.i64.wrap (y0 + IntKind.i64.wrap ((IntKind.i64.wrap (IntKind.i64.wrap (y1 - y0) + 1)).tdiv 2))) ≤ t)) = true, (decide (0 ≤ IntKind.i64.wrap (y0 + IntKind.i64.wrap ((IntKind.i64.wrap (IntKind.i64.wrap (y1 - y0) + 1)).tdiv 2)) ∧ IntKind.i64.wrap (y0 + IntKind.i64.wrap ((IntKind.i64.wrap (IntKind.i64.wrap (y1 - y0) + 1)).tdiv 2)) ≤ 63000 ∧ 1 ≤ m ∧ m ≤ 20)) = true, (decide (y0 < y1)) = true]) := by kernel_rfl
noncomputable def rRe_J1 (t m : Int) (y0 : Int) (y1 : Int) (j : Nat → Value) : Nat → Value := jOf (bodySt (bodyF Try.prog ([] : Vars).length tabD 3000 (rRe_hd t m) (rRe_S t m y0 y1  j) [(0, .b 1), (2, .b 1), (3, .b 0)]))
theorem rRe_p1 (t m : Int) (h1 : 0 ≤ t ∧ t ≤ 63000) (h2 : 1 ≤ m ∧ m ≤ 20) (y0 : Int) (y1 : Int) (j : Nat → Value) (hi : (decide (0 ≤ y0 ∧ y0 ≤ y1 ∧ y1 ≤ 63000)) = true) (hq0 : (decide (y0 < y1)) = true) (hq1 : (decide (0 ≤ IntKind.i64.wrap (y0 + IntKind.i64.wrap ((IntKind.i64.wrap (IntKind.i64.wrap (y1 - y0) + 1)).tdiv 2)) ∧ IntKind.i64.wrap (y0 + IntKind.i64.wrap ((IntKind.i64.wrap (IntKind.i64.wrap (y1 - y0) + 1)).tdiv 2)) ≤ 63000 ∧ 1 ≤ m ∧ m ≤ 20)) = true) (hq2 : (decide (rD m (IntKind.i64.wrap (y0 + IntKind.i64.wrap ((IntKind.i64.wrap (IntKind.i64.wrap (y1 - y0) + 1)).tdiv 2))) ≤ t)) = false) : bodyF Try.prog ([] : Vars).length tabD 3000 (rRe_hd t m) (rRe_S t m y0 y1  j) [(0, .b 1), (2, .b 1), (3, .b 0)] = some (.normal, (rRe_S t m (y0) (IntKind.i64.wrap (IntKind.i64.wrap (y0 + IntKind.i64.wrap ((IntKind.i64.wrap (IntKind.i64.wrap (y1 - y0) + 1)).tdiv 2)) - 1)) (rRe_J1 t m y0 y1 j)), [(decide (rD m (IntKind.i64.wrap (y0 + IntKind.i64.wrap ((IntKind.i64.wrap (IntKind.i64.wrap (y1 - y0) + 1)).tdiv 2))) ≤ t)) = false, (decide (0 ≤ IntKind.i64.wrap (y0 + IntKind.i64.wrap ((IntKind.i64.wrap (IntKind.i64.wrap (y1 - y0) + 1)).tdiv 2)) ∧ IntKind.i64.wrap (y0 + IntKind.i64.wrap ((IntKind.i64.wrap (IntKind.i64.wrap (y1 - y0) + 1)).tdiv 2)) ≤ 63000 ∧ 1 ≤ m ∧ m ≤ 20)) = true, (decide (y0 < y1)) = true]) := by kernel_rfl
theorem rRe_p2 (t m : Int) (h1 : 0 ≤ t ∧ t ≤ 63000) (h2 : 1 ≤ m ∧ m ≤ 20) (y0 : Int) (y1 : Int) (j : Nat → Value) (hi : (decide (0 ≤ y0 ∧ y0 ≤ y1 ∧ y1 ≤ 63000)) = true) (hq0 : (decide (y0 < y1)) = false) : bodyF Try.prog ([] : Vars).length tabD 3000 (rRe_hd t m) (rRe_S t m y0 y1  j) [(0, .b 0)] = some (.exit 0, bodySt (bodyF Try.prog ([] : Vars).length tabD 3000 (rRe_hd t m) (rRe_S t m y0 y1  j) [(0, .b 0)]), [(decide (y0 < y1)) = false]) := by kernel_rfl
theorem rRe_d0 (t m : Int) (h1 : 0 ≤ t ∧ t ≤ 63000) (h2 : 1 ≤ m ∧ m ≤ 20) (y0 : Int) (y1 : Int) (hi : (decide (0 ≤ y0 ∧ y0 ≤ y1 ∧ y1 ≤ 63000)) = true) (hq0 : (decide (y0 < y1)) = true) : (decide (0 ≤ IntKind.i64.wrap (y0 + IntKind.i64.wrap ((IntKind.i64.wrap (IntKind.i64.wrap (y1 - y0) + 1)).tdiv 2)) ∧ IntKind.i64.wrap (y0 + IntKind.i64.wrap ((IntKind.i64.wrap (IntKind.i64.wrap (y1 - y0) + 1)).tdiv 2)) ≤ 63000 ∧ 1 ≤ m ∧ m ≤ 20)) = true := by
  rcases Bool.eq_false_or_eq_true (decide (0 ≤ IntKind.i64.wrap (y0 + IntKind.i64.wrap ((IntKind.i64.wrap (IntKind.i64.wrap (y1 - y0) + 1)).tdiv 2)) ∧ IntKind.i64.wrap (y0 + IntKind.i64.wrap ((IntKind.i64.wrap (IntKind.i64.wrap (y1 - y0) + 1)).tdiv 2)) ≤ 63000 ∧ 1 ≤ m ∧ m ≤ 20)) with h | h
  · first | exact h | (exfalso; (simp only [decide_eq_true_eq, decide_eq_false_iff_not, beq_iff_eq, beq_eq_false_iff_ne, bne_iff_ne, bne_eq_false_iff_eq, ne_eq, eq_self, Bool.not_eq_true', Bool.not_eq_false', Bool.and_eq_true, Bool.or_eq_true, Bool.and_eq_false_iff, Bool.or_eq_false_iff, not_true_eq_false, not_false_eq_true, IntKind.wrap_i64, wrapU64, tdivP, tmodP, fdivP, Int.reduceLT, Int.not_lt, Int.not_le, gt_iff_lt, ge_iff_le] at * <;> first | contradiction | omega))
  · first | exact h | (exfalso; (simp only [decide_eq_true_eq, decide_eq_false_iff_not, beq_iff_eq, beq_eq_false_iff_ne, bne_iff_ne, bne_eq_false_iff_eq, ne_eq, eq_self, Bool.not_eq_true', Bool.not_eq_false', Bool.and_eq_true, Bool.or_eq_true, Bool.and_eq_false_iff, Bool.or_eq_false_iff, not_true_eq_false, not_false_eq_true, IntKind.wrap_i64, wrapU64, tdivP, tmodP, fdivP, Int.reduceLT, Int.not_lt, Int.not_le, gt_iff_lt, ge_iff_le] at * <;> first | contradiction | omega))
def rRe_X : Nat → VX
  | 0 => .exit 0
  | _ => .normal
noncomputable def rRe_E (k : Nat) (t m : Int) (y0 : Int) (y1 : Int) (j : Nat → Value) : St := match k with
  | 0 => bodySt (bodyF Try.prog ([] : Vars).length tabD 3000 (rRe_hd t m) (rRe_S t m y0 y1  j) [(0, .b 0)])
  | _ => (rRe_hd t m).s
noncomputable def rRe_f (t m : Int) : Nat → Int → Int → Option (Nat × (Int × Int))
  | 0, _, _ => none
  | fu + 1, y0, y1 => (bif (decide (0 ≤ y0 ∧ y0 ≤ y1 ∧ y1 ≤ 63000)) then (bif (decide (y0 < y1)) then (bif (decide (rD m (IntKind.i64.wrap (y0 + IntKind.i64.wrap ((IntKind.i64.wrap (IntKind.i64.wrap (y1 - y0) + 1)).tdiv 2))) ≤ t)) then rRe_f t m fu (IntKind.i64.wrap (y0 + IntKind.i64.wrap ((IntKind.i64.wrap (IntKind.i64.wrap (y1 - y0) + 1)).tdiv 2))) (y1) else rRe_f t m fu (y0) (IntKind.i64.wrap (IntKind.i64.wrap (y0 + IntKind.i64.wrap ((IntKind.i64.wrap (IntKind.i64.wrap (y1 - y0) + 1)).tdiv 2)) - 1))) else some (0, (y0, y1))) else none)
theorem rRe_fs (t m : Int) (fu : Nat) (y0 : Int) (y1 : Int) : rRe_f t m (fu + 1) y0 y1 = (bif (decide (0 ≤ y0 ∧ y0 ≤ y1 ∧ y1 ≤ 63000)) then (bif (decide (y0 < y1)) then (bif (decide (rD m (IntKind.i64.wrap (y0 + IntKind.i64.wrap ((IntKind.i64.wrap (IntKind.i64.wrap (y1 - y0) + 1)).tdiv 2))) ≤ t)) then rRe_f t m fu (IntKind.i64.wrap (y0 + IntKind.i64.wrap ((IntKind.i64.wrap (IntKind.i64.wrap (y1 - y0) + 1)).tdiv 2))) (y1) else rRe_f t m fu (y0) (IntKind.i64.wrap (IntKind.i64.wrap (y0 + IntKind.i64.wrap ((IntKind.i64.wrap (IntKind.i64.wrap (y1 - y0) + 1)).tdiv 2)) - 1))) else some (0, (y0, y1))) else none) := rfl
theorem rRe_f0 (t m : Int) (y0 : Int) (y1 : Int) : rRe_f t m 0 y0 y1 = none := rfl
theorem rRe_loop (t m : Int) (h1 : 0 ≤ t ∧ t ≤ 63000) (h2 : 1 ≤ m ∧ m ≤ 20) : ∀ (fu : Nat) (y0 : Int) (y1 : Int) (j : Nat → Value) (kk : Nat) (zz : Int × Int), rRe_f t m fu y0 y1 = some (kk, zz) → ∃ j', LoopRes Try.prog ([] : Vars).length tabD (rRe_hd t m).ro (rRe_hd t m).a (rRe_S t m y0 y1  j) (rRe_X kk) (rRe_E kk t m zz.1 zz.2 j')
  | 0, y0, y1, j, kk, zz, hf => by cases (rRe_f0 t m y0 y1 ).symm.trans hf
  | fu + 1, y0, y1, j, kk, zz, hf => by
    have ih := rRe_loop t m h1  h2  fu
    have hf := (rRe_fs t m fu y0 y1 ).symm.trans hf
    rcases bif_or hf with ⟨hi, hf⟩ | ⟨hi, hf⟩
    case inr => cases hf
    rcases bif_or hf with ⟨hq0, hf⟩ | ⟨hq0, hf⟩
    ·
      have hq1 := rRe_d0 t m h1  h2  y0 y1 hi hq0 
      rcases bif_or hf with ⟨hq2, hf⟩ | ⟨hq2, hf⟩
      ·
        obtain ⟨j', hj⟩ := ih (IntKind.i64.wrap (y0 + IntKind.i64.wrap ((IntKind.i64.wrap (IntKind.i64.wrap (y1 - y0) + 1)).tdiv 2))) (y1) (rRe_J0 t m y0 y1 j) kk zz hf; exact ⟨j', loop_next (body_res (rRe_p0 t m h1  h2  y0 y1 j hi  hq0 hq1 hq2)) ⟨hq2, hq1, hq0, trivial⟩ hj⟩
      ·
        obtain ⟨j', hj⟩ := ih (y0) (IntKind.i64.wrap (IntKind.i64.wrap (y0 + IntKind.i64.wrap ((IntKind.i64.wrap (IntKind.i64.wrap (y1 - y0) + 1)).tdiv 2)) - 1)) (rRe_J1 t m y0 y1 j) kk zz hf; exact ⟨j', loop_next (body_res (rRe_p1 t m h1  h2  y0 y1 j hi  hq0 hq1 hq2)) ⟨hq2, hq1, hq0, trivial⟩ hj⟩
    ·
      injection hf with hf; injection hf with e1 e2; subst e1; subst e2; exact ⟨j, loop_exit (body_res (rRe_p2 t m h1  h2  y0 y1 j hi  hq0)) ⟨hq0, trivial⟩⟩
theorem rRe_run (t m : Int) (h1 : 0 ≤ t ∧ t ≤ 63000) (h2 : 1 ≤ m ∧ m ≤ 20) (fu kk : Nat) (zz : Int × Int) (hf : rRe_f t m fu (0) (63000) = some (kk, zz)) : ∃ j', LoopRes Try.prog ([] : Vars).length tabD (rRe_hd t m).ro (rRe_hd t m).a (rRe_hd t m).s (rRe_X kk) (rRe_E kk t m zz.1 zz.2 j') := by
  have e : (rRe_hd t m).s = (rRe_S t m (0) (63000) noJ) := by kernel_rfl
  rw [e]
  exact rRe_loop t m h1  h2  fu (0) (63000) noJ kk zz hf

noncomputable def rReK_c0 (t m : Int) (rRe_z0 : Int) (rRe_z1 : Int) (rRe_j : Nat → Value) : Int := (rRe_z0)
theorem rReK_p0 (t m : Int) (rRe_z0 : Int) (rRe_z1 : Int) (rRe_j : Nat → Value) (h1 : 0 ≤ t ∧ t ≤ 63000) (h2 : 1 ≤ m ∧ m ≤ 20) (rRe_k6 : (decide (m < 1)) = false) (rRe_k9 : (decide (m > 20)) = false) (rRe_k13 : (decide (t < 0)) = false) (rRe_k18 : (decide (t > 63000)) = false) (rRe_l : LoopRes Try.prog ([] : Vars).length tabD (rRe_hd t m).ro (rRe_hd t m).a (rRe_hd t m).s (rRe_X 0) (rRe_E 0 t m rRe_z0 rRe_z1 rRe_j)) : Known Try.prog [] 25 [.int .i64 t, .int .i64 m] (.tuple #[(.int .i64 (rRe_z0)), (.int .i64 (0))]) :=
  open_res mix tabD_ok (T := tabD) (fuel := 3000) (ans := [(6, .b 0), (9, .b 0), (13, .b 0), (18, .b 0), (20, .loop (rRe_X 0) (rRe_E 0 t m rRe_z0 rRe_z1 rRe_j)), ]) (log := [LoopRes Try.prog ([] : Vars).length tabD (rRe_hd t m).ro (rRe_hd t m).a (rRe_hd t m).s (rRe_X 0) (rRe_E 0 t m rRe_z0 rRe_z1 rRe_j), (decide (t > 63000)) = false, (decide (t < 0)) = false, (decide (m > 20)) = false, (decide (m < 1)) = false]) (by kernel_rfl) ⟨rRe_l, rRe_k18, rRe_k13, rRe_k9, rRe_k6, trivial⟩ (by kernel_rfl)
theorem rReK (t m : Int) (rRe_z0 : Int) (rRe_z1 : Int) (rRe_j : Nat → Value) (h1 : 0 ≤ t ∧ t ≤ 63000) (h2 : 1 ≤ m ∧ m ≤ 20) (rRe_k6 : (decide (m < 1)) = false) (rRe_k9 : (decide (m > 20)) = false) (rRe_k13 : (decide (t < 0)) = false) (rRe_k18 : (decide (t > 63000)) = false) (rRe_l : LoopRes Try.prog ([] : Vars).length tabD (rRe_hd t m).ro (rRe_hd t m).a (rRe_hd t m).s (rRe_X 0) (rRe_E 0 t m rRe_z0 rRe_z1 rRe_j)) : Known Try.prog [] 25 [.int .i64 t, .int .i64 m] (.tuple #[(.int .i64 (rReK_c0 t m rRe_z0 rRe_z1 rRe_j)), (.int .i64 (0))]) := by
  have e0 : rReK_c0 t m rRe_z0 rRe_z1 rRe_j = (rRe_z0) := rfl; rw [e0]; exact rReK_p0 t m rRe_z0 rRe_z1 rRe_j h1 h2 rRe_k6 rRe_k9 rRe_k13 rRe_k18 rRe_l

theorem rReE_p0 (t m : Int) (h1 : ¬ (0 ≤ t ∧ t ≤ 63000 ∧ 1 ≤ m ∧ m ≤ 20)) (hq0 : (decide (m < 1)) = true) : Known Try.prog [] 25 [.int .i64 t, .int .i64 m] (.tuple #[(.int .i64 (0)), (.int .i64 (2))]) :=
  open_res mix tabD_ok (T := tabD) (fuel := 3000) (ans := [(6, .b 1)]) (log := [(decide (m < 1)) = true]) (by kernel_rfl) ⟨hq0, trivial⟩ (by kernel_rfl)
theorem rReE_p1 (t m : Int) (h1 : ¬ (0 ≤ t ∧ t ≤ 63000 ∧ 1 ≤ m ∧ m ≤ 20)) (hq0 : (decide (m < 1)) = false) (hq1 : (decide (m > 20)) = true) : Known Try.prog [] 25 [.int .i64 t, .int .i64 m] (.tuple #[(.int .i64 (0)), (.int .i64 (2))]) :=
  open_res mix tabD_ok (T := tabD) (fuel := 3000) (ans := [(6, .b 0), (9, .b 1)]) (log := [(decide (m > 20)) = true, (decide (m < 1)) = false]) (by kernel_rfl) ⟨hq1, hq0, trivial⟩ (by kernel_rfl)
theorem rReE_p2 (t m : Int) (h1 : ¬ (0 ≤ t ∧ t ≤ 63000 ∧ 1 ≤ m ∧ m ≤ 20)) (hq0 : (decide (m < 1)) = false) (hq1 : (decide (m > 20)) = false) (hq2 : (decide (t < 0)) = true) : Known Try.prog [] 25 [.int .i64 t, .int .i64 m] (.tuple #[(.int .i64 (0)), (.int .i64 (2))]) :=
  open_res mix tabD_ok (T := tabD) (fuel := 3000) (ans := [(6, .b 0), (9, .b 0), (13, .b 1)]) (log := [(decide (t < 0)) = true, (decide (m > 20)) = false, (decide (m < 1)) = false]) (by kernel_rfl) ⟨hq2, hq1, hq0, trivial⟩ (by kernel_rfl)
theorem rReE_p3 (t m : Int) (h1 : ¬ (0 ≤ t ∧ t ≤ 63000 ∧ 1 ≤ m ∧ m ≤ 20)) (hq0 : (decide (m < 1)) = false) (hq1 : (decide (m > 20)) = false) (hq2 : (decide (t < 0)) = false) (hq3 : (decide (t > 63000)) = true) : Known Try.prog [] 25 [.int .i64 t, .int .i64 m] (.tuple #[(.int .i64 (0)), (.int .i64 (2))]) :=
  open_res mix tabD_ok (T := tabD) (fuel := 3000) (ans := [(6, .b 0), (9, .b 0), (13, .b 0), (18, .b 1)]) (log := [(decide (t > 63000)) = true, (decide (t < 0)) = false, (decide (m > 20)) = false, (decide (m < 1)) = false]) (by kernel_rfl) ⟨hq3, hq2, hq1, hq0, trivial⟩ (by kernel_rfl)
theorem rReE (t m : Int) (h1 : ¬ (0 ≤ t ∧ t ≤ 63000 ∧ 1 ≤ m ∧ m ≤ 20)) : Known Try.prog [] 25 [.int .i64 t, .int .i64 m] (.tuple #[(.int .i64 (0)), (.int .i64 (2))]) := by
  rcases Bool.eq_false_or_eq_true (decide (m < 1)) with hq0 | hq0
  ·
    exact rReE_p0 t m h1 hq0
  ·
    rcases Bool.eq_false_or_eq_true (decide (m > 20)) with hq1 | hq1
    ·
      exact rReE_p1 t m h1 hq0 hq1
    ·
      rcases Bool.eq_false_or_eq_true (decide (t < 0)) with hq2 | hq2
      ·
        exact rReE_p2 t m h1 hq0 hq1 hq2
      ·
        have hq3 : (decide (t > 63000)) = true := by
          rcases Bool.eq_false_or_eq_true (decide (t > 63000)) with h | h
          · first | exact h | (exfalso; (simp only [decide_eq_true_eq, decide_eq_false_iff_not, beq_iff_eq, beq_eq_false_iff_ne, bne_iff_ne, bne_eq_false_iff_eq, ne_eq, eq_self, Bool.not_eq_true', Bool.not_eq_false', Bool.and_eq_true, Bool.or_eq_true, Bool.and_eq_false_iff, Bool.or_eq_false_iff, not_true_eq_false, not_false_eq_true, IntKind.wrap_i64, wrapU64, tdivP, tmodP, fdivP, Int.reduceLT, Int.not_lt, Int.not_le, gt_iff_lt, ge_iff_le] at * <;> first | contradiction | omega))
          · first | exact h | (exfalso; (simp only [decide_eq_true_eq, decide_eq_false_iff_not, beq_iff_eq, beq_eq_false_iff_ne, bne_iff_ne, bne_eq_false_iff_eq, ne_eq, eq_self, Bool.not_eq_true', Bool.not_eq_false', Bool.and_eq_true, Bool.or_eq_true, Bool.and_eq_false_iff, Bool.or_eq_false_iff, not_true_eq_false, not_false_eq_true, IntKind.wrap_i64, wrapU64, tdivP, tmodP, fdivP, Int.reduceLT, Int.not_lt, Int.not_le, gt_iff_lt, ge_iff_le] at * <;> first | contradiction | omega))
        exact rReE_p3 t m h1 hq0 hq1 hq2 hq3

noncomputable def mod_c0 (n m : Int) : Int := (bif (decide (m < 1)) then (0) else (bif (decide (n.tmod m < 0)) then (IntKind.i64.wrap (n.tmod m + m)) else (n.tmod m)))
theorem mod_p0 (n m : Int)  (hq0 : (decide (m < 1)) = true) : Known Try.prog [] 29 [.int .i64 n, .int .i64 m] (.int .i64 (0)) :=
  open_res mix GOk.none (T := GTab.none) (fuel := 3000) (ans := [(0, .b 1)]) (log := [(decide (m < 1)) = true]) (by kernel_rfl) ⟨hq0, trivial⟩ (by kernel_rfl)
theorem mod_p1 (n m : Int)  (hq0 : (decide (m < 1)) = false) (hq1 : (m == 0) = false) (hq2 : (decide (n.tmod m < 0)) = true) : Known Try.prog [] 29 [.int .i64 n, .int .i64 m] (.int .i64 (IntKind.i64.wrap (n.tmod m + m))) :=
  open_res mix GOk.none (T := GTab.none) (fuel := 3000) (ans := [(0, .b 0), (1, .b 0), (2, .b 1)]) (log := [(decide (n.tmod m < 0)) = true, (m == 0) = false, (decide (m < 1)) = false]) (by kernel_rfl) ⟨hq2, hq1, hq0, trivial⟩ (by kernel_rfl)
theorem mod_p2 (n m : Int)  (hq0 : (decide (m < 1)) = false) (hq1 : (m == 0) = false) (hq2 : (decide (n.tmod m < 0)) = false) : Known Try.prog [] 29 [.int .i64 n, .int .i64 m] (.int .i64 (n.tmod m)) :=
  open_res mix GOk.none (T := GTab.none) (fuel := 3000) (ans := [(0, .b 0), (1, .b 0), (2, .b 0)]) (log := [(decide (n.tmod m < 0)) = false, (m == 0) = false, (decide (m < 1)) = false]) (by kernel_rfl) ⟨hq2, hq1, hq0, trivial⟩ (by kernel_rfl)
theorem mod (n m : Int)  : Known Try.prog [] 29 [.int .i64 n, .int .i64 m] (.int .i64 (mod_c0 n m)) := by
  rcases Bool.eq_false_or_eq_true (decide (m < 1)) with hq0 | hq0
  ·
    have e0 : mod_c0 n m = (0) := ((bif_t hq0 _ _).trans rfl); rw [e0]; exact mod_p0 n m hq0
  ·
    have hq1 : (m == 0) = false := by
      rcases Bool.eq_false_or_eq_true (m == 0) with h | h
      · first | exact h | (exfalso; (simp only [decide_eq_true_eq, decide_eq_false_iff_not, beq_iff_eq, beq_eq_false_iff_ne, bne_iff_ne, bne_eq_false_iff_eq, ne_eq, eq_self, Bool.not_eq_true', Bool.not_eq_false', Bool.and_eq_true, Bool.or_eq_true, Bool.and_eq_false_iff, Bool.or_eq_false_iff, not_true_eq_false, not_false_eq_true, IntKind.wrap_i64, wrapU64, tdivP, tmodP, fdivP, Int.reduceLT, Int.not_lt, Int.not_le, gt_iff_lt, ge_iff_le] at * <;> first | contradiction | omega))
      · first | exact h | (exfalso; (simp only [decide_eq_true_eq, decide_eq_false_iff_not, beq_iff_eq, beq_eq_false_iff_ne, bne_iff_ne, bne_eq_false_iff_eq, ne_eq, eq_self, Bool.not_eq_true', Bool.not_eq_false', Bool.and_eq_true, Bool.or_eq_true, Bool.and_eq_false_iff, Bool.or_eq_false_iff, not_true_eq_false, not_false_eq_true, IntKind.wrap_i64, wrapU64, tdivP, tmodP, fdivP, Int.reduceLT, Int.not_lt, Int.not_le, gt_iff_lt, ge_iff_le] at * <;> first | contradiction | omega))
    rcases Bool.eq_false_or_eq_true (decide (n.tmod m < 0)) with hq2 | hq2
    ·
      have e0 : mod_c0 n m = (IntKind.i64.wrap (n.tmod m + m)) := ((bif_f hq0 _ _).trans ((bif_t hq2 _ _).trans rfl)); rw [e0]; exact mod_p1 n m hq0 hq1 hq2
    ·
      have e0 : mod_c0 n m = (n.tmod m) := ((bif_f hq0 _ _).trans ((bif_f hq2 _ _).trans rfl)); rw [e0]; exact mod_p2 n m hq0 hq1 hq2
noncomputable def mod_k : List Value → Option Value
  | [.int .i64 n, .int .i64 m] => some (.int .i64 (mod_c0 n m))
  | _ => none
theorem mod_ok : ∀ args v, mod_k args = some v → Known Try.prog [] 29 args v := by
  intro args v h
  unfold mod_k at h
  split at h
  · injection h with h; subst h; exact mod _ _
  · cases h

end Go.Proofs.Ytjemhamkakgnhaa
