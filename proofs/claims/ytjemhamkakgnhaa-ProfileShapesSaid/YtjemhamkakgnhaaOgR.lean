/- Layer 8: ProfileRides. -/
import Derived.Test.YtjemhamkakgnhaaRQ
import Derived.Test.YtjemhamkakgnhaaKnProfileKnown
import Derived.ProofKit
import Derived.IntWalk
namespace Go.Proofs.Ytjemhamkakgnhaa
open Go Go.RowKit
set_option linter.unusedVariables false
set_option linter.unusedSimpArgs false
set_option linter.unnecessarySimpa false
set_option maxHeartbeats 8000000
set_option maxRecDepth 100000
theorem qTp (n m : Int) : Known Try.prog [] 15 [.int .i64 n, .int .i64 m] (.tuple #[.int .i64 (pTr_c0 n m), .int .i64 (pTr_c1 n m)]) := pTr n m
noncomputable def qTp_k : List Value → Option Value
  | [.int .i64 n, .int .i64 m] => some (.tuple #[.int .i64 (pTr_c0 n m), .int .i64 (pTr_c1 n m)])
  | _ => none
theorem qTp_ok : ∀ args v, qTp_k args = some v → Known Try.prog [] 15 args v := by
  intro args v h
  unfold qTp_k at h
  split at h
  · injection h with h; subst h; exact qTp _ _
  · cases h
theorem qTq (n m : Int) : Known Try.prog [] 16 [.int .i64 n, .int .i64 m] (.tuple #[.int .i64 (pTr_c0 n m), .int .i64 (pTr_c1 n m)]) := rTr n m
noncomputable def qTq_k : List Value → Option Value
  | [.int .i64 n, .int .i64 m] => some (.tuple #[.int .i64 (pTr_c0 n m), .int .i64 (pTr_c1 n m)])
  | _ => none
theorem qTq_ok : ∀ args v, qTq_k args = some v → Known Try.prog [] 16 args v := by
  intro args v h
  unfold qTq_k at h
  split at h
  · injection h with h; subst h; exact qTq _ _
  · cases h
theorem qPp (n m : Int) : Known Try.prog [] 17 [.int .i64 n, .int .i64 m] (.tuple #[.int .i64 (ppV n m), .int .i64 (peV n m)]) := peak_p n m
noncomputable def qPp_k : List Value → Option Value
  | [.int .i64 n, .int .i64 m] => some (.tuple #[.int .i64 (ppV n m), .int .i64 (peV n m)])
  | _ => none
theorem qPp_ok : ∀ args v, qPp_k args = some v → Known Try.prog [] 17 args v := by
  intro args v h
  unfold qPp_k at h
  split at h
  · injection h with h; subst h; exact qPp _ _
  · cases h
theorem qPq (n m : Int) : Known Try.prog [] 18 [.int .i64 n, .int .i64 m] (.tuple #[.int .i64 (ppV n m), .int .i64 (peV n m)]) := peak_r n m
noncomputable def qPq_k : List Value → Option Value
  | [.int .i64 n, .int .i64 m] => some (.tuple #[.int .i64 (ppV n m), .int .i64 (peV n m)])
  | _ => none
theorem qPq_ok : ∀ args v, qPq_k args = some v → Known Try.prog [] 18 args v := by
  intro args v h
  unfold qPq_k at h
  split at h
  · injection h with h; subst h; exact qPq _ _
  · cases h
theorem qGp (n m t : Int) (hg : (decide (t ≤ 9223372036854775807)) = true) : Known Try.prog [] 21 [.int .i64 n, .int .i64 m, .int .i64 t] (.tuple #[.int .i64 (gnN n m t), .int .i64 (gnS n m t), .int .i64 (gnE n m t)]) := gone_p n m t (of_decide_eq_true hg)
noncomputable def qGp_k : List Value → Option (Bool × Value)
  | [.int .i64 n, .int .i64 m, .int .i64 t] => some (decide (t ≤ 9223372036854775807), .tuple #[.int .i64 (gnN n m t), .int .i64 (gnS n m t), .int .i64 (gnE n m t)])
  | _ => none
theorem qGp_ok : ∀ args v, qGp_k args = some (true, v) → Known Try.prog [] 21 args v := by
  intro args v h
  unfold qGp_k at h
  split at h
  · injection h with h; injection h with hg h; subst h; exact qGp _ _ _ hg
  · cases h
theorem qGq (n m t : Int) (hg : (decide (t ≤ 9223372036854775807)) = true) : Known Try.prog [] 22 [.int .i64 n, .int .i64 m, .int .i64 t] (.tuple #[.int .i64 (gnN n m t), .int .i64 (gnS n m t), .int .i64 (gnE n m t)]) := gone_r n m t (of_decide_eq_true hg)
noncomputable def qGq_k : List Value → Option (Bool × Value)
  | [.int .i64 n, .int .i64 m, .int .i64 t] => some (decide (t ≤ 9223372036854775807), .tuple #[.int .i64 (gnN n m t), .int .i64 (gnS n m t), .int .i64 (gnE n m t)])
  | _ => none
theorem qGq_ok : ∀ args v, qGq_k args = some (true, v) → Known Try.prog [] 22 args v := by
  intro args v h
  unfold qGq_k at h
  split at h
  · injection h with h; injection h with hg h; subst h; exact qGq _ _ _ hg
  · cases h
theorem spD (n m : Int) (hh : n = n) : KnownR Try.prog [] 19 [.val (.int .i64 n), .val (.int .i64 m)] (.tuple #[.complex .f64 0 (seL n m).length, .int .i64 (seV n m)]) ([(rowA gI (seL n m), 3)]) := speeds_p n m
noncomputable def spD_A (p : Int × Int × Unit) : List D := match p with
  | (n, m, _) => [.val (.int .i64 n), .val (.int .i64 m)]
noncomputable def spD_C (p : Int × Int × Unit) : Prop := match p with
  | (n, m, _) => (n = n) ∧ True
noncomputable def spD_R (p : Int × Int × Unit) : Value × Outs := match p with
  | (n, m, _) => (.tuple #[.complex .f64 0 (seL n m).length, .int .i64 (seV n m)], [(rowA gI (seL n m), 3)])
theorem spD_inj : ∀ p q, spD_C p → spD_C q → spD_A p = spD_A q → spD_R p = spD_R q := by
  rintro ⟨n, m, _⟩ ⟨n', m', _⟩ _ _ e
  simp only [spD_A, List.cons.injEq, D.list.injEq, D.val.injEq, D.agg.injEq, Value.int.injEq, Value.bool.injEq, Value.string.injEq, Value.agg.injEq, Array.mk.injEq, and_true, true_and, gI_inj, gB_inj] at e
  simp_all
noncomputable def spD_k : List D → Option (Value × Outs) := fnP spD_A spD_C spD_R
theorem spD_n (n m : Int)   (hh : n = n) : KnownR Try.prog [] 19 [.val (.int .i64 n), .val (.int .i64 m)] (.tuple #[.complex .f64 0 (seL n m).length, .int .i64 (seV n m)]) ([(rowA gI (seL n m), 3)]) := by
  skip
  exact spD _ _ hh
theorem spD_ok : ∀ ds v bs, spD_k ds = some (v, bs) → KnownR Try.prog [] 19 ds v bs := fnP_ok (by
  rintro ⟨n, m, _⟩ ⟨hh, _⟩
  exact spD_n _ _  hh)
theorem spD_at (n m : Int)   (hh : n = n) : spD_k [.val (.int .i64 n), .val (.int .i64 m)] = some (.tuple #[.complex .f64 0 (seL n m).length, .int .i64 (seV n m)], [(rowA gI (seL n m), 3)]) := fnP_at (p := (n, m, ())) spD_inj ⟨hh, trivial⟩ rfl rfl
theorem rpD (n m : Int) (hh : n = n) : KnownR Try.prog [] 20 [.val (.int .i64 n), .val (.int .i64 m)] (.tuple #[.complex .f64 0 (seL n m).length, .int .i64 (seV n m)]) ([(rowA gI (seL n m), 3)]) := speeds_r n m
noncomputable def rpD_A (p : Int × Int × Unit) : List D := match p with
  | (n, m, _) => [.val (.int .i64 n), .val (.int .i64 m)]
noncomputable def rpD_C (p : Int × Int × Unit) : Prop := match p with
  | (n, m, _) => (n = n) ∧ True
noncomputable def rpD_R (p : Int × Int × Unit) : Value × Outs := match p with
  | (n, m, _) => (.tuple #[.complex .f64 0 (seL n m).length, .int .i64 (seV n m)], [(rowA gI (seL n m), 3)])
theorem rpD_inj : ∀ p q, rpD_C p → rpD_C q → rpD_A p = rpD_A q → rpD_R p = rpD_R q := by
  rintro ⟨n, m, _⟩ ⟨n', m', _⟩ _ _ e
  simp only [rpD_A, List.cons.injEq, D.list.injEq, D.val.injEq, D.agg.injEq, Value.int.injEq, Value.bool.injEq, Value.string.injEq, Value.agg.injEq, Array.mk.injEq, and_true, true_and, gI_inj, gB_inj] at e
  simp_all
noncomputable def rpD_k : List D → Option (Value × Outs) := fnP rpD_A rpD_C rpD_R
theorem rpD_n (n m : Int)   (hh : n = n) : KnownR Try.prog [] 20 [.val (.int .i64 n), .val (.int .i64 m)] (.tuple #[.complex .f64 0 (seL n m).length, .int .i64 (seV n m)]) ([(rowA gI (seL n m), 3)]) := by
  skip
  exact rpD _ _ hh
theorem rpD_ok : ∀ ds v bs, rpD_k ds = some (v, bs) → KnownR Try.prog [] 20 ds v bs := fnP_ok (by
  rintro ⟨n, m, _⟩ ⟨hh, _⟩
  exact rpD_n _ _  hh)
theorem rpD_at (n m : Int)   (hh : n = n) : rpD_k [.val (.int .i64 n), .val (.int .i64 m)] = some (.tuple #[.complex .f64 0 (seL n m).length, .int .i64 (seV n m)], [(rowA gI (seL n m), 3)]) := fnP_at (p := (n, m, ())) rpD_inj ⟨hh, trivial⟩ rfl rfl
theorem sqD (xs ys : List Int) (hx : xs.length ≤ 20000) (hxy : xs = ys) : KnownR Try.prog [] 23 [.list (rowA gI xs) xs.length, .list (rowA gI ys) ys.length] (.bool true) ([]) := same_q xs ys hx hxy
noncomputable def sqD_A (p : List Int × List Int × Nat × Nat × Unit) : List D := match p with
  | (xs, ys, nn0, nn1, _) => [.list (rowA gI xs) nn0, .list (rowA gI ys) nn1]
noncomputable def sqD_C (p : List Int × List Int × Nat × Nat × Unit) : Prop := match p with
  | (xs, ys, nn0, nn1, _) => (nn0 = xs.length) ∧ (nn1 = ys.length) ∧ (xs.length ≤ 20000) ∧ (xs = ys) ∧ True
noncomputable def sqD_R (p : List Int × List Int × Nat × Nat × Unit) : Value × Outs := match p with
  | (xs, ys, nn0, nn1, _) => (.bool true, [])
theorem sqD_inj : ∀ p q, sqD_C p → sqD_C q → sqD_A p = sqD_A q → sqD_R p = sqD_R q := by
  rintro ⟨xs, ys, nn0, nn1, _⟩ ⟨xs', ys', nn0', nn1', _⟩ _ _ e
  simp only [sqD_A, List.cons.injEq, D.list.injEq, D.val.injEq, D.agg.injEq, Value.int.injEq, Value.bool.injEq, Value.string.injEq, Value.agg.injEq, Array.mk.injEq, and_true, true_and, gI_inj, gB_inj] at e
  simp_all
noncomputable def sqD_k : List D → Option (Value × Outs) := fnP sqD_A sqD_C sqD_R
theorem sqD_n (xs ys : List Int) (nn0 : Nat) (nn1 : Nat) (hn0 : nn0 = xs.length) (hn1 : nn1 = ys.length) (hx : xs.length ≤ 20000) (hxy : xs = ys) : KnownR Try.prog [] 23 [.list (rowA gI xs) nn0, .list (rowA gI ys) nn1] (.bool true) ([]) := by
  subst hn0; subst hn1; skip
  exact sqD _ _ hx hxy
theorem sqD_ok : ∀ ds v bs, sqD_k ds = some (v, bs) → KnownR Try.prog [] 23 ds v bs := fnP_ok (by
  rintro ⟨xs, ys, nn0, nn1, _⟩ ⟨hn0, hn1, hx, hxy, _⟩
  exact sqD_n _ _ _ _ hn0 hn1 hx hxy)
theorem sqD_at (xs ys : List Int) (nn0 : Nat) (nn1 : Nat) (hn0 : nn0 = xs.length) (hn1 : nn1 = ys.length) (hx : xs.length ≤ 20000) (hxy : xs = ys) : sqD_k [.list (rowA gI xs) nn0, .list (rowA gI ys) nn1] = some (.bool true, []) := fnP_at (p := (xs, ys, nn0, nn1, ())) sqD_inj ⟨hn0, hn1, hx, hxy, trivial⟩ rfl rfl
noncomputable def tabR : GTab := (GTab.fnD 19 spD_k (GTab.fnD 20 rpD_k (GTab.fnD 23 sqD_k (GTab.fn1 15 qTp_k (GTab.fn1 16 qTq_k (GTab.fn1 17 qPp_k (GTab.fn1 18 qPq_k (GTab.fn 21 qGp_k (GTab.fn 22 qGq_k (GTab.fn1 14 (fun l => match l with | [] => some (.bool true) | _ => none) GTab.none))))))))))
theorem tabR_ok : GOk Try.prog [] tabR := (GOk.fnD spD_ok (GOk.fnD rpD_ok (GOk.fnD sqD_ok (GOk.fn1 qTp_ok (GOk.fn1 qTq_ok (GOk.fn1 qPp_ok (GOk.fn1 qPq_ok (GOk.fn qGp_ok (GOk.fn qGq_ok (GOk.fn1 (known0 knProfileKnown_e0) GOk.none))))))))))
theorem lawR_p0 (n m t : Int) (ht : t ≤ 9223372036854775807) (hl : (seL n m).length ≤ 1000) (hq0 : (pTr_c0 n m != pTr_c0 n m) = false) (hq1 : (pTr_c1 n m != pTr_c1 n m) = false) (hq2 : (ppV n m != ppV n m) = false) (hq3 : (peV n m != peV n m) = false) (hq4 : (decide (t ≤ (9223372036854775807 : Int))) = true) (hq5 : (seV n m == seV n m) = true) (hq6 : (gnN n m t == gnN n m t) = true) (hq7 : (gnS n m t == gnS n m t) = true) (hq8 : (gnE n m t == gnE n m t) = true) : KnownR Try.prog [] 4 [.val (.int .i64 n), .val (.int .i64 m), .val (.int .i64 t)] (.bool (true)) [] :=
  knownR_eq (v := Value.bool true) (bs := []) (open_resD mix tabR_ok (T := tabR) (fuel := 3000) (es := []) (ans := [(4, .b 0), (8, .b 0), (12, .b 0), (16, .b 0), (17, .outs (Value.tuple #[Value.complex FloatKind.f64 (0 : Nat) (seL n m).length, Value.int IntKind.i64 (seV n m)]) ([(rowA gI (seL n m), (3 : TypeId))])), (18, .outs (Value.tuple #[Value.complex FloatKind.f64 (0 : Nat) (seL n m).length, Value.int IntKind.i64 (seV n m)]) ([(rowA gI (seL n m), (3 : TypeId))])), (19, .b 1), (20, .b 1), (21, .outs (Value.bool true) ([])), (26, .b 1), (30, .b 1), (34, .b 1), (38, .b 1)]) (log := [(gnE n m t == gnE n m t) = true, (gnS n m t == gnS n m t) = true, (gnN n m t == gnN n m t) = true, (seV n m == seV n m) = true, (GTab.lookD (tabR) ((23 : Nat)) ([D.list (rowA gI (seL n m)) (seL n m).length, D.list (rowA gI (seL n m)) (seL n m).length])) = some (Value.bool true, []), (decide (t ≤ (9223372036854775807 : Int))) = true, (decide (t ≤ (9223372036854775807 : Int))) = true, (GTab.lookD (tabR) ((20 : Nat)) ([D.val (Value.int IntKind.i64 n), D.val (Value.int IntKind.i64 m)])) = some (Value.tuple #[Value.complex FloatKind.f64 (0 : Nat) (seL n m).length, Value.int IntKind.i64 (seV n m)], [(rowA gI (seL n m), (3 : TypeId))]), (GTab.lookD (tabR) ((19 : Nat)) ([D.val (Value.int IntKind.i64 n), D.val (Value.int IntKind.i64 m)])) = some (Value.tuple #[Value.complex FloatKind.f64 (0 : Nat) (seL n m).length, Value.int IntKind.i64 (seV n m)], [(rowA gI (seL n m), (3 : TypeId))]), (peV n m != peV n m) = false, (ppV n m != ppV n m) = false, (pTr_c1 n m != pTr_c1 n m) = false, (pTr_c0 n m != pTr_c0 n m) = false]) (by kernel_rfl) ⟨hq8, hq7, hq6, hq5, (sqD_at (seL n m) (seL n m) ((seL n m).length) ((seL n m).length) (by first | rfl | assumption | omega | (simp; done) | (simp_all; done) | (simp_all; omega)) (by first | rfl | assumption | omega | (simp; done) | (simp_all; done) | (simp_all; omega)) (by first | rfl | assumption | omega | (simp; done) | (simp_all; done) | (simp_all; omega)) (by first | rfl | assumption | omega | (simp; done) | (simp_all; done) | (simp_all; omega))), hq4, hq4, (rpD_at (n) (m) (by first | rfl | assumption | omega | (simp; done) | (simp_all; done) | (simp_all; omega))), (spD_at (n) (m) (by first | rfl | assumption | omega | (simp; done) | (simp_all; done) | (simp_all; omega))), hq3, hq2, hq1, hq0, trivial⟩ (by kernel_rfl)) (by first | rfl | (simp; done) | (simp_all; done)) (by first | rfl | (simp [rowA_nil]; done) | (simp_all [rowA_nil]; done))
set_option maxHeartbeats 8000000 in
theorem lawR (n m t : Int) (ht : t ≤ 9223372036854775807) (hl : (seL n m).length ≤ 1000) : KnownR Try.prog [] 4 [.val (.int .i64 n), .val (.int .i64 m), .val (.int .i64 t)] (.bool (true)) [] := by
  have hq0 : (pTr_c0 n m != pTr_c0 n m) = false := by
    rcases Bool.eq_false_or_eq_true (pTr_c0 n m != pTr_c0 n m) with h | h
    · exfalso; (first | (simp_all only [Bool.and_eq_true, Bool.not_eq_true', Bool.false_eq_true, Bool.true_eq_false, reduceCtorEq]; done) | (simp only [sx, sy, eq_self, ne_eq, IntKind.wrap_i64, wrapU64, Int.reduceLT] at * <;> first | contradiction | omega) | (simp_all; done))
    · exact h
  have hq1 : (pTr_c1 n m != pTr_c1 n m) = false := by
    rcases Bool.eq_false_or_eq_true (pTr_c1 n m != pTr_c1 n m) with h | h
    · exfalso; (first | (simp_all only [Bool.and_eq_true, Bool.not_eq_true', Bool.false_eq_true, Bool.true_eq_false, reduceCtorEq]; done) | (simp only [sx, sy, eq_self, ne_eq, IntKind.wrap_i64, wrapU64, Int.reduceLT] at * <;> first | contradiction | omega) | (simp_all; done))
    · exact h
  have hq2 : (ppV n m != ppV n m) = false := by
    rcases Bool.eq_false_or_eq_true (ppV n m != ppV n m) with h | h
    · exfalso; (first | (simp_all only [Bool.and_eq_true, Bool.not_eq_true', Bool.false_eq_true, Bool.true_eq_false, reduceCtorEq]; done) | (simp only [sx, sy, eq_self, ne_eq, IntKind.wrap_i64, wrapU64, Int.reduceLT] at * <;> first | contradiction | omega) | (simp_all; done))
    · exact h
  have hq3 : (peV n m != peV n m) = false := by
    rcases Bool.eq_false_or_eq_true (peV n m != peV n m) with h | h
    · exfalso; (first | (simp_all only [Bool.and_eq_true, Bool.not_eq_true', Bool.false_eq_true, Bool.true_eq_false, reduceCtorEq]; done) | (simp only [sx, sy, eq_self, ne_eq, IntKind.wrap_i64, wrapU64, Int.reduceLT] at * <;> first | contradiction | omega) | (simp_all; done))
    · exact h
  have hq4 : (decide (t ≤ (9223372036854775807 : Int))) = true := by
    rcases Bool.eq_false_or_eq_true (decide (t ≤ (9223372036854775807 : Int))) with h | h
    · exact h
    · exfalso; (first | (simp_all only [Bool.and_eq_true, Bool.not_eq_true', Bool.false_eq_true, Bool.true_eq_false, reduceCtorEq]; done) | (simp only [sx, sy, eq_self, ne_eq, IntKind.wrap_i64, wrapU64, Int.reduceLT] at * <;> first | contradiction | omega) | (simp_all; done))
  have hq5 : (seV n m == seV n m) = true := by
    rcases Bool.eq_false_or_eq_true (seV n m == seV n m) with h | h
    · exact h
    · exfalso; (first | (simp_all only [Bool.and_eq_true, Bool.not_eq_true', Bool.false_eq_true, Bool.true_eq_false, reduceCtorEq]; done) | (simp only [sx, sy, eq_self, ne_eq, IntKind.wrap_i64, wrapU64, Int.reduceLT] at * <;> first | contradiction | omega) | (simp_all; done))
  have hq6 : (gnN n m t == gnN n m t) = true := by
    rcases Bool.eq_false_or_eq_true (gnN n m t == gnN n m t) with h | h
    · exact h
    · exfalso; (first | (simp_all only [Bool.and_eq_true, Bool.not_eq_true', Bool.false_eq_true, Bool.true_eq_false, reduceCtorEq]; done) | (simp only [sx, sy, eq_self, ne_eq, IntKind.wrap_i64, wrapU64, Int.reduceLT] at * <;> first | contradiction | omega) | (simp_all; done))
  have hq7 : (gnS n m t == gnS n m t) = true := by
    rcases Bool.eq_false_or_eq_true (gnS n m t == gnS n m t) with h | h
    · exact h
    · exfalso; (first | (simp_all only [Bool.and_eq_true, Bool.not_eq_true', Bool.false_eq_true, Bool.true_eq_false, reduceCtorEq]; done) | (simp only [sx, sy, eq_self, ne_eq, IntKind.wrap_i64, wrapU64, Int.reduceLT] at * <;> first | contradiction | omega) | (simp_all; done))
  have hq8 : (gnE n m t == gnE n m t) = true := by
    rcases Bool.eq_false_or_eq_true (gnE n m t == gnE n m t) with h | h
    · exact h
    · exfalso; (first | (simp_all only [Bool.and_eq_true, Bool.not_eq_true', Bool.false_eq_true, Bool.true_eq_false, reduceCtorEq]; done) | (simp only [sx, sy, eq_self, ne_eq, IntKind.wrap_i64, wrapU64, Int.reduceLT] at * <;> first | contradiction | omega) | (simp_all; done))
  exact lawR_p0 n m t ht hl hq0 hq1 hq2 hq3 hq4 hq5 hq6 hq7 hq8

end Go.Proofs.Ytjemhamkakgnhaa
