/- Layer 12: SensorFaults. -/
import Derived.Test.YthjdoeeefighkaaLN
namespace Go.Proofs.Ythjdoeeefighkaa
open Go Go.RowKit
set_option linter.unusedVariables false
set_option linter.unusedSimpArgs false
set_option linter.unnecessarySimpa false
theorem wkD (xs : List En) (c : Int) (hx : xs.length ≤ 200) : KnownR Try.prog [] 23 [.list (rowA gE xs) xs.length, .val (.int .i64 c)] (.tuple #[.bool (wL xs c), .int .i64 (eC c)]) ([]) := works_p xs c hx
noncomputable def wkD_A (p : List En × Int × Nat × Unit) : List D := match p with
  | (xs, c, nn0, _) => [.list (rowA gE xs) nn0, .val (.int .i64 c)]
noncomputable def wkD_C (p : List En × Int × Nat × Unit) : Prop := match p with
  | (xs, c, nn0, _) => (nn0 = xs.length) ∧ (xs.length ≤ 200) ∧ True
noncomputable def wkD_R (p : List En × Int × Nat × Unit) : Value × Outs := match p with
  | (xs, c, nn0, _) => (.tuple #[.bool (wL xs c), .int .i64 (eC c)], [])
theorem wkD_inj : ∀ p q, wkD_C p → wkD_C q → wkD_A p = wkD_A q → wkD_R p = wkD_R q := by
  rintro ⟨xs, c, nn0, _⟩ ⟨xs', c', nn0', _⟩ _ _ e
  simp only [wkD_A, List.cons.injEq, D.list.injEq, D.val.injEq, D.agg.injEq, Value.int.injEq, Value.bool.injEq, Value.string.injEq, Value.agg.injEq, Array.mk.injEq, and_true, true_and, gI_inj, gB_inj, gE_inj] at e
  simp_all
noncomputable def wkD_k : List D → Option (Value × Outs) := fnP wkD_A wkD_C wkD_R
theorem wkD_n (xs : List En) (c : Int) (nn0 : Nat) (hn0 : nn0 = xs.length) (hx : xs.length ≤ 200) : KnownR Try.prog [] 23 [.list (rowA gE xs) nn0, .val (.int .i64 c)] (.tuple #[.bool (wL xs c), .int .i64 (eC c)]) ([]) := by
  subst hn0; skip
  exact wkD _ _ hx
theorem wkD_ok : ∀ ds v bs, wkD_k ds = some (v, bs) → KnownR Try.prog [] 23 ds v bs := fnP_ok (by
  rintro ⟨xs, c, nn0, _⟩ ⟨hn0, hx, _⟩
  exact wkD_n _ _ _ hn0 hx)
theorem wkD_at (xs : List En) (c : Int) (nn0 : Nat) (hn0 : nn0 = xs.length) (hx : xs.length ≤ 200) : wkD_k [.list (rowA gE xs) nn0, .val (.int .i64 c)] = some (.tuple #[.bool (wL xs c), .int .i64 (eC c)], []) := fnP_at (p := (xs, c, nn0, ())) wkD_inj ⟨hn0, hx, trivial⟩ rfl rfl
theorem rwD (xs : List En) (c : Int) (hx : xs.length ≤ 200) : KnownR Try.prog [] 24 [.list (rowA gE xs) xs.length, .val (.int .i64 c)] (.tuple #[.bool (wL xs c), .int .i64 (eC c)]) ([]) := works_r xs c hx
noncomputable def rwD_A (p : List En × Int × Nat × Unit) : List D := match p with
  | (xs, c, nn0, _) => [.list (rowA gE xs) nn0, .val (.int .i64 c)]
noncomputable def rwD_C (p : List En × Int × Nat × Unit) : Prop := match p with
  | (xs, c, nn0, _) => (nn0 = xs.length) ∧ (xs.length ≤ 200) ∧ True
noncomputable def rwD_R (p : List En × Int × Nat × Unit) : Value × Outs := match p with
  | (xs, c, nn0, _) => (.tuple #[.bool (wL xs c), .int .i64 (eC c)], [])
theorem rwD_inj : ∀ p q, rwD_C p → rwD_C q → rwD_A p = rwD_A q → rwD_R p = rwD_R q := by
  rintro ⟨xs, c, nn0, _⟩ ⟨xs', c', nn0', _⟩ _ _ e
  simp only [rwD_A, List.cons.injEq, D.list.injEq, D.val.injEq, D.agg.injEq, Value.int.injEq, Value.bool.injEq, Value.string.injEq, Value.agg.injEq, Array.mk.injEq, and_true, true_and, gI_inj, gB_inj, gE_inj] at e
  simp_all
noncomputable def rwD_k : List D → Option (Value × Outs) := fnP rwD_A rwD_C rwD_R
theorem rwD_n (xs : List En) (c : Int) (nn0 : Nat) (hn0 : nn0 = xs.length) (hx : xs.length ≤ 200) : KnownR Try.prog [] 24 [.list (rowA gE xs) nn0, .val (.int .i64 c)] (.tuple #[.bool (wL xs c), .int .i64 (eC c)]) ([]) := by
  subst hn0; skip
  exact rwD _ _ hx
theorem rwD_ok : ∀ ds v bs, rwD_k ds = some (v, bs) → KnownR Try.prog [] 24 ds v bs := fnP_ok (by
  rintro ⟨xs, c, nn0, _⟩ ⟨hn0, hx, _⟩
  exact rwD_n _ _ _ hn0 hx)
theorem rwD_at (xs : List En) (c : Int) (nn0 : Nat) (hn0 : nn0 = xs.length) (hx : xs.length ≤ 200) : rwD_k [.list (rowA gE xs) nn0, .val (.int .i64 c)] = some (.tuple #[.bool (wL xs c), .int .i64 (eC c)], []) := fnP_at (p := (xs, c, nn0, ())) rwD_inj ⟨hn0, hx, trivial⟩ rfl rfl
theorem seD (xs : List En) (hx : xs.length ≤ 20000) : KnownR Try.prog [] 25 [.list (rowA gE xs) xs.length, .list (rowA gE xs) xs.length] (.bool true) ([]) := same_e xs hx
noncomputable def seD_A (p : List En × Nat × Nat × Unit) : List D := match p with
  | (xs, nn0, nn1, _) => [.list (rowA gE xs) nn0, .list (rowA gE xs) nn1]
noncomputable def seD_C (p : List En × Nat × Nat × Unit) : Prop := match p with
  | (xs, nn0, nn1, _) => (nn0 = xs.length) ∧ (nn1 = xs.length) ∧ (xs.length ≤ 20000) ∧ True
noncomputable def seD_R (p : List En × Nat × Nat × Unit) : Value × Outs := match p with
  | (xs, nn0, nn1, _) => (.bool true, [])
theorem seD_inj : ∀ p q, seD_C p → seD_C q → seD_A p = seD_A q → seD_R p = seD_R q := by
  rintro ⟨xs, nn0, nn1, _⟩ ⟨xs', nn0', nn1', _⟩ _ _ e
  simp only [seD_A, List.cons.injEq, D.list.injEq, D.val.injEq, D.agg.injEq, Value.int.injEq, Value.bool.injEq, Value.string.injEq, Value.agg.injEq, Array.mk.injEq, and_true, true_and, gI_inj, gB_inj, gE_inj] at e
  simp_all
noncomputable def seD_k : List D → Option (Value × Outs) := fnP seD_A seD_C seD_R
theorem seD_n (xs : List En) (nn0 : Nat) (nn1 : Nat) (hn0 : nn0 = xs.length) (hn1 : nn1 = xs.length) (hx : xs.length ≤ 20000) : KnownR Try.prog [] 25 [.list (rowA gE xs) nn0, .list (rowA gE xs) nn1] (.bool true) ([]) := by
  subst hn0; subst hn1; skip
  exact seD _ hx
theorem seD_ok : ∀ ds v bs, seD_k ds = some (v, bs) → KnownR Try.prog [] 25 ds v bs := fnP_ok (by
  rintro ⟨xs, nn0, nn1, _⟩ ⟨hn0, hn1, hx, _⟩
  exact seD_n _ _ _ hn0 hn1 hx)
theorem seD_at (xs : List En) (nn0 : Nat) (nn1 : Nat) (hn0 : nn0 = xs.length) (hn1 : nn1 = xs.length) (hx : xs.length ≤ 20000) : seD_k [.list (rowA gE xs) nn0, .list (rowA gE xs) nn1] = some (.bool true, []) := fnP_at (p := (xs, nn0, nn1, ())) seD_inj ⟨hn0, hn1, hx, trivial⟩ rfl rfl
theorem siD (xs : List Int) (hx : xs.length ≤ 20000) : KnownR Try.prog [] 16 [.list (rowA gI xs) xs.length, .list (rowA gI xs) xs.length] (.bool true) ([]) := same_i xs hx
noncomputable def siD_A (p : List Int × Nat × Nat × Unit) : List D := match p with
  | (xs, nn0, nn1, _) => [.list (rowA gI xs) nn0, .list (rowA gI xs) nn1]
noncomputable def siD_C (p : List Int × Nat × Nat × Unit) : Prop := match p with
  | (xs, nn0, nn1, _) => (nn0 = xs.length) ∧ (nn1 = xs.length) ∧ (xs.length ≤ 20000) ∧ True
noncomputable def siD_R (p : List Int × Nat × Nat × Unit) : Value × Outs := match p with
  | (xs, nn0, nn1, _) => (.bool true, [])
theorem siD_inj : ∀ p q, siD_C p → siD_C q → siD_A p = siD_A q → siD_R p = siD_R q := by
  rintro ⟨xs, nn0, nn1, _⟩ ⟨xs', nn0', nn1', _⟩ _ _ e
  simp only [siD_A, List.cons.injEq, D.list.injEq, D.val.injEq, D.agg.injEq, Value.int.injEq, Value.bool.injEq, Value.string.injEq, Value.agg.injEq, Array.mk.injEq, and_true, true_and, gI_inj, gB_inj, gE_inj] at e
  simp_all
noncomputable def siD_k : List D → Option (Value × Outs) := fnP siD_A siD_C siD_R
theorem siD_n (xs : List Int) (nn0 : Nat) (nn1 : Nat) (hn0 : nn0 = xs.length) (hn1 : nn1 = xs.length) (hx : xs.length ≤ 20000) : KnownR Try.prog [] 16 [.list (rowA gI xs) nn0, .list (rowA gI xs) nn1] (.bool true) ([]) := by
  subst hn0; subst hn1; skip
  exact siD _ hx
theorem siD_ok : ∀ ds v bs, siD_k ds = some (v, bs) → KnownR Try.prog [] 16 ds v bs := fnP_ok (by
  rintro ⟨xs, nn0, nn1, _⟩ ⟨hn0, hn1, hx, _⟩
  exact siD_n _ _ _ hn0 hn1 hx)
theorem siD_at (xs : List Int) (nn0 : Nat) (nn1 : Nat) (hn0 : nn0 = xs.length) (hn1 : nn1 = xs.length) (hx : xs.length ≤ 20000) : siD_k [.list (rowA gI xs) nn0, .list (rowA gI xs) nn1] = some (.bool true, []) := fnP_at (p := (xs, nn0, nn1, ())) siD_inj ⟨hn0, hn1, hx, trivial⟩ rfl rfl
noncomputable def tabL : GTab := (GTab.fnD 21 flD_k (GTab.fnD 22 rfD_k (GTab.fnD 23 wkD_k (GTab.fnD 24 rwD_k (GTab.fnD 25 seD_k (GTab.fnD 16 siD_k (GTab.fn1 10 (fun l => match l with | [] => some (.bool true) | _ => none) GTab.none)))))))
theorem tabL_ok : GOk Try.prog [] tabL := (GOk.fnD flD_ok (GOk.fnD rfD_ok (GOk.fnD wkD_ok (GOk.fnD rwD_ok (GOk.fnD seD_ok (GOk.fnD siD_ok (GOk.fn1 (known0 knSensorKnown_e0) GOk.none)))))))
theorem lawF_p0 (xs : List En) (c : Int)  (hq0 : (decide ((↑xs.length : Int) > (200 : Int))) = true) : KnownR Try.prog [] 5 [.list (rowA gE xs) xs.length, .val (.int .i64 c)] (.bool (true)) [] :=
  knownR_eq (v := Value.bool true) (bs := []) (open_resD mix tabL_ok (T := tabL) (fuel := 3000) (es := []) (ans := [(0, .b 1)]) (log := [(decide ((↑xs.length : Int) > (200 : Int))) = true]) (by kernel_rfl) ⟨hq0, trivial⟩ (by kernel_rfl)) (by first | rfl | simp) (by first | rfl | simp [rowA_nil])
theorem lawF_p1 (xs : List En) (c : Int)  (hq0 : (decide ((↑xs.length : Int) > (200 : Int))) = false) (hq1 : (decide (xs.length * (64 : Nat) < (1000000000 : Nat))) = true) (hq2 : (eC c == eC c) = true) (hq3 : (wL xs c == wL xs c) = true) : KnownR Try.prog [] 5 [.list (rowA gE xs) xs.length, .val (.int .i64 c)] (.bool (true)) [] :=
  knownR_eq (v := Value.bool true) (bs := []) (open_resD mix tabL_ok (T := tabL) (fuel := 3000) (es := []) (ans := [(0, .b 0), (1, .vals (List.flatMap (gE) (xs))), (2, .b 1), (3, .arr (rowA (gE) (xs))), (4, .outs (Value.tuple #[Value.complex FloatKind.f64 (0 : Nat) (fL xs c).length, Value.int IntKind.i64 (eC c)]) ([(rowA gI (fL xs c), (3 : TypeId))])), (5, .outs (Value.tuple #[Value.complex FloatKind.f64 (0 : Nat) (fL xs c).length, Value.int IntKind.i64 (eC c)]) ([(rowA gI (fL xs c), (3 : TypeId))])), (6, .outs (Value.tuple #[Value.bool (wL xs c), Value.int IntKind.i64 (eC c)]) ([])), (7, .outs (Value.tuple #[Value.bool (wL xs c), Value.int IntKind.i64 (eC c)]) ([])), (8, .outs (Value.bool true) ([])), (13, .b 1), (17, .b 1), (21, .b 1), (24, .outs (Value.bool true) ([]))]) (log := [(GTab.lookD (tabL) ((25 : Nat)) ([D.list (rowA gE xs) xs.length, D.list (rowA gE xs) xs.length])) = some (Value.bool true, []), (eC c == eC c) = true, (wL xs c == wL xs c) = true, (eC c == eC c) = true, (GTab.lookD (tabL) ((16 : Nat)) ([D.list (rowA gI (fL xs c)) (fL xs c).length, D.list (rowA gI (fL xs c)) (fL xs c).length])) = some (Value.bool true, []), (GTab.lookD (tabL) ((24 : Nat)) ([D.list (rowA gE xs) xs.length, D.val (Value.int IntKind.i64 c)])) = some (Value.tuple #[Value.bool (wL xs c), Value.int IntKind.i64 (eC c)], []), (GTab.lookD (tabL) ((23 : Nat)) ([D.list (rowA gE xs) xs.length, D.val (Value.int IntKind.i64 c)])) = some (Value.tuple #[Value.bool (wL xs c), Value.int IntKind.i64 (eC c)], []), (GTab.lookD (tabL) ((22 : Nat)) ([D.list (rowA gE xs) xs.length, D.val (Value.int IntKind.i64 c)])) = some (Value.tuple #[Value.complex FloatKind.f64 (0 : Nat) (fL xs c).length, Value.int IntKind.i64 (eC c)], [(rowA gI (fL xs c), (3 : TypeId))]), (GTab.lookD (tabL) ((21 : Nat)) ([D.list (rowA gE xs) xs.length, D.val (Value.int IntKind.i64 c)])) = some (Value.tuple #[Value.complex FloatKind.f64 (0 : Nat) (fL xs c).length, Value.int IntKind.i64 (eC c)], [(rowA gI (fL xs c), (3 : TypeId))]), (List.flatMap (gE) (xs)).toArray = rowA (gE) (xs), (decide (xs.length * (64 : Nat) < (1000000000 : Nat))) = true, segC (rowA (gE) (xs)) 0 ((xs.length) * 7) = some (List.flatMap (gE) (xs)), (decide ((↑xs.length : Int) > (200 : Int))) = false]) (by kernel_rfl) ⟨(seD_at (xs) (xs.length) (xs.length) (by first | rfl | assumption | omega | (simp; done) | (simp_all; done) | (simp_all; omega) | (have := fL_len xs c; simp_all; omega)) (by first | rfl | assumption | omega | (simp; done) | (simp_all; done) | (simp_all; omega) | (have := fL_len xs c; simp_all; omega)) (by first | rfl | assumption | omega | (simp; done) | (simp_all; done) | (simp_all; omega) | (have := fL_len xs c; simp_all; omega))), hq2, hq3, hq2, (siD_at (fL xs c) ((fL xs c).length) ((fL xs c).length) (by first | rfl | assumption | omega | (simp; done) | (simp_all; done) | (simp_all; omega) | (have := fL_len xs c; simp_all; omega)) (by first | rfl | assumption | omega | (simp; done) | (simp_all; done) | (simp_all; omega) | (have := fL_len xs c; simp_all; omega)) (by first | rfl | assumption | omega | (simp; done) | (simp_all; done) | (simp_all; omega) | (have := fL_len xs c; simp_all; omega))), (rwD_at (xs) (c) (xs.length) (by first | rfl | assumption | omega | (simp; done) | (simp_all; done) | (simp_all; omega) | (have := fL_len xs c; simp_all; omega)) (by first | rfl | assumption | omega | (simp; done) | (simp_all; done) | (simp_all; omega) | (have := fL_len xs c; simp_all; omega))), (wkD_at (xs) (c) (xs.length) (by first | rfl | assumption | omega | (simp; done) | (simp_all; done) | (simp_all; omega) | (have := fL_len xs c; simp_all; omega)) (by first | rfl | assumption | omega | (simp; done) | (simp_all; done) | (simp_all; omega) | (have := fL_len xs c; simp_all; omega))), (rfD_at (xs) (c) (xs.length) (by first | rfl | assumption | omega | (simp; done) | (simp_all; done) | (simp_all; omega) | (have := fL_len xs c; simp_all; omega)) (by first | rfl | assumption | omega | (simp; done) | (simp_all; done) | (simp_all; omega) | (have := fL_len xs c; simp_all; omega))), (flD_at (xs) (c) (xs.length) (by first | rfl | assumption | omega | (simp; done) | (simp_all; done) | (simp_all; omega) | (have := fL_len xs c; simp_all; omega)) (by first | rfl | assumption | omega | (simp; done) | (simp_all; done) | (simp_all; omega) | (have := fL_len xs c; simp_all; omega))), (row_new (g := (gE)) rfl), hq1, (seg_all2 (g := (gE)) (k := 7) (fun _ => rfl) (by first | rfl | simp)), hq0, trivial⟩ (by kernel_rfl)) (by first | rfl | simp) (by first | rfl | simp [rowA_nil])
set_option maxHeartbeats 8000000 in
theorem lawF (xs : List En) (c : Int)  : KnownR Try.prog [] 5 [.list (rowA gE xs) xs.length, .val (.int .i64 c)] (.bool (true)) [] := by
  rcases Bool.eq_false_or_eq_true (decide ((↑xs.length : Int) > (200 : Int))) with hq0 | hq0
  ·
    exact lawF_p0 xs c hq0
  ·
    have hq1 : (decide (xs.length * (64 : Nat) < (1000000000 : Nat))) = true := by
      rcases Bool.eq_false_or_eq_true (decide (xs.length * (64 : Nat) < (1000000000 : Nat))) with h | h
      · exact h
      · exfalso; (first | (simp_all only [Bool.and_eq_true, Bool.not_eq_true', Bool.false_eq_true, Bool.true_eq_false, reduceCtorEq]; done) | (simp_all; done) | (simp only [sx, sy, eq_self, ne_eq, IntKind.wrap_i64, wrapU64, Int.reduceLT] at * <;> first | contradiction | omega))
    have hq2 : (eC c == eC c) = true := by
      rcases Bool.eq_false_or_eq_true (eC c == eC c) with h | h
      · exact h
      · exfalso; (first | (simp_all only [Bool.and_eq_true, Bool.not_eq_true', Bool.false_eq_true, Bool.true_eq_false, reduceCtorEq]; done) | (simp_all; done) | (simp only [sx, sy, eq_self, ne_eq, IntKind.wrap_i64, wrapU64, Int.reduceLT] at * <;> first | contradiction | omega))
    have hq3 : (wL xs c == wL xs c) = true := by
      rcases Bool.eq_false_or_eq_true (wL xs c == wL xs c) with h | h
      · exact h
      · exfalso; (first | (simp_all only [Bool.and_eq_true, Bool.not_eq_true', Bool.false_eq_true, Bool.true_eq_false, reduceCtorEq]; done) | (simp_all; done) | (simp only [sx, sy, eq_self, ne_eq, IntKind.wrap_i64, wrapU64, Int.reduceLT] at * <;> first | contradiction | omega))
    exact lawF_p1 xs c hq0 hq1 hq2 hq3

end Go.Proofs.Ythjdoeeefighkaa
