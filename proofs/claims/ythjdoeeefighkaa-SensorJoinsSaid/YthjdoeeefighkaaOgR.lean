/- Layer 12: does the sensor work? -/
import Derived.Test.YthjdoeeefighkaaLM
namespace Go.Proofs.Ythjdoeeefighkaa
open Go Go.RowKit
set_option linter.unusedVariables false
set_option linter.unusedSimpArgs false
set_option linter.unnecessarySimpa false
theorem flD (xs : List En) (c : Int) (hx : xs.length ≤ 200) : KnownR Try.prog [] 21 [.list (rowA gE xs) xs.length, .val (.int .i64 c)] (.tuple #[.complex .f64 0 (fL xs c).length, .int .i64 (eC c)]) ([(rowA gI (fL xs c), 3)]) := faults_p xs c hx
noncomputable def flD_A (p : List En × Int × Nat × Unit) : List D := match p with
  | (xs, c, nn0, _) => [.list (rowA gE xs) nn0, .val (.int .i64 c)]
noncomputable def flD_C (p : List En × Int × Nat × Unit) : Prop := match p with
  | (xs, c, nn0, _) => (nn0 = xs.length) ∧ (xs.length ≤ 200) ∧ True
noncomputable def flD_R (p : List En × Int × Nat × Unit) : Value × Outs := match p with
  | (xs, c, nn0, _) => (.tuple #[.complex .f64 0 (fL xs c).length, .int .i64 (eC c)], [(rowA gI (fL xs c), 3)])
theorem flD_inj : ∀ p q, flD_C p → flD_C q → flD_A p = flD_A q → flD_R p = flD_R q := by
  rintro ⟨xs, c, nn0, _⟩ ⟨xs', c', nn0', _⟩ _ _ e
  simp only [flD_A, List.cons.injEq, D.list.injEq, D.val.injEq, D.agg.injEq, Value.int.injEq, Value.bool.injEq, Value.string.injEq, Value.agg.injEq, Array.mk.injEq, and_true, true_and, gI_inj, gB_inj, gE_inj] at e
  simp_all
noncomputable def flD_k : List D → Option (Value × Outs) := fnP flD_A flD_C flD_R
theorem flD_n (xs : List En) (c : Int) (nn0 : Nat) (hn0 : nn0 = xs.length) (hx : xs.length ≤ 200) : KnownR Try.prog [] 21 [.list (rowA gE xs) nn0, .val (.int .i64 c)] (.tuple #[.complex .f64 0 (fL xs c).length, .int .i64 (eC c)]) ([(rowA gI (fL xs c), 3)]) := by
  subst hn0; skip
  exact flD _ _ hx
theorem flD_ok : ∀ ds v bs, flD_k ds = some (v, bs) → KnownR Try.prog [] 21 ds v bs := fnP_ok (by
  rintro ⟨xs, c, nn0, _⟩ ⟨hn0, hx, _⟩
  exact flD_n _ _ _ hn0 hx)
theorem flD_at (xs : List En) (c : Int) (nn0 : Nat) (hn0 : nn0 = xs.length) (hx : xs.length ≤ 200) : flD_k [.list (rowA gE xs) nn0, .val (.int .i64 c)] = some (.tuple #[.complex .f64 0 (fL xs c).length, .int .i64 (eC c)], [(rowA gI (fL xs c), 3)]) := fnP_at (p := (xs, c, nn0, ())) flD_inj ⟨hn0, hx, trivial⟩ rfl rfl
theorem rfD (xs : List En) (c : Int) (hx : xs.length ≤ 200) : KnownR Try.prog [] 22 [.list (rowA gE xs) xs.length, .val (.int .i64 c)] (.tuple #[.complex .f64 0 (fL xs c).length, .int .i64 (eC c)]) ([(rowA gI (fL xs c), 3)]) := faults_r xs c hx
noncomputable def rfD_A (p : List En × Int × Nat × Unit) : List D := match p with
  | (xs, c, nn0, _) => [.list (rowA gE xs) nn0, .val (.int .i64 c)]
noncomputable def rfD_C (p : List En × Int × Nat × Unit) : Prop := match p with
  | (xs, c, nn0, _) => (nn0 = xs.length) ∧ (xs.length ≤ 200) ∧ True
noncomputable def rfD_R (p : List En × Int × Nat × Unit) : Value × Outs := match p with
  | (xs, c, nn0, _) => (.tuple #[.complex .f64 0 (fL xs c).length, .int .i64 (eC c)], [(rowA gI (fL xs c), 3)])
theorem rfD_inj : ∀ p q, rfD_C p → rfD_C q → rfD_A p = rfD_A q → rfD_R p = rfD_R q := by
  rintro ⟨xs, c, nn0, _⟩ ⟨xs', c', nn0', _⟩ _ _ e
  simp only [rfD_A, List.cons.injEq, D.list.injEq, D.val.injEq, D.agg.injEq, Value.int.injEq, Value.bool.injEq, Value.string.injEq, Value.agg.injEq, Array.mk.injEq, and_true, true_and, gI_inj, gB_inj, gE_inj] at e
  simp_all
noncomputable def rfD_k : List D → Option (Value × Outs) := fnP rfD_A rfD_C rfD_R
theorem rfD_n (xs : List En) (c : Int) (nn0 : Nat) (hn0 : nn0 = xs.length) (hx : xs.length ≤ 200) : KnownR Try.prog [] 22 [.list (rowA gE xs) nn0, .val (.int .i64 c)] (.tuple #[.complex .f64 0 (fL xs c).length, .int .i64 (eC c)]) ([(rowA gI (fL xs c), 3)]) := by
  subst hn0; skip
  exact rfD _ _ hx
theorem rfD_ok : ∀ ds v bs, rfD_k ds = some (v, bs) → KnownR Try.prog [] 22 ds v bs := fnP_ok (by
  rintro ⟨xs, c, nn0, _⟩ ⟨hn0, hx, _⟩
  exact rfD_n _ _ _ hn0 hx)
theorem rfD_at (xs : List En) (c : Int) (nn0 : Nat) (hn0 : nn0 = xs.length) (hx : xs.length ≤ 200) : rfD_k [.list (rowA gE xs) nn0, .val (.int .i64 c)] = some (.tuple #[.complex .f64 0 (fL xs c).length, .int .i64 (eC c)], [(rowA gI (fL xs c), 3)]) := fnP_at (p := (xs, c, nn0, ())) rfD_inj ⟨hn0, hx, trivial⟩ rfl rfl
noncomputable def tabF : GTab := (GTab.fnD 21 flD_k (GTab.fnD 22 rfD_k GTab.none))
theorem tabF_ok : GOk Try.prog [] tabF := (GOk.fnD flD_ok (GOk.fnD rfD_ok GOk.none))
noncomputable def wkN_c1 (xs : List En) (c : Int) : Int := (eC c)
theorem wkN_p0 (xs : List En) (c : Int) (hx : xs.length ≤ 200) (he : ¬ eC c = 0) (hq0 : (eC c != (0 : Int)) = true) : KnownR Try.prog [] 23 [.list (rowA gE xs) xs.length, .val (.int .i64 c)] (.tuple #[(.bool (false)), (.int .i64 (eC c))]) [] :=
  knownR_eq (v := Value.tuple { toList := [Value.bool false, Value.int IntKind.i64 (eC c)] }) (bs := []) (open_resD mix tabF_ok (T := tabF) (fuel := 3000) (es := []) (ans := [(0, .outs (Value.tuple #[Value.complex FloatKind.f64 (0 : Nat) (fL xs c).length, Value.int IntKind.i64 (eC c)]) ([(rowA gI (fL xs c), (3 : TypeId))])), (1, .b 1)]) (log := [(eC c != (0 : Int)) = true, (GTab.lookD (tabF) ((21 : Nat)) ([D.list (rowA gE xs) xs.length, D.val (Value.int IntKind.i64 c)])) = some (Value.tuple #[Value.complex FloatKind.f64 (0 : Nat) (fL xs c).length, Value.int IntKind.i64 (eC c)], [(rowA gI (fL xs c), (3 : TypeId))])]) (by kernel_rfl) ⟨hq0, (flD_at (xs) (c) (xs.length) (by first | rfl | assumption | omega | (simp; done) | (simp_all; done) | (simp_all; omega)) (by first | rfl | assumption | omega | (simp; done) | (simp_all; done) | (simp_all; omega))), trivial⟩ (by kernel_rfl)) (by first | rfl | simp) (by first | rfl | simp [rowA_nil])
set_option maxHeartbeats 8000000 in
theorem wkN (xs : List En) (c : Int) (hx : xs.length ≤ 200) (he : ¬ eC c = 0) : KnownR Try.prog [] 23 [.list (rowA gE xs) xs.length, .val (.int .i64 c)] (.tuple #[(.bool (false)), (.int .i64 (wkN_c1 xs c))]) [] := by
  have hq0 : (eC c != (0 : Int)) = true := by
    rcases Bool.eq_false_or_eq_true (eC c != (0 : Int)) with h | h
    · exact h
    · exfalso; (first | (simp_all only [Bool.and_eq_true, Bool.not_eq_true', Bool.false_eq_true, Bool.true_eq_false, reduceCtorEq]; done) | (simp_all; done) | (simp only [sx, sy, eq_self, ne_eq, IntKind.wrap_i64, wrapU64, Int.reduceLT] at * <;> first | contradiction | omega))
  have e1 : wkN_c1 xs c = (eC c) := rfl; rw [e1]; exact wkN_p0 xs c hx he hq0

noncomputable def rwN_c1 (xs : List En) (c : Int) : Int := (eC c)
theorem rwN_p0 (xs : List En) (c : Int) (hx : xs.length ≤ 200) (he : ¬ eC c = 0) (hq0 : (eC c != (0 : Int)) = true) : KnownR Try.prog [] 24 [.list (rowA gE xs) xs.length, .val (.int .i64 c)] (.tuple #[(.bool (false)), (.int .i64 (eC c))]) [] :=
  knownR_eq (v := Value.tuple { toList := [Value.bool false, Value.int IntKind.i64 (eC c)] }) (bs := []) (open_resD mix tabF_ok (T := tabF) (fuel := 3000) (es := []) (ans := [(0, .outs (Value.tuple #[Value.complex FloatKind.f64 (0 : Nat) (fL xs c).length, Value.int IntKind.i64 (eC c)]) ([(rowA gI (fL xs c), (3 : TypeId))])), (1, .b 1)]) (log := [(eC c != (0 : Int)) = true, (GTab.lookD (tabF) ((22 : Nat)) ([D.list (rowA gE xs) xs.length, D.val (Value.int IntKind.i64 c)])) = some (Value.tuple #[Value.complex FloatKind.f64 (0 : Nat) (fL xs c).length, Value.int IntKind.i64 (eC c)], [(rowA gI (fL xs c), (3 : TypeId))])]) (by kernel_rfl) ⟨hq0, (rfD_at (xs) (c) (xs.length) (by first | rfl | assumption | omega | (simp; done) | (simp_all; done) | (simp_all; omega)) (by first | rfl | assumption | omega | (simp; done) | (simp_all; done) | (simp_all; omega))), trivial⟩ (by kernel_rfl)) (by first | rfl | simp) (by first | rfl | simp [rowA_nil])
set_option maxHeartbeats 8000000 in
theorem rwN (xs : List En) (c : Int) (hx : xs.length ≤ 200) (he : ¬ eC c = 0) : KnownR Try.prog [] 24 [.list (rowA gE xs) xs.length, .val (.int .i64 c)] (.tuple #[(.bool (false)), (.int .i64 (rwN_c1 xs c))]) [] := by
  have hq0 : (eC c != (0 : Int)) = true := by
    rcases Bool.eq_false_or_eq_true (eC c != (0 : Int)) with h | h
    · exact h
    · exfalso; (first | (simp_all only [Bool.and_eq_true, Bool.not_eq_true', Bool.false_eq_true, Bool.true_eq_false, reduceCtorEq]; done) | (simp_all; done) | (simp only [sx, sy, eq_self, ne_eq, IntKind.wrap_i64, wrapU64, Int.reduceLT] at * <;> first | contradiction | omega))
  have e1 : rwN_c1 xs c = (eC c) := rfl; rw [e1]; exact rwN_p0 xs c hx he hq0

noncomputable def wkA_hd (xs : List En) (c : Int) : Hd := headD Try.prog [] tabF 3000 23 [.list (rowA gE xs) xs.length, .val (.int .i64 c)] [(0, .outs (Value.tuple #[Value.complex FloatKind.f64 (0 : Nat) (fL xs c).length, Value.int IntKind.i64 (eC c)]) ([(rowA gI (fL xs c), (3 : TypeId))])), (1, .b 0), (2, .stop)]
noncomputable def wkA_R (xs : List En) (c : Int) (rc0 : Array Value) (rn0 : Nat) (y1 : Int) : St := (((entryR Try.prog [(.slot 5, 3)] 2 42 [7, 15, 11, 19, 17, 13, 21, 16, 12, 20, 18, 14] 3 2 (wkA_hd xs c).s).rows [(2, rc0, 3)]).updF [(5, .complex .f64 2 rn0), (10, .int .i64 y1)] [])
noncomputable def wkA_S (xs : List En) (c : Int) (y0 : List Int) (y1 : Int) : St := (((entryR Try.prog [(.slot 5, 3)] 2 42 [7, 15, 11, 19, 17, 13, 21, 16, 12, 20, 18, 14] 3 2 (wkA_hd xs c).s).rows [(2, (rowA gI y0.reverse), 3)]).updF [(5, .complex .f64 2 y0.length), (10, .int .i64 y1)] [])
theorem wkA_n (xs : List En) (c : Int) (hx : xs.length ≤ 200) (he : eC c = 0) (hfl : (fL xs c).length ≤ 200) : 2 = (wkA_hd xs c).s.hs.next := by kernel_rfl
theorem wkA_r (xs : List En) (c : Int) (hx : xs.length ≤ 200) (he : eC c = 0) (hfl : (fL xs c).length ≤ 200) : (wkA_hd xs c).s.hs.rd < bitOf 2 := by
  have e : (wkA_hd xs c).s.hs.rd = 1 := by kernel_rfl
  rw [e]; exact blt_iff.1 (by kernel_rfl)
theorem wkA_w (xs : List En) (c : Int) (hx : xs.length ≤ 200) (he : eC c = 0) (hfl : (fL xs c).length ≤ 200) : (wkA_hd xs c).s.hs.wr < bitOf 2 := by
  have e : (wkA_hd xs c).s.hs.wr = 2 := by kernel_rfl
  rw [e]; exact blt_iff.1 (by kernel_rfl)
theorem wkA_e0 (xs : List En) (c : Int) (hx : xs.length ≤ 200) (he : eC c = 0) (hfl : (fL xs c).length ≤ 200) : beginS Try.prog [(.slot 5, 3)] 2 42 (sameB 2 1) [7, 15, 11, 19, 17, 13, 21, 16, 12, 20, 18, 14] 3 3 2 (wkA_hd xs c).s = some (wkA_S xs c [] ((0 : Int))) := by
  have h : beginS Try.prog [(.slot 5, 3)] 2 42 (sameB 2 1) [7, 15, 11, 19, 17, 13, 21, 16, 12, 20, 18, 14] 3 3 2 (wkA_hd xs c).s = some (wkA_R xs c #[] 0 ((0 : Int))) := by kernel_rfl
  refine h.trans (congrArg some ?_)
  show wkA_R xs c #[] 0 ((0 : Int)) = wkA_R xs c (rowA gI ([] : List Int).reverse) ([] : List Int).length ((0 : Int))
  simp only [List.reverse_nil, rowA_nil, List.length_nil, List.reverse_reverse, List.length_reverse]
theorem wkA_e1 (xs : List En) (c : Int) (hx : xs.length ≤ 200) (he : eC c = 0) (hfl : (fL xs c).length ≤ 200) : beginOk Try.prog [(.slot 5, 3)] 2 42 (sameB 2 1) 3 (wkA_hd xs c).s = true := by kernel_rfl
theorem wkA_p0 (xs : List En) (c : Int) (hx : xs.length ≤ 200) (he : eC c = 0) (hfl : (fL xs c).length ≤ 200) (y0 : List Int) (y1 : Int) (hi : (decide (0 ≤ y1 ∧ y1 ≤ 20000 ∧ (y0.length : Int) ≤ y1)) = true) (hq0 : (decide (y1 < (↑(fL xs c).length : Int))) = true) (hq1 : (decide ((0 : Int) ≤ y1)) = true) (hq2 : (el (fL xs c) y1 == (5 : Int)) = true) (hq3 : (decide ((y0.length + (1 : Nat)) * (8 : Nat) < (1000000000 : Nat))) = true) : bodyR Try.prog ([] : Vars).length tabF 3000 (wkA_hd xs c) (wkA_S xs c y0 y1 ) [(0, .b 1), (1, .b 1), (2, .b 1), (3, .vals ([Value.int IntKind.i64 (el (fL xs c) y1)])), (4, .b 1), (5, .b 1), (6, .yes), (7, .arr (rowA (gI) ((el (fL xs c) y1 :: y0).reverse)))] 2 42 [(4, 2)] [7, 15, 11, 19, 17, 13, 21, 16, 12, 20, 18, 14] 3 3 2 = some (.normal, (wkA_S xs c (el (fL xs c) y1 :: y0) (IntKind.i64.wrap (y1 + (1 : Int)))), [((rowA (gI) (y0.reverse)).toList ++ ([Value.int IntKind.i64 (el (fL xs c) y1)])).toArray = rowA (gI) ((el (fL xs c) y1 :: y0).reverse), ((rowA gI y0.reverse).size.beq (y0.length.mul Try.prog.types[(3 : Nat)].size)) = true, (decide ((y0.length + (1 : Nat)) * (8 : Nat) < (1000000000 : Nat))) = true, (el (fL xs c) y1 == (5 : Int)) = true, segC (rowA (gI) (fL xs c)) (((y1).toNat) * 1 + 0) 1 = some ([Value.int IntKind.i64 (el (fL xs c) y1)]), (decide (y1 < (↑(fL xs c).length : Int))) = true, (decide ((0 : Int) ≤ y1)) = true, (decide (y1 < (↑(fL xs c).length : Int))) = true]) := by kernel_rfl
theorem wkA_p1 (xs : List En) (c : Int) (hx : xs.length ≤ 200) (he : eC c = 0) (hfl : (fL xs c).length ≤ 200) (y0 : List Int) (y1 : Int) (hi : (decide (0 ≤ y1 ∧ y1 ≤ 20000 ∧ (y0.length : Int) ≤ y1)) = true) (hq0 : (decide (y1 < (↑(fL xs c).length : Int))) = true) (hq1 : (decide ((0 : Int) ≤ y1)) = true) (hq2 : (el (fL xs c) y1 == (5 : Int)) = false) : bodyR Try.prog ([] : Vars).length tabF 3000 (wkA_hd xs c) (wkA_S xs c y0 y1 ) [(0, .b 1), (1, .b 1), (2, .b 1), (3, .vals ([Value.int IntKind.i64 (el (fL xs c) y1)])), (4, .b 0)] 2 42 [(2, 2)] [7, 15, 11, 19, 17, 13, 21, 16, 12, 20, 18, 14] 3 3 2 = some (.normal, (wkA_S xs c (y0) (IntKind.i64.wrap (y1 + (1 : Int)))), [(el (fL xs c) y1 == (5 : Int)) = false, segC (rowA (gI) (fL xs c)) (((y1).toNat) * 1 + 0) 1 = some ([Value.int IntKind.i64 (el (fL xs c) y1)]), (decide (y1 < (↑(fL xs c).length : Int))) = true, (decide ((0 : Int) ≤ y1)) = true, (decide (y1 < (↑(fL xs c).length : Int))) = true]) := by kernel_rfl
theorem wkA_p2 (xs : List En) (c : Int) (hx : xs.length ≤ 200) (he : eC c = 0) (hfl : (fL xs c).length ≤ 200) (y0 : List Int) (y1 : Int) (hi : (decide (0 ≤ y1 ∧ y1 ≤ 20000 ∧ (y0.length : Int) ≤ y1)) = true) (hq0 : (decide (y1 < (↑(fL xs c).length : Int))) = false) : bodyR Try.prog ([] : Vars).length tabF 3000 (wkA_hd xs c) (wkA_S xs c y0 y1 ) [(0, .b 0)] 2 42 [(2, 2)] [7, 15, 11, 19, 17, 13, 21, 16, 12, 20, 18, 14] 42 3 2 = some (.exit 0, bodySt (bodyR Try.prog ([] : Vars).length tabF 3000 (wkA_hd xs c) (wkA_S xs c y0 y1 ) [(0, .b 0)] 2 42 [(2, 2)] [7, 15, 11, 19, 17, 13, 21, 16, 12, 20, 18, 14] 42 3 2), [(decide (y1 < (↑(fL xs c).length : Int))) = false]) := by kernel_rfl
theorem wkA_q2 (xs : List En) (c : Int) (hx : xs.length ≤ 200) (he : eC c = 0) (hfl : (fL xs c).length ≤ 200) (y0 : List Int) (y1 : Int) (hi : (decide (0 ≤ y1 ∧ y1 ≤ 20000 ∧ (y0.length : Int) ≤ y1)) = true) (hq0 : (decide (y1 < (↑(fL xs c).length : Int))) = false) : (bodySt (bodyR Try.prog ([] : Vars).length tabF 3000 (wkA_hd xs c) (wkA_S xs c y0 y1 ) [(0, .b 0)] 2 42 [(2, 2)] [7, 15, 11, 19, 17, 13, 21, 16, 12, 20, 18, 14] 42 3 2)).hs.next = 42 := by kernel_rfl
theorem wkA_d0 (xs : List En) (c : Int) (hx : xs.length ≤ 200) (he : eC c = 0) (hfl : (fL xs c).length ≤ 200) (y0 : List Int) (y1 : Int) (hi : (decide (0 ≤ y1 ∧ y1 ≤ 20000 ∧ (y0.length : Int) ≤ y1)) = true) (hq0 : (decide (y1 < (↑(fL xs c).length : Int))) = true) : (decide ((0 : Int) ≤ y1)) = true := by
  rcases Bool.eq_false_or_eq_true (decide ((0 : Int) ≤ y1)) with h | h
  · exact h
  · exfalso; (first | (simp_all only [Bool.and_eq_true, Bool.not_eq_true', Bool.false_eq_true, Bool.true_eq_false, reduceCtorEq]; done) | (simp_all; done) | (simp only [sx, sy, eq_self, ne_eq, IntKind.wrap_i64, wrapU64, Int.reduceLT] at * <;> first | contradiction | omega))
theorem wkA_d1 (xs : List En) (c : Int) (hx : xs.length ≤ 200) (he : eC c = 0) (hfl : (fL xs c).length ≤ 200) (y0 : List Int) (y1 : Int) (hi : (decide (0 ≤ y1 ∧ y1 ≤ 20000 ∧ (y0.length : Int) ≤ y1)) = true) (hq0 : (decide (y1 < (↑(fL xs c).length : Int))) = true) (hq1 : (decide ((0 : Int) ≤ y1)) = true) (hq2 : (el (fL xs c) y1 == (5 : Int)) = true) : (decide ((y0.length + (1 : Nat)) * (8 : Nat) < (1000000000 : Nat))) = true := by
  rcases Bool.eq_false_or_eq_true (decide ((y0.length + (1 : Nat)) * (8 : Nat) < (1000000000 : Nat))) with h | h
  · exact h
  · exfalso; (first | (simp_all only [Bool.and_eq_true, Bool.not_eq_true', Bool.false_eq_true, Bool.true_eq_false, reduceCtorEq]; done) | (simp_all; done) | (simp only [sx, sy, eq_self, ne_eq, IntKind.wrap_i64, wrapU64, Int.reduceLT] at * <;> first | contradiction | omega))
def wkA_X : Nat → VX
  | 0 => .exit 0
  | _ => .normal
noncomputable def wkA_E (kE : Nat) (xs : List En) (c : Int) (y0 : List Int) (y1 : Int) : St := match kE with
  | 0 => bodySt (bodyR Try.prog ([] : Vars).length tabF 3000 (wkA_hd xs c) (wkA_S xs c y0 y1 ) [(0, .b 0)] 2 42 [(2, 2)] [7, 15, 11, 19, 17, 13, 21, 16, 12, 20, 18, 14] 42 3 2)
  | _ => (wkA_hd xs c).s
noncomputable def wkA_f (xs : List En) (c : Int) : Nat → List Int → Int → Option (Nat × (List Int × Int))
  | 0, _, _ => none
  | fu + 1, y0, y1 => (bif (decide (0 ≤ y1 ∧ y1 ≤ 20000 ∧ (y0.length : Int) ≤ y1)) then (bif (decide (y1 < (↑(fL xs c).length : Int))) then (bif (el (fL xs c) y1 == (5 : Int)) then wkA_f xs c fu (el (fL xs c) y1 :: y0) (IntKind.i64.wrap (y1 + (1 : Int))) else wkA_f xs c fu (y0) (IntKind.i64.wrap (y1 + (1 : Int)))) else some (0, (y0, y1))) else none)
theorem wkA_fs (xs : List En) (c : Int) (fu : Nat) (y0 : List Int) (y1 : Int) : wkA_f xs c (fu + 1) y0 y1 = (bif (decide (0 ≤ y1 ∧ y1 ≤ 20000 ∧ (y0.length : Int) ≤ y1)) then (bif (decide (y1 < (↑(fL xs c).length : Int))) then (bif (el (fL xs c) y1 == (5 : Int)) then wkA_f xs c fu (el (fL xs c) y1 :: y0) (IntKind.i64.wrap (y1 + (1 : Int))) else wkA_f xs c fu (y0) (IntKind.i64.wrap (y1 + (1 : Int)))) else some (0, (y0, y1))) else none) := rfl
theorem wkA_f0 (xs : List En) (c : Int) (y0 : List Int) (y1 : Int) : wkA_f xs c 0 y0 y1 = none := rfl
theorem wkA_loop (xs : List En) (c : Int) (hx : xs.length ≤ 200) (he : eC c = 0) (hfl : (fL xs c).length ≤ 200) : ∀ (fu : Nat) (y0 : List Int) (y1 : Int) (kk : Nat) (zz : List Int × Int), wkA_f xs c fu y0 y1 = some (kk, zz) → VStep (wkA_hd xs c).s.hs (wkA_S xs c y0 y1 ).hs → RoundsC Try.prog [] 2 42 (wkA_hd xs c).s.hs (wkA_hd xs c).ro (wkA_hd xs c).a (wkA_S xs c y0 y1 ) (wkA_X kk) (wkA_E kk xs c zz.1 zz.2 ) ∧ ((wkA_E kk xs c zz.1 zz.2 )).hs.next = 42 := by
  intro fu
  induction fu with
  | zero =>
    intro y0 y1 kk zz hf hSz
    have hf := (wkA_f0 xs c y0 y1 ).symm.trans hf
    simp at hf
  | succ fu ih =>
    intro y0 y1 kk zz hf hSz
    have hf := (wkA_fs xs c fu y0 y1 ).symm.trans hf
    rcases bif_or hf with ⟨hi, hf⟩ | ⟨hi, hf⟩
    case inr => cases hf
    rcases bif_or hf with ⟨hq0, hf⟩ | ⟨hq0, hf⟩
    ·
      have hq1 := wkA_d0 xs c hx  he  hfl  y0 y1 hi hq0 
      rcases bif_or hf with ⟨hq2, hf⟩ | ⟨hq2, hf⟩
      ·
        have hq3 := wkA_d1 xs c hx  he  hfl  y0 y1 hi hq0 hq1 hq2 
        have hb1 := wkA_p0 xs c hx  he  hfl  y0 y1 hi  hq0 hq1 hq2 hq3; have hb2 := body_canonR hb1; have hb3 := hb2 ⟨(row_snoc (g := (gI)) rfl), (fact_size (g := (gI)) (k := 1) (fun _ => rfl) (by simp)), hq3, hq2, (seg_row (g := (gI)) (k := 1) (fun _ => rfl) (by first | exact of_decide_eq_true hq1 | simpa using of_decide_eq_true hq1) (by first | exact of_decide_eq_true hq0 | simpa using of_decide_eq_true hq0) (by decide) rfl), hq0, hq1, hq0, trivial⟩; obtain ⟨sz1, kz1, kz2, kz3⟩ := hb3; obtain ⟨gz1, gz2⟩ := ih (el (fL xs c) y1 :: y0) (IntKind.i64.wrap (y1 + (1 : Int))) kk zz hf (rounds_step mix (T := tabF) tabF_ok (wkA_n xs c hx  he  hfl  ) (wkA_r xs c hx  he  hfl  ) (wkA_w xs c hx  he  hfl  ) kz1 hSz kz2 kz3); exact ⟨rounds_next mix (T := tabF) tabF_ok (wkA_n xs c hx  he  hfl  ) (wkA_r xs c hx  he  hfl  ) (wkA_w xs c hx  he  hfl  ) kz1 hSz kz2 kz3 (fun _ => gz1), gz2⟩
      ·
        have hb1 := wkA_p1 xs c hx  he  hfl  y0 y1 hi  hq0 hq1 hq2; have hb2 := body_canonR hb1; have hb3 := hb2 ⟨hq2, (seg_row (g := (gI)) (k := 1) (fun _ => rfl) (by first | exact of_decide_eq_true hq1 | simpa using of_decide_eq_true hq1) (by first | exact of_decide_eq_true hq0 | simpa using of_decide_eq_true hq0) (by decide) rfl), hq0, hq1, hq0, trivial⟩; obtain ⟨sz1, kz1, kz2, kz3⟩ := hb3; obtain ⟨gz1, gz2⟩ := ih (y0) (IntKind.i64.wrap (y1 + (1 : Int))) kk zz hf (rounds_step mix (T := tabF) tabF_ok (wkA_n xs c hx  he  hfl  ) (wkA_r xs c hx  he  hfl  ) (wkA_w xs c hx  he  hfl  ) kz1 hSz kz2 kz3); exact ⟨rounds_next mix (T := tabF) tabF_ok (wkA_n xs c hx  he  hfl  ) (wkA_r xs c hx  he  hfl  ) (wkA_w xs c hx  he  hfl  ) kz1 hSz kz2 kz3 (fun _ => gz1), gz2⟩
    ·
      injection hf with hf; injection hf with e1 e2; subst e1; subst e2; have hb1 := wkA_p2 xs c hx  he  hfl  y0 y1 hi  hq0; have hb2 := body_canonR hb1; have hb3 := hb2 ⟨hq0, trivial⟩; obtain ⟨sz1, kz1, kz2, kz3⟩ := hb3; exact ⟨rounds_end mix (T := tabF) tabF_ok (wkA_n xs c hx  he  hfl  ) (wkA_r xs c hx  he  hfl  ) (wkA_w xs c hx  he  hfl  ) kz1 (fun h => by cases h) hSz kz2 kz3, wkA_q2 xs c hx  he  hfl  y0 y1 hi  hq0⟩
theorem wkA_ok (xs : List En) (c : Int) (hx : xs.length ≤ 200) (he : eC c = 0) (hfl : (fL xs c).length ≤ 200) (fu kk : Nat) (zz : List Int × Int) (hf : wkA_f xs c fu [] ((0 : Int)) = some (kk, zz)) : ∀ B : Bd, B.L = [] → LoopOk Try.prog B (wkA_hd xs c).ro (wkA_hd xs c).a (wkA_hd xs c).s (wkA_X kk) (wkA_E kk xs c zz.1 zz.2 ) := by
  obtain ⟨sb1, sb2, sb3, sb4⟩ := begin_open (wkA_e0 xs c hx  he  hfl  ) (wkA_e1 xs c hx  he  hfl  )
  have hSz := begin_step2 (wkA_n xs c hx  he  hfl  ) (wkA_r xs c hx  he  hfl  ) (wkA_w xs c hx  he  hfl  ) sb2 sb3 sb4
  obtain ⟨gz1, gz2⟩ := wkA_loop xs c hx  he  hfl  fu [] ((0 : Int)) kk zz hf hSz
  exact rounds_ok (wkA_n xs c hx  he  hfl  ) (Nat.le_of_ble_eq_true (by kernel_rfl)) gz2 (rounds_begin2 (wkA_n xs c hx  he  hfl  ) (wkA_r xs c hx  he  hfl  ) (wkA_w xs c hx  he  hfl  ) sb2 sb3 sb4 (fun _ => gz1))

noncomputable def rwA_hd (xs : List En) (c : Int) : Hd := headD Try.prog [] tabF 3000 24 [.list (rowA gE xs) xs.length, .val (.int .i64 c)] [(0, .outs (Value.tuple #[Value.complex FloatKind.f64 (0 : Nat) (fL xs c).length, Value.int IntKind.i64 (eC c)]) ([(rowA gI (fL xs c), (3 : TypeId))])), (1, .b 0), (2, .stop)]
noncomputable def rwA_S (xs : List En) (c : Int) (y0 : Int) : St := ((entryK 2 42 [23, 19, 27, 25, 21, 24, 20, 28, 18, 26, 22] 3 2 (rwA_hd xs c).s).updF [(8, .int .i64 y0)] [])
theorem rwA_n (xs : List En) (c : Int) (hx : xs.length ≤ 200) (he : eC c = 0) (hfl : (fL xs c).length ≤ 200) : 2 = (rwA_hd xs c).s.hs.next := by kernel_rfl
theorem rwA_r (xs : List En) (c : Int) (hx : xs.length ≤ 200) (he : eC c = 0) (hfl : (fL xs c).length ≤ 200) : (rwA_hd xs c).s.hs.rd < bitOf 2 := by
  have e : (rwA_hd xs c).s.hs.rd = 1 := by kernel_rfl
  rw [e]; exact blt_iff.1 (by kernel_rfl)
theorem rwA_w (xs : List En) (c : Int) (hx : xs.length ≤ 200) (he : eC c = 0) (hfl : (fL xs c).length ≤ 200) : (rwA_hd xs c).s.hs.wr < bitOf 2 := by
  have e : (rwA_hd xs c).s.hs.wr = 2 := by kernel_rfl
  rw [e]; exact blt_iff.1 (by kernel_rfl)
theorem rwA_e0 (xs : List En) (c : Int) (hx : xs.length ≤ 200) (he : eC c = 0) (hfl : (fL xs c).length ≤ 200) : canonS 2 42 [] [23, 19, 27, 25, 21, 24, 20, 28, 18, 26, 22] 2 3 2 (rwA_hd xs c).s = some (rwA_S xs c ((0 : Int))) := by kernel_rfl
theorem rwA_e1 (xs : List En) (c : Int) (hx : xs.length ≤ 200) (he : eC c = 0) (hfl : (fL xs c).length ≤ 200) : canonOk 2 42 [] 2 (rwA_hd xs c).s = true := canonOkF_eq.symm.trans (by kernel_rfl)
theorem rwA_p0 (xs : List En) (c : Int) (hx : xs.length ≤ 200) (he : eC c = 0) (hfl : (fL xs c).length ≤ 200) (y0 : Int) (hi : (decide (0 ≤ y0 ∧ y0 ≤ 20000)) = true) (hq0 : (decide (y0 < (↑(fL xs c).length : Int))) = true) (hq1 : (decide ((0 : Int) ≤ y0)) = true) (hq2 : (el (fL xs c) y0 == (5 : Int)) = true) : bodyK Try.prog ([] : Vars).length tabF 3000 (rwA_hd xs c) (rwA_S xs c y0 ) [(0, .b 1), (1, .b 1), (2, .b 1), (3, .vals ([Value.int IntKind.i64 (el (fL xs c) y0)])), (4, .b 1)] 2 42 [23, 19, 27, 25, 21, 24, 20, 28, 18, 26, 22] 42 3 2 = some (.ret, bodySt (bodyK Try.prog ([] : Vars).length tabF 3000 (rwA_hd xs c) (rwA_S xs c y0 ) [(0, .b 1), (1, .b 1), (2, .b 1), (3, .vals ([Value.int IntKind.i64 (el (fL xs c) y0)])), (4, .b 1)] 2 42 [23, 19, 27, 25, 21, 24, 20, 28, 18, 26, 22] 42 3 2), [(el (fL xs c) y0 == (5 : Int)) = true, segC (rowA (gI) (fL xs c)) (((y0).toNat) * 1 + 0) 1 = some ([Value.int IntKind.i64 (el (fL xs c) y0)]), (decide (y0 < (↑(fL xs c).length : Int))) = true, (decide ((0 : Int) ≤ y0)) = true, (decide (y0 < (↑(fL xs c).length : Int))) = true]) := by kernel_rfl
theorem rwA_q0 (xs : List En) (c : Int) (hx : xs.length ≤ 200) (he : eC c = 0) (hfl : (fL xs c).length ≤ 200) (y0 : Int) (hi : (decide (0 ≤ y0 ∧ y0 ≤ 20000)) = true) (hq0 : (decide (y0 < (↑(fL xs c).length : Int))) = true) (hq1 : (decide ((0 : Int) ≤ y0)) = true) (hq2 : (el (fL xs c) y0 == (5 : Int)) = true) : (bodySt (bodyK Try.prog ([] : Vars).length tabF 3000 (rwA_hd xs c) (rwA_S xs c y0 ) [(0, .b 1), (1, .b 1), (2, .b 1), (3, .vals ([Value.int IntKind.i64 (el (fL xs c) y0)])), (4, .b 1)] 2 42 [23, 19, 27, 25, 21, 24, 20, 28, 18, 26, 22] 42 3 2)).hs.next = 42 := by kernel_rfl
theorem rwA_p1 (xs : List En) (c : Int) (hx : xs.length ≤ 200) (he : eC c = 0) (hfl : (fL xs c).length ≤ 200) (y0 : Int) (hi : (decide (0 ≤ y0 ∧ y0 ≤ 20000)) = true) (hq0 : (decide (y0 < (↑(fL xs c).length : Int))) = true) (hq1 : (decide ((0 : Int) ≤ y0)) = true) (hq2 : (el (fL xs c) y0 == (5 : Int)) = false) : bodyK Try.prog ([] : Vars).length tabF 3000 (rwA_hd xs c) (rwA_S xs c y0 ) [(0, .b 1), (1, .b 1), (2, .b 1), (3, .vals ([Value.int IntKind.i64 (el (fL xs c) y0)])), (4, .b 0)] 2 42 [23, 19, 27, 25, 21, 24, 20, 28, 18, 26, 22] 2 3 2 = some (.normal, (rwA_S xs c (IntKind.i64.wrap (y0 + (1 : Int)))), [(el (fL xs c) y0 == (5 : Int)) = false, segC (rowA (gI) (fL xs c)) (((y0).toNat) * 1 + 0) 1 = some ([Value.int IntKind.i64 (el (fL xs c) y0)]), (decide (y0 < (↑(fL xs c).length : Int))) = true, (decide ((0 : Int) ≤ y0)) = true, (decide (y0 < (↑(fL xs c).length : Int))) = true]) := by kernel_rfl
theorem rwA_p2 (xs : List En) (c : Int) (hx : xs.length ≤ 200) (he : eC c = 0) (hfl : (fL xs c).length ≤ 200) (y0 : Int) (hi : (decide (0 ≤ y0 ∧ y0 ≤ 20000)) = true) (hq0 : (decide (y0 < (↑(fL xs c).length : Int))) = false) : bodyK Try.prog ([] : Vars).length tabF 3000 (rwA_hd xs c) (rwA_S xs c y0 ) [(0, .b 0)] 2 42 [23, 19, 27, 25, 21, 24, 20, 28, 18, 26, 22] 42 3 2 = some (.exit 0, bodySt (bodyK Try.prog ([] : Vars).length tabF 3000 (rwA_hd xs c) (rwA_S xs c y0 ) [(0, .b 0)] 2 42 [23, 19, 27, 25, 21, 24, 20, 28, 18, 26, 22] 42 3 2), [(decide (y0 < (↑(fL xs c).length : Int))) = false]) := by kernel_rfl
theorem rwA_q2 (xs : List En) (c : Int) (hx : xs.length ≤ 200) (he : eC c = 0) (hfl : (fL xs c).length ≤ 200) (y0 : Int) (hi : (decide (0 ≤ y0 ∧ y0 ≤ 20000)) = true) (hq0 : (decide (y0 < (↑(fL xs c).length : Int))) = false) : (bodySt (bodyK Try.prog ([] : Vars).length tabF 3000 (rwA_hd xs c) (rwA_S xs c y0 ) [(0, .b 0)] 2 42 [23, 19, 27, 25, 21, 24, 20, 28, 18, 26, 22] 42 3 2)).hs.next = 42 := by kernel_rfl
theorem rwA_d0 (xs : List En) (c : Int) (hx : xs.length ≤ 200) (he : eC c = 0) (hfl : (fL xs c).length ≤ 200) (y0 : Int) (hi : (decide (0 ≤ y0 ∧ y0 ≤ 20000)) = true) (hq0 : (decide (y0 < (↑(fL xs c).length : Int))) = true) : (decide ((0 : Int) ≤ y0)) = true := by
  rcases Bool.eq_false_or_eq_true (decide ((0 : Int) ≤ y0)) with h | h
  · exact h
  · exfalso; (first | (simp_all only [Bool.and_eq_true, Bool.not_eq_true', Bool.false_eq_true, Bool.true_eq_false, reduceCtorEq]; done) | (simp_all; done) | (simp only [sx, sy, eq_self, ne_eq, IntKind.wrap_i64, wrapU64, Int.reduceLT] at * <;> first | contradiction | omega))
def rwA_X : Nat → VX
  | 0 => .ret
  | 1 => .exit 0
  | _ => .normal
noncomputable def rwA_E (kE : Nat) (xs : List En) (c : Int) (y0 : Int) : St := match kE with
  | 0 => bodySt (bodyK Try.prog ([] : Vars).length tabF 3000 (rwA_hd xs c) (rwA_S xs c y0 ) [(0, .b 1), (1, .b 1), (2, .b 1), (3, .vals ([Value.int IntKind.i64 (el (fL xs c) y0)])), (4, .b 1)] 2 42 [23, 19, 27, 25, 21, 24, 20, 28, 18, 26, 22] 42 3 2)
  | 1 => bodySt (bodyK Try.prog ([] : Vars).length tabF 3000 (rwA_hd xs c) (rwA_S xs c y0 ) [(0, .b 0)] 2 42 [23, 19, 27, 25, 21, 24, 20, 28, 18, 26, 22] 42 3 2)
  | _ => (rwA_hd xs c).s
noncomputable def rwA_f (xs : List En) (c : Int) : Nat → Int → Option (Nat × (Int))
  | 0, _ => none
  | fu + 1, y0 => (bif (decide (0 ≤ y0 ∧ y0 ≤ 20000)) then (bif (decide (y0 < (↑(fL xs c).length : Int))) then (bif (el (fL xs c) y0 == (5 : Int)) then some (0, y0) else rwA_f xs c fu (IntKind.i64.wrap (y0 + (1 : Int)))) else some (1, y0)) else none)
theorem rwA_fs (xs : List En) (c : Int) (fu : Nat) (y0 : Int) : rwA_f xs c (fu + 1) y0 = (bif (decide (0 ≤ y0 ∧ y0 ≤ 20000)) then (bif (decide (y0 < (↑(fL xs c).length : Int))) then (bif (el (fL xs c) y0 == (5 : Int)) then some (0, y0) else rwA_f xs c fu (IntKind.i64.wrap (y0 + (1 : Int)))) else some (1, y0)) else none) := rfl
theorem rwA_f0 (xs : List En) (c : Int) (y0 : Int) : rwA_f xs c 0 y0 = none := rfl
theorem rwA_loop (xs : List En) (c : Int) (hx : xs.length ≤ 200) (he : eC c = 0) (hfl : (fL xs c).length ≤ 200) : ∀ (fu : Nat) (y0 : Int) (kk : Nat) (zz : Int), rwA_f xs c fu y0 = some (kk, zz) → VStep (rwA_hd xs c).s.hs (rwA_S xs c y0 ).hs → RoundsC Try.prog [] 2 42 (rwA_hd xs c).s.hs (rwA_hd xs c).ro (rwA_hd xs c).a (rwA_S xs c y0 ) (rwA_X kk) (rwA_E kk xs c zz ) ∧ ((rwA_E kk xs c zz )).hs.next = 42 := by
  intro fu
  induction fu with
  | zero =>
    intro y0 kk zz hf hSz
    have hf := (rwA_f0 xs c y0 ).symm.trans hf
    simp at hf
  | succ fu ih =>
    intro y0 kk zz hf hSz
    have hf := (rwA_fs xs c fu y0 ).symm.trans hf
    rcases bif_or hf with ⟨hi, hf⟩ | ⟨hi, hf⟩
    case inr => cases hf
    rcases bif_or hf with ⟨hq0, hf⟩ | ⟨hq0, hf⟩
    ·
      have hq1 := rwA_d0 xs c hx  he  hfl  y0 hi hq0 
      rcases bif_or hf with ⟨hq2, hf⟩ | ⟨hq2, hf⟩
      ·
        injection hf with hf; injection hf with e1 e2; subst e1; subst e2; have hb1 := rwA_p0 xs c hx  he  hfl  y0 hi  hq0 hq1 hq2; have hb2 := body_canon hb1; have hb3 := hb2 ⟨hq2, (seg_row (g := (gI)) (k := 1) (fun _ => rfl) (by first | exact of_decide_eq_true hq1 | simpa using of_decide_eq_true hq1) (by first | exact of_decide_eq_true hq0 | simpa using of_decide_eq_true hq0) (by decide) rfl), hq0, hq1, hq0, trivial⟩; obtain ⟨sz1, kz1, kz2, kz3⟩ := hb3; exact ⟨rounds_end mix (T := tabF) tabF_ok (rwA_n xs c hx  he  hfl  ) (rwA_r xs c hx  he  hfl  ) (rwA_w xs c hx  he  hfl  ) kz1 (fun h => by cases h) hSz kz2 kz3, rwA_q0 xs c hx  he  hfl  y0 hi  hq0 hq1 hq2⟩
      ·
        have hb1 := rwA_p1 xs c hx  he  hfl  y0 hi  hq0 hq1 hq2; have hb2 := body_canon hb1; have hb3 := hb2 ⟨hq2, (seg_row (g := (gI)) (k := 1) (fun _ => rfl) (by first | exact of_decide_eq_true hq1 | simpa using of_decide_eq_true hq1) (by first | exact of_decide_eq_true hq0 | simpa using of_decide_eq_true hq0) (by decide) rfl), hq0, hq1, hq0, trivial⟩; obtain ⟨sz1, kz1, kz2, kz3⟩ := hb3; obtain ⟨gz1, gz2⟩ := ih (IntKind.i64.wrap (y0 + (1 : Int))) kk zz hf (rounds_step mix (T := tabF) tabF_ok (rwA_n xs c hx  he  hfl  ) (rwA_r xs c hx  he  hfl  ) (rwA_w xs c hx  he  hfl  ) kz1 hSz kz2 kz3); exact ⟨rounds_next mix (T := tabF) tabF_ok (rwA_n xs c hx  he  hfl  ) (rwA_r xs c hx  he  hfl  ) (rwA_w xs c hx  he  hfl  ) kz1 hSz kz2 kz3 (fun _ => gz1), gz2⟩
    ·
      injection hf with hf; injection hf with e1 e2; subst e1; subst e2; have hb1 := rwA_p2 xs c hx  he  hfl  y0 hi  hq0; have hb2 := body_canon hb1; have hb3 := hb2 ⟨hq0, trivial⟩; obtain ⟨sz1, kz1, kz2, kz3⟩ := hb3; exact ⟨rounds_end mix (T := tabF) tabF_ok (rwA_n xs c hx  he  hfl  ) (rwA_r xs c hx  he  hfl  ) (rwA_w xs c hx  he  hfl  ) kz1 (fun h => by cases h) hSz kz2 kz3, rwA_q2 xs c hx  he  hfl  y0 hi  hq0⟩
theorem rwA_ok (xs : List En) (c : Int) (hx : xs.length ≤ 200) (he : eC c = 0) (hfl : (fL xs c).length ≤ 200) (fu kk : Nat) (zz : Int) (hf : rwA_f xs c fu ((0 : Int)) = some (kk, zz)) : ∀ B : Bd, B.L = [] → LoopOk Try.prog B (rwA_hd xs c).ro (rwA_hd xs c).a (rwA_hd xs c).s (rwA_X kk) (rwA_E kk xs c zz ) := by
  have hSz := begin_step (rwA_n xs c hx  he  hfl  ) (rwA_r xs c hx  he  hfl  ) (rwA_w xs c hx  he  hfl  ) (rwA_e0 xs c hx  he  hfl  ) (rwA_e1 xs c hx  he  hfl  )
  obtain ⟨gz1, gz2⟩ := rwA_loop xs c hx  he  hfl  fu ((0 : Int)) kk zz hf hSz
  exact rounds_ok (rwA_n xs c hx  he  hfl  ) (Nat.le_of_ble_eq_true (by kernel_rfl)) gz2 (rounds_begin (rwA_n xs c hx  he  hfl  ) (rwA_r xs c hx  he  hfl  ) (rwA_w xs c hx  he  hfl  ) (rwA_e0 xs c hx  he  hfl  ) (rwA_e1 xs c hx  he  hfl  ) (fun _ => gz1))

noncomputable def wkE_c0 (xs : List En) (c : Int) (wkA_z0 : List Int) (wkA_z1 : Int)  : Bool := ((↑wkA_z0.length : Int) == (0 : Int))
theorem wkE_p0 (xs : List En) (c : Int) (wkA_z0 : List Int) (wkA_z1 : Int)  (hx : xs.length ≤ 200) (he : eC c = 0) (hfl : (fL xs c).length ≤ 200) (wkA_k1 : (eC c != (0 : Int)) = false) (wkA_l : ∀ B : Bd, B.L = [] → LoopOk Try.prog B (wkA_hd xs c).ro (wkA_hd xs c).a (wkA_hd xs c).s (wkA_X 0) (wkA_E 0 xs c wkA_z0 wkA_z1 )) : KnownR Try.prog [] 23 [.list (rowA gE xs) xs.length, .val (.int .i64 c)] (.tuple #[(.bool ((↑wkA_z0.length : Int) == (0 : Int))), (.int .i64 ((0 : Int)))]) [] :=
  knownR_eq (v := Value.tuple { toList := [Value.bool ((↑wkA_z0.length : Int) == (0 : Int)), Value.int IntKind.i64 (0 : Int)] }) (bs := []) (open_resD mix (GOk.add tabF_ok wkA_l) (T := (GTab.add tabF 4 (wkA_hd xs c).ro (wkA_hd xs c).a (wkA_hd xs c).s (wkA_X 0) (wkA_E 0 xs c wkA_z0 wkA_z1 ) (by kernel_rfl))) (fuel := 3000) (es := []) (ans := [(0, .outs (Value.tuple #[Value.complex FloatKind.f64 (0 : Nat) (fL xs c).length, Value.int IntKind.i64 (eC c)]) ([(rowA gI (fL xs c), (3 : TypeId))])), (1, .b 0), (2, .loop (wkA_X 0) (wkA_E 0 xs c wkA_z0 wkA_z1 )), ]) (log := [LoopRes Try.prog ([] : Vars).length (GTab.add tabF 4 (wkA_hd xs c).ro (wkA_hd xs c).a (wkA_hd xs c).s (wkA_X 0) (wkA_E 0 xs c wkA_z0 wkA_z1 ) (by kernel_rfl)) (wkA_hd xs c).ro (wkA_hd xs c).a (wkA_hd xs c).s (wkA_X 0) (wkA_E 0 xs c wkA_z0 wkA_z1 ), (eC c != (0 : Int)) = false, (GTab.lookD (tabF) ((21 : Nat)) ([D.list (rowA gE xs) xs.length, D.val (Value.int IntKind.i64 c)])) = some (Value.tuple #[Value.complex FloatKind.f64 (0 : Nat) (fL xs c).length, Value.int IntKind.i64 (eC c)], [(rowA gI (fL xs c), (3 : TypeId))])]) (by kernel_rfl) ⟨(loop_known2 add_eq), wkA_k1, (flD_at (xs) (c) (xs.length) (by first | rfl | assumption | omega | (simp; done) | (simp_all; done) | (simp_all; omega)) (by first | rfl | assumption | omega | (simp; done) | (simp_all; done) | (simp_all; omega))), trivial⟩ (by kernel_rfl)) (by first | rfl | simp) (by first | rfl | simp [rowA_nil])
set_option maxHeartbeats 8000000 in
theorem wkE (xs : List En) (c : Int) (wkA_z0 : List Int) (wkA_z1 : Int)  (hx : xs.length ≤ 200) (he : eC c = 0) (hfl : (fL xs c).length ≤ 200) (wkA_k1 : (eC c != (0 : Int)) = false) (wkA_l : ∀ B : Bd, B.L = [] → LoopOk Try.prog B (wkA_hd xs c).ro (wkA_hd xs c).a (wkA_hd xs c).s (wkA_X 0) (wkA_E 0 xs c wkA_z0 wkA_z1 )) : KnownR Try.prog [] 23 [.list (rowA gE xs) xs.length, .val (.int .i64 c)] (.tuple #[(.bool (wkE_c0 xs c wkA_z0 wkA_z1)), (.int .i64 ((0 : Int)))]) [] := by
  have e0 : wkE_c0 xs c wkA_z0 wkA_z1 = ((↑wkA_z0.length : Int) == (0 : Int)) := rfl; rw [e0]; exact wkE_p0 xs c wkA_z0 wkA_z1 hx he hfl wkA_k1 wkA_l

theorem rwE_p0 (xs : List En) (c : Int) (rwA_z0 : Int)  (hx : xs.length ≤ 200) (he : eC c = 0) (hfl : (fL xs c).length ≤ 200) (rwA_k1 : (eC c != (0 : Int)) = false) (rwA_l : ∀ B : Bd, B.L = [] → LoopOk Try.prog B (rwA_hd xs c).ro (rwA_hd xs c).a (rwA_hd xs c).s (rwA_X 0) (rwA_E 0 xs c rwA_z0 )) : KnownR Try.prog [] 24 [.list (rowA gE xs) xs.length, .val (.int .i64 c)] (.tuple #[(.bool (false)), (.int .i64 ((0 : Int)))]) [] :=
  knownR_eq (v := Value.tuple { toList := [Value.bool false, Value.int IntKind.i64 (0 : Int)] }) (bs := []) (open_resD mix (GOk.add tabF_ok rwA_l) (T := (GTab.add tabF 6 (rwA_hd xs c).ro (rwA_hd xs c).a (rwA_hd xs c).s (rwA_X 0) (rwA_E 0 xs c rwA_z0 ) (by kernel_rfl))) (fuel := 3000) (es := []) (ans := [(0, .outs (Value.tuple #[Value.complex FloatKind.f64 (0 : Nat) (fL xs c).length, Value.int IntKind.i64 (eC c)]) ([(rowA gI (fL xs c), (3 : TypeId))])), (1, .b 0), (2, .loop (rwA_X 0) (rwA_E 0 xs c rwA_z0 )), ]) (log := [LoopRes Try.prog ([] : Vars).length (GTab.add tabF 6 (rwA_hd xs c).ro (rwA_hd xs c).a (rwA_hd xs c).s (rwA_X 0) (rwA_E 0 xs c rwA_z0 ) (by kernel_rfl)) (rwA_hd xs c).ro (rwA_hd xs c).a (rwA_hd xs c).s (rwA_X 0) (rwA_E 0 xs c rwA_z0 ), (eC c != (0 : Int)) = false, (GTab.lookD (tabF) ((22 : Nat)) ([D.list (rowA gE xs) xs.length, D.val (Value.int IntKind.i64 c)])) = some (Value.tuple #[Value.complex FloatKind.f64 (0 : Nat) (fL xs c).length, Value.int IntKind.i64 (eC c)], [(rowA gI (fL xs c), (3 : TypeId))])]) (by kernel_rfl) ⟨(loop_known2 add_eq), rwA_k1, (rfD_at (xs) (c) (xs.length) (by first | rfl | assumption | omega | (simp; done) | (simp_all; done) | (simp_all; omega)) (by first | rfl | assumption | omega | (simp; done) | (simp_all; done) | (simp_all; omega))), trivial⟩ (by kernel_rfl)) (by first | rfl | simp) (by first | rfl | simp [rowA_nil])
set_option maxHeartbeats 8000000 in
theorem rwE (xs : List En) (c : Int) (rwA_z0 : Int)  (hx : xs.length ≤ 200) (he : eC c = 0) (hfl : (fL xs c).length ≤ 200) (rwA_k1 : (eC c != (0 : Int)) = false) (rwA_l : ∀ B : Bd, B.L = [] → LoopOk Try.prog B (rwA_hd xs c).ro (rwA_hd xs c).a (rwA_hd xs c).s (rwA_X 0) (rwA_E 0 xs c rwA_z0 )) : KnownR Try.prog [] 24 [.list (rowA gE xs) xs.length, .val (.int .i64 c)] (.tuple #[(.bool (false)), (.int .i64 ((0 : Int)))]) [] := by
  exact rwE_p0 xs c rwA_z0 hx he hfl rwA_k1 rwA_l

theorem rwF_p0 (xs : List En) (c : Int) (rwA_z0 : Int)  (hx : xs.length ≤ 200) (he : eC c = 0) (hfl : (fL xs c).length ≤ 200) (rwA_k1 : (eC c != (0 : Int)) = false) (rwA_l : ∀ B : Bd, B.L = [] → LoopOk Try.prog B (rwA_hd xs c).ro (rwA_hd xs c).a (rwA_hd xs c).s (rwA_X 1) (rwA_E 1 xs c rwA_z0 )) : KnownR Try.prog [] 24 [.list (rowA gE xs) xs.length, .val (.int .i64 c)] (.tuple #[(.bool (true)), (.int .i64 ((0 : Int)))]) [] :=
  knownR_eq (v := Value.tuple { toList := [Value.bool true, Value.int IntKind.i64 (0 : Int)] }) (bs := []) (open_resD mix (GOk.add tabF_ok rwA_l) (T := (GTab.add tabF 6 (rwA_hd xs c).ro (rwA_hd xs c).a (rwA_hd xs c).s (rwA_X 1) (rwA_E 1 xs c rwA_z0 ) (by kernel_rfl))) (fuel := 3000) (es := []) (ans := [(0, .outs (Value.tuple #[Value.complex FloatKind.f64 (0 : Nat) (fL xs c).length, Value.int IntKind.i64 (eC c)]) ([(rowA gI (fL xs c), (3 : TypeId))])), (1, .b 0), (2, .loop (rwA_X 1) (rwA_E 1 xs c rwA_z0 )), ]) (log := [LoopRes Try.prog ([] : Vars).length (GTab.add tabF 6 (rwA_hd xs c).ro (rwA_hd xs c).a (rwA_hd xs c).s (rwA_X 1) (rwA_E 1 xs c rwA_z0 ) (by kernel_rfl)) (rwA_hd xs c).ro (rwA_hd xs c).a (rwA_hd xs c).s (rwA_X 1) (rwA_E 1 xs c rwA_z0 ), (eC c != (0 : Int)) = false, (GTab.lookD (tabF) ((22 : Nat)) ([D.list (rowA gE xs) xs.length, D.val (Value.int IntKind.i64 c)])) = some (Value.tuple #[Value.complex FloatKind.f64 (0 : Nat) (fL xs c).length, Value.int IntKind.i64 (eC c)], [(rowA gI (fL xs c), (3 : TypeId))])]) (by kernel_rfl) ⟨(loop_known2 add_eq), rwA_k1, (rfD_at (xs) (c) (xs.length) (by first | rfl | assumption | omega | (simp; done) | (simp_all; done) | (simp_all; omega)) (by first | rfl | assumption | omega | (simp; done) | (simp_all; done) | (simp_all; omega))), trivial⟩ (by kernel_rfl)) (by first | rfl | simp) (by first | rfl | simp [rowA_nil])
set_option maxHeartbeats 8000000 in
theorem rwF (xs : List En) (c : Int) (rwA_z0 : Int)  (hx : xs.length ≤ 200) (he : eC c = 0) (hfl : (fL xs c).length ≤ 200) (rwA_k1 : (eC c != (0 : Int)) = false) (rwA_l : ∀ B : Bd, B.L = [] → LoopOk Try.prog B (rwA_hd xs c).ro (rwA_hd xs c).a (rwA_hd xs c).s (rwA_X 1) (rwA_E 1 xs c rwA_z0 )) : KnownR Try.prog [] 24 [.list (rowA gE xs) xs.length, .val (.int .i64 c)] (.tuple #[(.bool (true)), (.int .i64 ((0 : Int)))]) [] := by
  exact rwF_p0 xs c rwA_z0 hx he hfl rwA_k1 rwA_l

end Go.Proofs.Ythjdoeeefighkaa
