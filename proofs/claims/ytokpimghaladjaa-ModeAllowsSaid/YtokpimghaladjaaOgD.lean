/- Layer 23: ModeAllows. -/
import Derived.Test.YtokpimghaladjaaV23b
import Derived.Test.YtokpimghaladjaaFrL
import Derived.ProofKit
import Derived.IntWalk
namespace Go.Proofs.Ytokpimghaladjaa
open Go Go.RowKit
set_option linter.unusedVariables false
set_option linter.unusedSimpArgs false
set_option linter.unnecessarySimpa false
set_option maxHeartbeats 8000000
set_option maxRecDepth 100000
attribute [local irreducible] alL alE fiV
theorem fpD (n t : Int) (xs : List Int) (hx : xs.length ≤ 20000) : KnownR Try.prog [] 30 [.val (.int .i64 n), .val (.int .i64 t), .list (rowA gI xs) xs.length] (.tuple #[.int .i64 (fiV n t xs), .int .i64 (alE n t)]) ([]) := pFirst n t xs hx
noncomputable def fpD_A (p : Int × Int × List Int × Nat × Unit) : List D := match p with
  | (n, t, xs, nn0, _) => [.val (.int .i64 n), .val (.int .i64 t), .list (rowA gI xs) nn0]
noncomputable def fpD_C (p : Int × Int × List Int × Nat × Unit) : Prop := match p with
  | (n, t, xs, nn0, _) => (nn0 = xs.length) ∧ (xs.length ≤ 20000) ∧ True
noncomputable def fpD_R (p : Int × Int × List Int × Nat × Unit) : Value × Outs := match p with
  | (n, t, xs, nn0, _) => (.tuple #[.int .i64 (fiV n t xs), .int .i64 (alE n t)], [])
theorem fpD_inj : ∀ p q, fpD_C p → fpD_C q → fpD_A p = fpD_A q → fpD_R p = fpD_R q := by
  rintro ⟨n, t, xs, nn0, _⟩ ⟨n', t', xs', nn0', _⟩ _ _ e
  simp only [fpD_A, List.cons.injEq, D.list.injEq, D.val.injEq, D.agg.injEq, Value.int.injEq, Value.bool.injEq, Value.string.injEq, Value.agg.injEq, Array.mk.injEq, and_true, true_and, gI_inj, gB_inj, gI_inj] at e
  simp_all
noncomputable def fpD_k : List D → Option (Value × Outs) := fnP fpD_A fpD_C fpD_R
theorem fpD_n (n t : Int) (xs : List Int) (nn0 : Nat) (hn0 : nn0 = xs.length) (hx : xs.length ≤ 20000) : KnownR Try.prog [] 30 [.val (.int .i64 n), .val (.int .i64 t), .list (rowA gI xs) nn0] (.tuple #[.int .i64 (fiV n t xs), .int .i64 (alE n t)]) ([]) := by
  subst hn0; skip
  exact fpD _ _ _ hx
theorem fpD_ok : ∀ ds v bs, fpD_k ds = some (v, bs) → KnownR Try.prog [] 30 ds v bs := fnP_ok (by
  rintro ⟨n, t, xs, nn0, _⟩ ⟨hn0, hx, _⟩
  exact fpD_n _ _ _ _ hn0 hx)
theorem fpD_at (n t : Int) (xs : List Int) (nn0 : Nat) (hn0 : nn0 = xs.length) (hx : xs.length ≤ 20000) : fpD_k [.val (.int .i64 n), .val (.int .i64 t), .list (rowA gI xs) nn0] = some (.tuple #[.int .i64 (fiV n t xs), .int .i64 (alE n t)], []) := fnP_at (p := (n, t, xs, nn0, ())) fpD_inj ⟨hn0, hx, trivial⟩ rfl rfl
theorem frD (n t : Int) (xs : List Int) (hx : xs.length ≤ 20000) : KnownR Try.prog [] 31 [.val (.int .i64 n), .val (.int .i64 t), .list (rowA gI xs) xs.length] (.tuple #[.int .i64 (fiV n t xs), .int .i64 (alE n t)]) ([]) := rFirst n t xs hx
noncomputable def frD_A (p : Int × Int × List Int × Nat × Unit) : List D := match p with
  | (n, t, xs, nn0, _) => [.val (.int .i64 n), .val (.int .i64 t), .list (rowA gI xs) nn0]
noncomputable def frD_C (p : Int × Int × List Int × Nat × Unit) : Prop := match p with
  | (n, t, xs, nn0, _) => (nn0 = xs.length) ∧ (xs.length ≤ 20000) ∧ True
noncomputable def frD_R (p : Int × Int × List Int × Nat × Unit) : Value × Outs := match p with
  | (n, t, xs, nn0, _) => (.tuple #[.int .i64 (fiV n t xs), .int .i64 (alE n t)], [])
theorem frD_inj : ∀ p q, frD_C p → frD_C q → frD_A p = frD_A q → frD_R p = frD_R q := by
  rintro ⟨n, t, xs, nn0, _⟩ ⟨n', t', xs', nn0', _⟩ _ _ e
  simp only [frD_A, List.cons.injEq, D.list.injEq, D.val.injEq, D.agg.injEq, Value.int.injEq, Value.bool.injEq, Value.string.injEq, Value.agg.injEq, Array.mk.injEq, and_true, true_and, gI_inj, gB_inj, gI_inj] at e
  simp_all
noncomputable def frD_k : List D → Option (Value × Outs) := fnP frD_A frD_C frD_R
theorem frD_n (n t : Int) (xs : List Int) (nn0 : Nat) (hn0 : nn0 = xs.length) (hx : xs.length ≤ 20000) : KnownR Try.prog [] 31 [.val (.int .i64 n), .val (.int .i64 t), .list (rowA gI xs) nn0] (.tuple #[.int .i64 (fiV n t xs), .int .i64 (alE n t)]) ([]) := by
  subst hn0; skip
  exact frD _ _ _ hx
theorem frD_ok : ∀ ds v bs, frD_k ds = some (v, bs) → KnownR Try.prog [] 31 ds v bs := fnP_ok (by
  rintro ⟨n, t, xs, nn0, _⟩ ⟨hn0, hx, _⟩
  exact frD_n _ _ _ _ hn0 hx)
theorem frD_at (n t : Int) (xs : List Int) (nn0 : Nat) (hn0 : nn0 = xs.length) (hx : xs.length ≤ 20000) : frD_k [.val (.int .i64 n), .val (.int .i64 t), .list (rowA gI xs) nn0] = some (.tuple #[.int .i64 (fiV n t xs), .int .i64 (alE n t)], []) := fnP_at (p := (n, t, xs, nn0, ())) frD_inj ⟨hn0, hx, trivial⟩ rfl rfl
theorem owD (xs : List Int) (hl : xs.length ≤ 1010) : KnownR Try.prog [] 27 [.list (rowA gI xs) xs.length] (.complex .f64 0 xs.length) ([(rowA gI xs, 3)]) := owI xs hl
noncomputable def owD_A (p : List Int × Nat × Unit) : List D := match p with
  | (xs, nn0, _) => [.list (rowA gI xs) nn0]
noncomputable def owD_C (p : List Int × Nat × Unit) : Prop := match p with
  | (xs, nn0, _) => (nn0 = xs.length) ∧ (xs.length ≤ 1010) ∧ True
noncomputable def owD_R (p : List Int × Nat × Unit) : Value × Outs := match p with
  | (xs, nn0, _) => (.complex .f64 0 xs.length, [(rowA gI xs, 3)])
theorem owD_inj : ∀ p q, owD_C p → owD_C q → owD_A p = owD_A q → owD_R p = owD_R q := by
  rintro ⟨xs, nn0, _⟩ ⟨xs', nn0', _⟩ _ _ e
  simp only [owD_A, List.cons.injEq, D.list.injEq, D.val.injEq, D.agg.injEq, Value.int.injEq, Value.bool.injEq, Value.string.injEq, Value.agg.injEq, Array.mk.injEq, and_true, true_and, gI_inj, gB_inj, gI_inj] at e
  simp_all
noncomputable def owD_k : List D → Option (Value × Outs) := fnP owD_A owD_C owD_R
theorem owD_n (xs : List Int) (nn0 : Nat) (hn0 : nn0 = xs.length) (hl : xs.length ≤ 1010) : KnownR Try.prog [] 27 [.list (rowA gI xs) nn0] (.complex .f64 0 xs.length) ([(rowA gI xs, 3)]) := by
  subst hn0; skip
  exact owD _ hl
theorem owD_ok : ∀ ds v bs, owD_k ds = some (v, bs) → KnownR Try.prog [] 27 ds v bs := fnP_ok (by
  rintro ⟨xs, nn0, _⟩ ⟨hn0, hl, _⟩
  exact owD_n _ _ hn0 hl)
theorem owD_at (xs : List Int) (nn0 : Nat) (hn0 : nn0 = xs.length) (hl : xs.length ≤ 1010) : owD_k [.list (rowA gI xs) nn0] = some (.complex .f64 0 xs.length, [(rowA gI xs, 3)]) := fnP_at (p := (xs, nn0, ())) owD_inj ⟨hn0, hl, trivial⟩ rfl rfl
theorem sqD (xs ys : List Int) (hx : xs.length ≤ 20000) (hxy : xs = ys) : KnownR Try.prog [] 26 [.list (rowA gI xs) xs.length, .list (rowA gI ys) ys.length] (.bool true) ([]) := same_q xs ys hx hxy
noncomputable def sqD_A (p : List Int × List Int × Nat × Nat × Unit) : List D := match p with
  | (xs, ys, nn0, nn1, _) => [.list (rowA gI xs) nn0, .list (rowA gI ys) nn1]
noncomputable def sqD_C (p : List Int × List Int × Nat × Nat × Unit) : Prop := match p with
  | (xs, ys, nn0, nn1, _) => (nn0 = xs.length) ∧ (nn1 = ys.length) ∧ (xs.length ≤ 20000) ∧ (xs = ys) ∧ True
noncomputable def sqD_R (p : List Int × List Int × Nat × Nat × Unit) : Value × Outs := match p with
  | (xs, ys, nn0, nn1, _) => (.bool true, [])
theorem sqD_inj : ∀ p q, sqD_C p → sqD_C q → sqD_A p = sqD_A q → sqD_R p = sqD_R q := by
  rintro ⟨xs, ys, nn0, nn1, _⟩ ⟨xs', ys', nn0', nn1', _⟩ _ _ e
  simp only [sqD_A, List.cons.injEq, D.list.injEq, D.val.injEq, D.agg.injEq, Value.int.injEq, Value.bool.injEq, Value.string.injEq, Value.agg.injEq, Array.mk.injEq, and_true, true_and, gI_inj, gB_inj, gI_inj] at e
  simp_all
noncomputable def sqD_k : List D → Option (Value × Outs) := fnP sqD_A sqD_C sqD_R
theorem sqD_n (xs ys : List Int) (nn0 : Nat) (nn1 : Nat) (hn0 : nn0 = xs.length) (hn1 : nn1 = ys.length) (hx : xs.length ≤ 20000) (hxy : xs = ys) : KnownR Try.prog [] 26 [.list (rowA gI xs) nn0, .list (rowA gI ys) nn1] (.bool true) ([]) := by
  subst hn0; subst hn1; skip
  exact sqD _ _ hx hxy
theorem sqD_ok : ∀ ds v bs, sqD_k ds = some (v, bs) → KnownR Try.prog [] 26 ds v bs := fnP_ok (by
  rintro ⟨xs, ys, nn0, nn1, _⟩ ⟨hn0, hn1, hx, hxy, _⟩
  exact sqD_n _ _ _ _ hn0 hn1 hx hxy)
theorem sqD_at (xs ys : List Int) (nn0 : Nat) (nn1 : Nat) (hn0 : nn0 = xs.length) (hn1 : nn1 = ys.length) (hx : xs.length ≤ 20000) (hxy : xs = ys) : sqD_k [.list (rowA gI xs) nn0, .list (rowA gI ys) nn1] = some (.bool true, []) := fnP_at (p := (xs, ys, nn0, nn1, ())) sqD_inj ⟨hn0, hn1, hx, hxy, trivial⟩ rfl rfl
noncomputable def tabW : GTab := (GTab.fnD 28 alD_k (GTab.fnD 29 arD_k (GTab.fnD 30 fpD_k (GTab.fnD 31 frD_k (GTab.fnD 27 owD_k (GTab.fnD 26 sqD_k (GTab.fn1 11 (fun l => match l with | [] => some (.bool true) | _ => none) GTab.none)))))))
theorem tabW_ok : GOk Try.prog [] tabW := (GOk.fnD alD_ok (GOk.fnD arD_ok (GOk.fnD fpD_ok (GOk.fnD frD_ok (GOk.fnD owD_ok (GOk.fnD sqD_ok (GOk.fn1 (known0 knModeKnown_e0) GOk.none)))))))
theorem lawA_p0 (n t : Int) (xs : List Int) (hx : (xs.length : Int) ≤ 40) (hl : (alL n t).length ≤ 2) (hq0 : (decide ((↑xs.length : Int) > (40 : Int))) = false) (hq1 : (alE n t == alE n t) = true) (hq2 : (fiV n t xs == fiV n t xs) = true) : KnownR Try.prog [] 4 [.val (.int .i64 n), .val (.int .i64 t), .list (rowA gI xs) xs.length] (.bool (true)) [] :=
  knownR_eq (v := Value.bool true) (bs := []) (open_resD mix tabW_ok (T := tabW) (fuel := 3000) (es := []) (ans := [(0, .b 0), (1, .outs (Value.complex FloatKind.f64 (0 : Nat) xs.length) ([(rowA gI xs, (3 : TypeId))])), (2, .outs (Value.tuple #[Value.complex FloatKind.f64 (0 : Nat) (alL n t).length, Value.int IntKind.i64 (alE n t)]) ([(rowA gI (alL n t), (3 : TypeId))])), (3, .outs (Value.tuple #[Value.complex FloatKind.f64 (0 : Nat) (alL n t).length, Value.int IntKind.i64 (alE n t)]) ([(rowA gI (alL n t), (3 : TypeId))])), (4, .outs (Value.tuple #[Value.int IntKind.i64 (fiV n t xs), Value.int IntKind.i64 (alE n t)]) ([])), (5, .outs (Value.tuple #[Value.int IntKind.i64 (fiV n t xs), Value.int IntKind.i64 (alE n t)]) ([])), (6, .outs (Value.bool true) ([])), (11, .b 1), (15, .b 1), (19, .b 1), (22, .outs (Value.bool true) ([]))]) (log := [(GTab.lookD (tabW) ((26 : Nat)) ([D.list (rowA gI xs) xs.length, D.list (rowA gI xs) xs.length])) = some (Value.bool true, []), (alE n t == alE n t) = true, (fiV n t xs == fiV n t xs) = true, (alE n t == alE n t) = true, (GTab.lookD (tabW) ((26 : Nat)) ([D.list (rowA gI (alL n t)) (alL n t).length, D.list (rowA gI (alL n t)) (alL n t).length])) = some (Value.bool true, []), (GTab.lookD (tabW) ((31 : Nat)) ([D.val (Value.int IntKind.i64 n), D.val (Value.int IntKind.i64 t), D.list (rowA gI xs) xs.length])) = some (Value.tuple #[Value.int IntKind.i64 (fiV n t xs), Value.int IntKind.i64 (alE n t)], []), (GTab.lookD (tabW) ((30 : Nat)) ([D.val (Value.int IntKind.i64 n), D.val (Value.int IntKind.i64 t), D.list (rowA gI xs) xs.length])) = some (Value.tuple #[Value.int IntKind.i64 (fiV n t xs), Value.int IntKind.i64 (alE n t)], []), (GTab.lookD (tabW) ((29 : Nat)) ([D.val (Value.int IntKind.i64 n), D.val (Value.int IntKind.i64 t)])) = some (Value.tuple #[Value.complex FloatKind.f64 (0 : Nat) (alL n t).length, Value.int IntKind.i64 (alE n t)], [(rowA gI (alL n t), (3 : TypeId))]), (GTab.lookD (tabW) ((28 : Nat)) ([D.val (Value.int IntKind.i64 n), D.val (Value.int IntKind.i64 t)])) = some (Value.tuple #[Value.complex FloatKind.f64 (0 : Nat) (alL n t).length, Value.int IntKind.i64 (alE n t)], [(rowA gI (alL n t), (3 : TypeId))]), (GTab.lookD (tabW) ((27 : Nat)) ([D.list (rowA gI xs) xs.length])) = some (Value.complex FloatKind.f64 (0 : Nat) xs.length, [(rowA gI xs, (3 : TypeId))]), (decide ((↑xs.length : Int) > (40 : Int))) = false]) (by kernel_rfl) ⟨(sqD_at (xs) (xs) (xs.length) (xs.length) (by first | rfl | assumption | omega | (simp; done) | (simp_all; done) | (simp_all; omega)) (by first | rfl | assumption | omega | (simp; done) | (simp_all; done) | (simp_all; omega)) (by first | rfl | assumption | omega | (simp; done) | (simp_all; done) | (simp_all; omega)) (by first | rfl | assumption | omega | (simp; done) | (simp_all; done) | (simp_all; omega))), hq1, hq2, hq1, (sqD_at (alL n t) (alL n t) ((alL n t).length) ((alL n t).length) (by first | rfl | assumption | omega | (simp; done) | (simp_all; done) | (simp_all; omega)) (by first | rfl | assumption | omega | (simp; done) | (simp_all; done) | (simp_all; omega)) (by first | rfl | assumption | omega | (simp; done) | (simp_all; done) | (simp_all; omega)) (by first | rfl | assumption | omega | (simp; done) | (simp_all; done) | (simp_all; omega))), (frD_at (n) (t) (xs) (xs.length) (by first | rfl | assumption | omega | (simp; done) | (simp_all; done) | (simp_all; omega)) (by first | rfl | assumption | omega | (simp; done) | (simp_all; done) | (simp_all; omega))), (fpD_at (n) (t) (xs) (xs.length) (by first | rfl | assumption | omega | (simp; done) | (simp_all; done) | (simp_all; omega)) (by first | rfl | assumption | omega | (simp; done) | (simp_all; done) | (simp_all; omega))), (arD_at (n) (t)), (alD_at (n) (t)), (owD_at (xs) (xs.length) (by first | rfl | assumption | omega | (simp; done) | (simp_all; done) | (simp_all; omega)) (by first | rfl | assumption | omega | (simp; done) | (simp_all; done) | (simp_all; omega))), hq0, trivial⟩ (by kernel_rfl)) (by first | rfl | (simp; done) | (simp_all; done)) (by first | rfl | (simp [rowA_nil]; done) | (simp only [rowA_eq]; rfl) | (simp_all [rowA_nil]; done))
set_option maxHeartbeats 8000000 in
theorem lawA (n t : Int) (xs : List Int) (hx : (xs.length : Int) ≤ 40) (hl : (alL n t).length ≤ 2) : KnownR Try.prog [] 4 [.val (.int .i64 n), .val (.int .i64 t), .list (rowA gI xs) xs.length] (.bool (true)) [] := by
  have hq0 : (decide ((↑xs.length : Int) > (40 : Int))) = false := by
    rcases Bool.eq_false_or_eq_true (decide ((↑xs.length : Int) > (40 : Int))) with h | h
    · exfalso; (first | (simp_all only [Bool.and_eq_true, Bool.not_eq_true', Bool.false_eq_true, Bool.true_eq_false, reduceCtorEq]; done) | (simp only [sx, sy, eq_self, ne_eq, IntKind.wrap_i64, wrapU64, Int.reduceLT] at * <;> first | contradiction | omega) | omega | ((try simp only [sx, sy, eq_self, ne_eq, IntKind.wrap_i64, wrapU64, Int.reduceLT] at *) <;> omega) | (simp_all; done))
    · exact h
  have hq1 : (alE n t == alE n t) = true := by
    rcases Bool.eq_false_or_eq_true (alE n t == alE n t) with h | h
    · exact h
    · exfalso; (first | (simp_all only [Bool.and_eq_true, Bool.not_eq_true', Bool.false_eq_true, Bool.true_eq_false, reduceCtorEq]; done) | (simp only [sx, sy, eq_self, ne_eq, IntKind.wrap_i64, wrapU64, Int.reduceLT] at * <;> first | contradiction | omega) | omega | ((try simp only [sx, sy, eq_self, ne_eq, IntKind.wrap_i64, wrapU64, Int.reduceLT] at *) <;> omega) | (simp_all; done))
  have hq2 : (fiV n t xs == fiV n t xs) = true := by
    rcases Bool.eq_false_or_eq_true (fiV n t xs == fiV n t xs) with h | h
    · exact h
    · exfalso; (first | (simp_all only [Bool.and_eq_true, Bool.not_eq_true', Bool.false_eq_true, Bool.true_eq_false, reduceCtorEq]; done) | (simp only [sx, sy, eq_self, ne_eq, IntKind.wrap_i64, wrapU64, Int.reduceLT] at * <;> first | contradiction | omega) | omega | ((try simp only [sx, sy, eq_self, ne_eq, IntKind.wrap_i64, wrapU64, Int.reduceLT] at *) <;> omega) | (simp_all; done))
  exact lawA_p0 n t xs hx hl hq0 hq1 hq2

theorem lawE_p0 (n t : Int) (xs : List Int) (hx : ¬ (xs.length : Int) ≤ 40) (hq0 : (decide ((↑xs.length : Int) > (40 : Int))) = true) : KnownR Try.prog [] 4 [.val (.int .i64 n), .val (.int .i64 t), .list (rowA gI xs) xs.length] (.bool (true)) [] :=
  knownR_eq (v := Value.bool true) (bs := []) (open_resD mix tabW_ok (T := tabW) (fuel := 3000) (es := []) (ans := [(0, .b 1)]) (log := [(decide ((↑xs.length : Int) > (40 : Int))) = true]) (by kernel_rfl) ⟨hq0, trivial⟩ (by kernel_rfl)) (by first | rfl | (simp; done) | (simp_all; done)) (by first | rfl | (simp [rowA_nil]; done) | (simp only [rowA_eq]; rfl) | (simp_all [rowA_nil]; done))
set_option maxHeartbeats 8000000 in
theorem lawE (n t : Int) (xs : List Int) (hx : ¬ (xs.length : Int) ≤ 40) : KnownR Try.prog [] 4 [.val (.int .i64 n), .val (.int .i64 t), .list (rowA gI xs) xs.length] (.bool (true)) [] := by
  have hq0 : (decide ((↑xs.length : Int) > (40 : Int))) = true := by
    rcases Bool.eq_false_or_eq_true (decide ((↑xs.length : Int) > (40 : Int))) with h | h
    · exact h
    · exfalso; (first | (simp_all only [Bool.and_eq_true, Bool.not_eq_true', Bool.false_eq_true, Bool.true_eq_false, reduceCtorEq]; done) | (simp only [sx, sy, eq_self, ne_eq, IntKind.wrap_i64, wrapU64, Int.reduceLT] at * <;> first | contradiction | omega) | omega | ((try simp only [sx, sy, eq_self, ne_eq, IntKind.wrap_i64, wrapU64, Int.reduceLT] at *) <;> omega) | (simp_all; done))
  exact lawE_p0 n t xs hx hq0

def In64 (n : Int) : Prop := -9223372036854775808 ≤ n ∧ n ≤ 9223372036854775807
theorem modeAllows_true (n t : Int) (A : Option Addr) (len cap : Nat) (xs : List Int) (w : World) (_ : In64 n) (_ : In64 t) (hl : xs.length = len) (hi : ListIn w (rowA gI xs) len A cap) (hw : ∀ m ∈ xs, rowW gI m) :
    Calls Try.prog 4 #[.int .i64 n, .int .i64 t, .slice A len cap] w fun e w' => e = .returned (.bool true) ∧ Below w.heap.size w w' := by
  subst hl
  by_cases h : (xs.length : Int) ≤ 40
  · exact knownR_law (lawA n t xs h (alL_len n t)) (LaidL.nil w) (.cons (.val rfl) (.cons (.val rfl) (.cons (.list hi) .nil)))
  · exact knownR_law (lawE n t xs h) (LaidL.nil w) (.cons (.val rfl) (.cons (.val rfl) (.cons (.list hi) .nil)))
end Go.Proofs.Ytokpimghaladjaa
