/- Layer 12: SensorReads. -/
import Derived.Test.YthjdoeeefighkaaNS
namespace Go.Proofs.Ythjdoeeefighkaa
open Go Go.RowKit
set_option linter.unusedVariables false
set_option linter.unusedSimpArgs false
set_option linter.unnecessarySimpa false
set_option maxHeartbeats 8000000
set_option maxRecDepth 100000
theorem rpD (gs : List Int) (p t : Int) (b : Bool) (hx : gs.length ≤ 70) : KnownR Try.prog [] 12 [.list (rowA gI gs) gs.length, .val (.int .i64 p), .val (.int .i64 t), .val (.bool b)] (.tuple #[.agg #[.bool (srd_c0 gs p t b), .int .i64 (srd_c1 gs p t b), .int .i64 (srd_c2 gs p t b)], .int .i64 (srd_c3 gs p t b)]) ([]) := read_p gs p t b hx
noncomputable def rpD_A (p : List Int × Int × Int × Bool × Nat × Unit) : List D := match p with
  | (gs, p, t, b, nn0, _) => [.list (rowA gI gs) nn0, .val (.int .i64 p), .val (.int .i64 t), .val (.bool b)]
noncomputable def rpD_C (p : List Int × Int × Int × Bool × Nat × Unit) : Prop := match p with
  | (gs, p, t, b, nn0, _) => (nn0 = gs.length) ∧ (gs.length ≤ 70) ∧ True
noncomputable def rpD_R (p : List Int × Int × Int × Bool × Nat × Unit) : Value × Outs := match p with
  | (gs, p, t, b, nn0, _) => (.tuple #[.agg #[.bool (srd_c0 gs p t b), .int .i64 (srd_c1 gs p t b), .int .i64 (srd_c2 gs p t b)], .int .i64 (srd_c3 gs p t b)], [])
theorem rpD_inj : ∀ p q, rpD_C p → rpD_C q → rpD_A p = rpD_A q → rpD_R p = rpD_R q := by
  rintro ⟨gs, p, t, b, nn0, _⟩ ⟨gs', p', t', b', nn0', _⟩ _ _ e
  simp only [rpD_A, List.cons.injEq, D.list.injEq, D.val.injEq, D.agg.injEq, Value.int.injEq, Value.bool.injEq, Value.string.injEq, Value.agg.injEq, Array.mk.injEq, and_true, true_and, gI_inj, gB_inj] at e
  simp_all
noncomputable def rpD_k : List D → Option (Value × Outs) := fnP rpD_A rpD_C rpD_R
theorem rpD_n (gs : List Int) (p t : Int) (b : Bool) (nn0 : Nat) (hn0 : nn0 = gs.length) (hx : gs.length ≤ 70) : KnownR Try.prog [] 12 [.list (rowA gI gs) nn0, .val (.int .i64 p), .val (.int .i64 t), .val (.bool b)] (.tuple #[.agg #[.bool (srd_c0 gs p t b), .int .i64 (srd_c1 gs p t b), .int .i64 (srd_c2 gs p t b)], .int .i64 (srd_c3 gs p t b)]) ([]) := by
  subst hn0; skip
  exact rpD _ _ _ _ hx
theorem rpD_ok : ∀ ds v bs, rpD_k ds = some (v, bs) → KnownR Try.prog [] 12 ds v bs := fnP_ok (by
  rintro ⟨gs, p, t, b, nn0, _⟩ ⟨hn0, hx, _⟩
  exact rpD_n _ _ _ _ _ hn0 hx)
theorem rpD_at (gs : List Int) (p t : Int) (b : Bool) (nn0 : Nat) (hn0 : nn0 = gs.length) (hx : gs.length ≤ 70) : rpD_k [.list (rowA gI gs) nn0, .val (.int .i64 p), .val (.int .i64 t), .val (.bool b)] = some (.tuple #[.agg #[.bool (srd_c0 gs p t b), .int .i64 (srd_c1 gs p t b), .int .i64 (srd_c2 gs p t b)], .int .i64 (srd_c3 gs p t b)], []) := fnP_at (p := (gs, p, t, b, nn0, ())) rpD_inj ⟨hn0, hx, trivial⟩ rfl rfl
theorem rrD (gs : List Int) (p t : Int) (b : Bool) (hx : gs.length ≤ 70) : KnownR Try.prog [] 13 [.list (rowA gI gs) gs.length, .val (.int .i64 p), .val (.int .i64 t), .val (.bool b)] (.tuple #[.agg #[.bool (srd_c0 gs p t b), .int .i64 (srd_c1 gs p t b), .int .i64 (srd_c2 gs p t b)], .int .i64 (srd_c3 gs p t b)]) ([]) := read_r gs p t b hx
noncomputable def rrD_A (p : List Int × Int × Int × Bool × Nat × Unit) : List D := match p with
  | (gs, p, t, b, nn0, _) => [.list (rowA gI gs) nn0, .val (.int .i64 p), .val (.int .i64 t), .val (.bool b)]
noncomputable def rrD_C (p : List Int × Int × Int × Bool × Nat × Unit) : Prop := match p with
  | (gs, p, t, b, nn0, _) => (nn0 = gs.length) ∧ (gs.length ≤ 70) ∧ True
noncomputable def rrD_R (p : List Int × Int × Int × Bool × Nat × Unit) : Value × Outs := match p with
  | (gs, p, t, b, nn0, _) => (.tuple #[.agg #[.bool (srd_c0 gs p t b), .int .i64 (srd_c1 gs p t b), .int .i64 (srd_c2 gs p t b)], .int .i64 (srd_c3 gs p t b)], [])
theorem rrD_inj : ∀ p q, rrD_C p → rrD_C q → rrD_A p = rrD_A q → rrD_R p = rrD_R q := by
  rintro ⟨gs, p, t, b, nn0, _⟩ ⟨gs', p', t', b', nn0', _⟩ _ _ e
  simp only [rrD_A, List.cons.injEq, D.list.injEq, D.val.injEq, D.agg.injEq, Value.int.injEq, Value.bool.injEq, Value.string.injEq, Value.agg.injEq, Array.mk.injEq, and_true, true_and, gI_inj, gB_inj] at e
  simp_all
noncomputable def rrD_k : List D → Option (Value × Outs) := fnP rrD_A rrD_C rrD_R
theorem rrD_n (gs : List Int) (p t : Int) (b : Bool) (nn0 : Nat) (hn0 : nn0 = gs.length) (hx : gs.length ≤ 70) : KnownR Try.prog [] 13 [.list (rowA gI gs) nn0, .val (.int .i64 p), .val (.int .i64 t), .val (.bool b)] (.tuple #[.agg #[.bool (srd_c0 gs p t b), .int .i64 (srd_c1 gs p t b), .int .i64 (srd_c2 gs p t b)], .int .i64 (srd_c3 gs p t b)]) ([]) := by
  subst hn0; skip
  exact rrD _ _ _ _ hx
theorem rrD_ok : ∀ ds v bs, rrD_k ds = some (v, bs) → KnownR Try.prog [] 13 ds v bs := fnP_ok (by
  rintro ⟨gs, p, t, b, nn0, _⟩ ⟨hn0, hx, _⟩
  exact rrD_n _ _ _ _ _ hn0 hx)
theorem rrD_at (gs : List Int) (p t : Int) (b : Bool) (nn0 : Nat) (hn0 : nn0 = gs.length) (hx : gs.length ≤ 70) : rrD_k [.list (rowA gI gs) nn0, .val (.int .i64 p), .val (.int .i64 t), .val (.bool b)] = some (.tuple #[.agg #[.bool (srd_c0 gs p t b), .int .i64 (srd_c1 gs p t b), .int .i64 (srd_c2 gs p t b)], .int .i64 (srd_c3 gs p t b)], []) := fnP_at (p := (gs, p, t, b, nn0, ())) rrD_inj ⟨hn0, hx, trivial⟩ rfl rfl
theorem owD (xs : List Int) (hl : xs.length ≤ 10010) : KnownR Try.prog [] 11 [.list (rowA gI xs) xs.length] (.complex .f64 0 xs.length) ([(rowA gI xs, 3)]) := owI xs hl
noncomputable def owD_A (p : List Int × Nat × Unit) : List D := match p with
  | (xs, nn0, _) => [.list (rowA gI xs) nn0]
noncomputable def owD_C (p : List Int × Nat × Unit) : Prop := match p with
  | (xs, nn0, _) => (nn0 = xs.length) ∧ (xs.length ≤ 10010) ∧ True
noncomputable def owD_R (p : List Int × Nat × Unit) : Value × Outs := match p with
  | (xs, nn0, _) => (.complex .f64 0 xs.length, [(rowA gI xs, 3)])
theorem owD_inj : ∀ p q, owD_C p → owD_C q → owD_A p = owD_A q → owD_R p = owD_R q := by
  rintro ⟨xs, nn0, _⟩ ⟨xs', nn0', _⟩ _ _ e
  simp only [owD_A, List.cons.injEq, D.list.injEq, D.val.injEq, D.agg.injEq, Value.int.injEq, Value.bool.injEq, Value.string.injEq, Value.agg.injEq, Array.mk.injEq, and_true, true_and, gI_inj, gB_inj] at e
  simp_all
noncomputable def owD_k : List D → Option (Value × Outs) := fnP owD_A owD_C owD_R
theorem owD_n (xs : List Int) (nn0 : Nat) (hn0 : nn0 = xs.length) (hl : xs.length ≤ 10010) : KnownR Try.prog [] 11 [.list (rowA gI xs) nn0] (.complex .f64 0 xs.length) ([(rowA gI xs, 3)]) := by
  subst hn0; skip
  exact owD _ hl
theorem owD_ok : ∀ ds v bs, owD_k ds = some (v, bs) → KnownR Try.prog [] 11 ds v bs := fnP_ok (by
  rintro ⟨xs, nn0, _⟩ ⟨hn0, hl, _⟩
  exact owD_n _ _ hn0 hl)
theorem owD_at (xs : List Int) (nn0 : Nat) (hn0 : nn0 = xs.length) (hl : xs.length ≤ 10010) : owD_k [.list (rowA gI xs) nn0] = some (.complex .f64 0 xs.length, [(rowA gI xs, 3)]) := fnP_at (p := (xs, nn0, ())) owD_inj ⟨hn0, hl, trivial⟩ rfl rfl
theorem sqD (xs ys : List Int) (hx : xs.length ≤ 20000) (hxy : xs = ys) : KnownR Try.prog [] 16 [.list (rowA gI xs) xs.length, .list (rowA gI ys) ys.length] (.bool true) ([]) := same_q xs ys hx hxy
noncomputable def sqD_A (p : List Int × List Int × Nat × Nat × Unit) : List D := match p with
  | (xs, ys, nn0, nn1, _) => [.list (rowA gI xs) nn0, .list (rowA gI ys) nn1]
noncomputable def sqD_C (p : List Int × List Int × Nat × Nat × Unit) : Prop := match p with
  | (xs, ys, nn0, nn1, _) => (nn0 = xs.length) ∧ (nn1 = ys.length) ∧ (xs.length ≤ 20000) ∧ (xs = ys) ∧ True
noncomputable def sqD_R (p : List Int × List Int × Nat × Nat × Unit) : Value × Outs := match p with
  | (xs, ys, nn0, nn1, _) => (.bool true, [])
theorem sqD_inj : ∀ p q, sqD_C p → sqD_C q → sqD_A p = sqD_A q → sqD_R p = sqD_R q := by
  rintro ⟨xs, ys, nn0, nn1, _⟩ ⟨xs', ys', nn0', nn1', _⟩ _ _ e
  simp only [sqD_A, List.cons.injEq, D.list.injEq, D.val.injEq, D.agg.injEq, Value.int.injEq, Value.bool.injEq, Value.string.injEq, Value.agg.injEq, Array.mk.injEq, and_true, true_and, gI_inj, gB_inj] at e
  simp_all
noncomputable def sqD_k : List D → Option (Value × Outs) := fnP sqD_A sqD_C sqD_R
theorem sqD_n (xs ys : List Int) (nn0 : Nat) (nn1 : Nat) (hn0 : nn0 = xs.length) (hn1 : nn1 = ys.length) (hx : xs.length ≤ 20000) (hxy : xs = ys) : KnownR Try.prog [] 16 [.list (rowA gI xs) nn0, .list (rowA gI ys) nn1] (.bool true) ([]) := by
  subst hn0; subst hn1; skip
  exact sqD _ _ hx hxy
theorem sqD_ok : ∀ ds v bs, sqD_k ds = some (v, bs) → KnownR Try.prog [] 16 ds v bs := fnP_ok (by
  rintro ⟨xs, ys, nn0, nn1, _⟩ ⟨hn0, hn1, hx, hxy, _⟩
  exact sqD_n _ _ _ _ hn0 hn1 hx hxy)
theorem sqD_at (xs ys : List Int) (nn0 : Nat) (nn1 : Nat) (hn0 : nn0 = xs.length) (hn1 : nn1 = ys.length) (hx : xs.length ≤ 20000) (hxy : xs = ys) : sqD_k [.list (rowA gI xs) nn0, .list (rowA gI ys) nn1] = some (.bool true, []) := fnP_at (p := (xs, ys, nn0, nn1, ())) sqD_inj ⟨hn0, hn1, hx, hxy, trivial⟩ rfl rfl
theorem ckP (o : Bool) (f z : Int) : Known Try.prog [] 14 [.agg #[.bool o, .int .i64 f, .int .i64 z]] (.int .i64 (pck_c0 o f z)) := pck o f z
noncomputable def ckP_k : List Value → Option Value
  | [.agg ⟨[.bool o, .int .i64 f, .int .i64 z]⟩] => some (.int .i64 (pck_c0 o f z))
  | _ => none
theorem ckP_ok : ∀ args v, ckP_k args = some v → Known Try.prog [] 14 args v := by
  intro args v h
  unfold ckP_k at h
  split at h
  · injection h with h; subst h; exact ckP _ _ _
  · cases h
theorem ckR (o : Bool) (f z : Int) : Known Try.prog [] 15 [.agg #[.bool o, .int .i64 f, .int .i64 z]] (.int .i64 (pck_c0 o f z)) := rck o f z
noncomputable def ckR_k : List Value → Option Value
  | [.agg ⟨[.bool o, .int .i64 f, .int .i64 z]⟩] => some (.int .i64 (pck_c0 o f z))
  | _ => none
theorem ckR_ok : ∀ args v, ckR_k args = some v → Known Try.prog [] 15 args v := by
  intro args v h
  unfold ckR_k at h
  split at h
  · injection h with h; subst h; exact ckR _ _ _
  · cases h
attribute [local irreducible] srd_c0 srd_c1 srd_c2 srd_c3 pck_c0
noncomputable def tabL : GTab := (GTab.fnD 12 rpD_k (GTab.fnD 13 rrD_k (GTab.fnD 11 owD_k (GTab.fnD 16 sqD_k (GTab.fn1 14 ckP_k (GTab.fn1 15 ckR_k (GTab.fn1 10 (fun l => match l with | [] => some (.bool true) | _ => none) GTab.none)))))))
theorem tabL_ok : GOk Try.prog [] tabL := (GOk.fnD rpD_ok (GOk.fnD rrD_ok (GOk.fnD owD_ok (GOk.fnD sqD_ok (GOk.fn1 ckP_ok (GOk.fn1 ckR_ok (GOk.fn1 (known0 knSensorKnown_e0) GOk.none)))))))
noncomputable def lawR_b1 (o : Bool) (f z : Int) (gs : List Int) (p t : Int) (b : Bool) : Bool := srd_c0 gs p t b == srd_c0 gs p t b && (srd_c1 gs p t b == srd_c1 gs p t b && srd_c2 gs p t b == srd_c2 gs p t b)
theorem lawR_p0 (o : Bool) (f z : Int) (gs : List Int) (p t : Int) (b : Bool)  (hq0 : (decide ((↑gs.length : Int) > (70 : Int))) = true) : KnownR Try.prog [] 3 [.val (.agg #[.bool o, .int .i64 f, .int .i64 z]), .list (rowA gI gs) gs.length, .val (.int .i64 p), .val (.int .i64 t), .val (.bool b)] (.bool (true)) [] :=
  knownR_eq (v := Value.bool true) (bs := []) (open_resD mix tabL_ok (T := tabL) (fuel := 3000) (es := []) (ans := [(0, .b 1)]) (log := [(decide ((↑gs.length : Int) > (70 : Int))) = true]) (by kernel_rfl) ⟨hq0, trivial⟩ (by kernel_rfl)) (by first | rfl | (simp; done) | (simp_all; done)) (by first | rfl | (simp [rowA_nil]; done) | (simp only [rowA_eq]; rfl) | (simp_all [rowA_nil]; done))
theorem lawR_p1 (o : Bool) (f z : Int) (gs : List Int) (p t : Int) (b : Bool)  (hq0 : (decide ((↑gs.length : Int) > (70 : Int))) = false) (hq1 : (lawR_b1 o f z gs p t b) = true) (hq2 : (srd_c3 gs p t b == srd_c3 gs p t b) = true) (hq3 : (pck_c0 o f z == pck_c0 o f z) = true) : KnownR Try.prog [] 3 [.val (.agg #[.bool o, .int .i64 f, .int .i64 z]), .list (rowA gI gs) gs.length, .val (.int .i64 p), .val (.int .i64 t), .val (.bool b)] (.bool (true)) [] :=
  knownR_eq (v := Value.bool true) (bs := []) (open_resD mix tabL_ok (T := tabL) (fuel := 3000) (es := []) (ans := [(0, .b 0), (1, .outs (Value.complex FloatKind.f64 (0 : Nat) gs.length) ([(rowA gI gs, (3 : TypeId))])), (2, .outs (Value.tuple #[Value.agg #[Value.bool (srd_c0 gs p t b), Value.int IntKind.i64 (srd_c1 gs p t b), Value.int IntKind.i64 (srd_c2 gs p t b)], Value.int IntKind.i64 (srd_c3 gs p t b)]) ([])), (3, .outs (Value.tuple #[Value.agg #[Value.bool (srd_c0 gs p t b), Value.int IntKind.i64 (srd_c1 gs p t b), Value.int IntKind.i64 (srd_c2 gs p t b)], Value.int IntKind.i64 (srd_c3 gs p t b)]) ([])), (4, .b 1), (8, .b 1), (16, .b 1), (19, .outs (Value.bool true) ([]))]) (log := [(GTab.lookD (tabL) ((16 : Nat)) ([D.list (rowA gI gs) gs.length, D.list (rowA gI gs) gs.length])) = some (Value.bool true, []), (pck_c0 o f z == pck_c0 o f z) = true, (srd_c3 gs p t b == srd_c3 gs p t b) = true, (lawR_b1 o f z gs p t b) = true, (GTab.lookD (tabL) ((13 : Nat)) ([D.list (rowA gI gs) gs.length, D.val (Value.int IntKind.i64 p), D.val (Value.int IntKind.i64 t), D.val (Value.bool b)])) = some (Value.tuple #[Value.agg #[Value.bool (srd_c0 gs p t b), Value.int IntKind.i64 (srd_c1 gs p t b), Value.int IntKind.i64 (srd_c2 gs p t b)], Value.int IntKind.i64 (srd_c3 gs p t b)], []), (GTab.lookD (tabL) ((12 : Nat)) ([D.list (rowA gI gs) gs.length, D.val (Value.int IntKind.i64 p), D.val (Value.int IntKind.i64 t), D.val (Value.bool b)])) = some (Value.tuple #[Value.agg #[Value.bool (srd_c0 gs p t b), Value.int IntKind.i64 (srd_c1 gs p t b), Value.int IntKind.i64 (srd_c2 gs p t b)], Value.int IntKind.i64 (srd_c3 gs p t b)], []), (GTab.lookD (tabL) ((11 : Nat)) ([D.list (rowA gI gs) gs.length])) = some (Value.complex FloatKind.f64 (0 : Nat) gs.length, [(rowA gI gs, (3 : TypeId))]), (decide ((↑gs.length : Int) > (70 : Int))) = false]) (by kernel_rfl) ⟨(sqD_at (gs) (gs) (gs.length) (gs.length) (by first | rfl | assumption | omega | (simp; done) | (simp_all; done) | (simp_all; omega)) (by first | rfl | assumption | omega | (simp; done) | (simp_all; done) | (simp_all; omega)) (by first | rfl | assumption | omega | (simp; done) | (simp_all; done) | (simp_all; omega)) (by first | rfl | assumption | omega | (simp; done) | (simp_all; done) | (simp_all; omega))), hq3, hq2, hq1, (rrD_at (gs) (p) (t) (b) (gs.length) (by first | rfl | assumption | omega | (simp; done) | (simp_all; done) | (simp_all; omega)) (by first | rfl | assumption | omega | (simp; done) | (simp_all; done) | (simp_all; omega))), (rpD_at (gs) (p) (t) (b) (gs.length) (by first | rfl | assumption | omega | (simp; done) | (simp_all; done) | (simp_all; omega)) (by first | rfl | assumption | omega | (simp; done) | (simp_all; done) | (simp_all; omega))), (owD_at (gs) (gs.length) (by first | rfl | assumption | omega | (simp; done) | (simp_all; done) | (simp_all; omega)) (by first | rfl | assumption | omega | (simp; done) | (simp_all; done) | (simp_all; omega))), hq0, trivial⟩ (by kernel_rfl)) (by first | rfl | (simp; done) | (simp_all; done)) (by first | rfl | (simp [rowA_nil]; done) | (simp only [rowA_eq]; rfl) | (simp_all [rowA_nil]; done))
set_option maxHeartbeats 8000000 in
theorem lawR (o : Bool) (f z : Int) (gs : List Int) (p t : Int) (b : Bool)  : KnownR Try.prog [] 3 [.val (.agg #[.bool o, .int .i64 f, .int .i64 z]), .list (rowA gI gs) gs.length, .val (.int .i64 p), .val (.int .i64 t), .val (.bool b)] (.bool (true)) [] := by
  rcases Bool.eq_false_or_eq_true (decide ((↑gs.length : Int) > (70 : Int))) with hq0 | hq0
  ·
    exact lawR_p0 o f z gs p t b hq0
  ·
    have hq1 : (lawR_b1 o f z gs p t b) = true := by
      rcases Bool.eq_false_or_eq_true (lawR_b1 o f z gs p t b) with h | h
      · exact h
      · exfalso; (try simp only [lawR_b1] at *); (first | (simp_all only [Bool.and_eq_true, Bool.not_eq_true', Bool.false_eq_true, Bool.true_eq_false, reduceCtorEq]; done) | (simp only [sx, sy, eq_self, ne_eq, IntKind.wrap_i64, wrapU64, Int.reduceLT] at * <;> first | contradiction | omega) | omega | ((try simp only [sx, sy, eq_self, ne_eq, IntKind.wrap_i64, wrapU64, Int.reduceLT] at *) <;> omega) | (simp_all; done))
    have hq2 : (srd_c3 gs p t b == srd_c3 gs p t b) = true := by
      rcases Bool.eq_false_or_eq_true (srd_c3 gs p t b == srd_c3 gs p t b) with h | h
      · exact h
      · exfalso; (try simp only [lawR_b1] at *); (first | (simp_all only [Bool.and_eq_true, Bool.not_eq_true', Bool.false_eq_true, Bool.true_eq_false, reduceCtorEq]; done) | (simp only [sx, sy, eq_self, ne_eq, IntKind.wrap_i64, wrapU64, Int.reduceLT] at * <;> first | contradiction | omega) | omega | ((try simp only [sx, sy, eq_self, ne_eq, IntKind.wrap_i64, wrapU64, Int.reduceLT] at *) <;> omega) | (simp_all; done))
    have hq3 : (pck_c0 o f z == pck_c0 o f z) = true := by
      rcases Bool.eq_false_or_eq_true (pck_c0 o f z == pck_c0 o f z) with h | h
      · exact h
      · exfalso; (try simp only [lawR_b1] at *); (first | (simp_all only [Bool.and_eq_true, Bool.not_eq_true', Bool.false_eq_true, Bool.true_eq_false, reduceCtorEq]; done) | (simp only [sx, sy, eq_self, ne_eq, IntKind.wrap_i64, wrapU64, Int.reduceLT] at * <;> first | contradiction | omega) | omega | ((try simp only [sx, sy, eq_self, ne_eq, IntKind.wrap_i64, wrapU64, Int.reduceLT] at *) <;> omega) | (simp_all; done))
    exact lawR_p1 o f z gs p t b hq0 hq1 hq2 hq3

end Go.Proofs.Ythjdoeeefighkaa
