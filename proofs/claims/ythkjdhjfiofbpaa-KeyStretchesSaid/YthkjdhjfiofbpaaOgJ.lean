/- Layer 22: states: copies, compared. -/
import Derived.Test.YthkjdhjfiofbpaaOgI
import Derived.ProofKit
import Derived.IntWalk
namespace Go.Proofs.Ythkjdhjfiofbpaa
open Go Go.RowKit
set_option linter.unusedVariables false
set_option linter.unusedSimpArgs false
set_option linter.unnecessarySimpa false
set_option maxHeartbeats 8000000
set_option maxRecDepth 100000
theorem owID (xs : List Int) (hl : (xs.length : Int) ≤ 20) : KnownR Try.prog [] 25 [.list (rowA gI xs) xs.length] (.complex .f64 0 xs.length) ([(rowA gI xs, 3)]) := owI xs hl
noncomputable def owID_A (p : List Int × Nat × Unit) : List D := match p with
  | (xs, nn0, _) => [.list (rowA gI xs) nn0]
noncomputable def owID_C (p : List Int × Nat × Unit) : Prop := match p with
  | (xs, nn0, _) => (nn0 = xs.length) ∧ ((xs.length : Int) ≤ 20) ∧ True
noncomputable def owID_R (p : List Int × Nat × Unit) : Value × Outs := match p with
  | (xs, nn0, _) => (.complex .f64 0 xs.length, [(rowA gI xs, 3)])
theorem owID_inj : ∀ p q, owID_C p → owID_C q → owID_A p = owID_A q → owID_R p = owID_R q := by
  rintro ⟨xs, nn0, _⟩ ⟨xs', nn0', _⟩ _ _ e
  simp only [owID_A, List.cons.injEq, D.list.injEq, D.val.injEq, D.agg.injEq, Value.int.injEq, Value.bool.injEq, Value.string.injEq, Value.agg.injEq, Array.mk.injEq, and_true, true_and, gI_inj, gB_inj, gP_inj] at e
  simp_all
noncomputable def owID_k : List D → Option (Value × Outs) := fnP owID_A owID_C owID_R
theorem owID_n (xs : List Int) (nn0 : Nat) (hn0 : nn0 = xs.length) (hl : (xs.length : Int) ≤ 20) : KnownR Try.prog [] 25 [.list (rowA gI xs) nn0] (.complex .f64 0 xs.length) ([(rowA gI xs, 3)]) := by
  subst hn0; skip
  exact owID _ hl
theorem owID_ok : ∀ ds v bs, owID_k ds = some (v, bs) → KnownR Try.prog [] 25 ds v bs := fnP_ok (by
  rintro ⟨xs, nn0, _⟩ ⟨hn0, hl, _⟩
  exact owID_n _ _ hn0 hl)
theorem owID_at (xs : List Int) (nn0 : Nat) (hn0 : nn0 = xs.length) (hl : (xs.length : Int) ≤ 20) : owID_k [.list (rowA gI xs) nn0] = some (.complex .f64 0 xs.length, [(rowA gI xs, 3)]) := fnP_at (p := (xs, nn0, ())) owID_inj ⟨hn0, hl, trivial⟩ rfl rfl
theorem siD (x : List Int) (hx : (x.length : Int) ≤ 100000) : KnownR Try.prog [] 32 [.list (rowA gI x) x.length, .list (rowA gI x) x.length] (.bool true) ([]) := si_is x hx
noncomputable def siD_A (p : List Int × Nat × Nat × Unit) : List D := match p with
  | (x, nn0, nn1, _) => [.list (rowA gI x) nn0, .list (rowA gI x) nn1]
noncomputable def siD_C (p : List Int × Nat × Nat × Unit) : Prop := match p with
  | (x, nn0, nn1, _) => (nn0 = x.length) ∧ (nn1 = x.length) ∧ ((x.length : Int) ≤ 100000) ∧ True
noncomputable def siD_R (p : List Int × Nat × Nat × Unit) : Value × Outs := match p with
  | (x, nn0, nn1, _) => (.bool true, [])
theorem siD_inj : ∀ p q, siD_C p → siD_C q → siD_A p = siD_A q → siD_R p = siD_R q := by
  rintro ⟨x, nn0, nn1, _⟩ ⟨x', nn0', nn1', _⟩ _ _ e
  simp only [siD_A, List.cons.injEq, D.list.injEq, D.val.injEq, D.agg.injEq, Value.int.injEq, Value.bool.injEq, Value.string.injEq, Value.agg.injEq, Array.mk.injEq, and_true, true_and, gI_inj, gB_inj, gP_inj] at e
  simp_all
noncomputable def siD_k : List D → Option (Value × Outs) := fnP siD_A siD_C siD_R
theorem siD_n (x : List Int) (nn0 : Nat) (nn1 : Nat) (hn0 : nn0 = x.length) (hn1 : nn1 = x.length) (hx : (x.length : Int) ≤ 100000) : KnownR Try.prog [] 32 [.list (rowA gI x) nn0, .list (rowA gI x) nn1] (.bool true) ([]) := by
  subst hn0; subst hn1; skip
  exact siD _ hx
theorem siD_ok : ∀ ds v bs, siD_k ds = some (v, bs) → KnownR Try.prog [] 32 ds v bs := fnP_ok (by
  rintro ⟨x, nn0, nn1, _⟩ ⟨hn0, hn1, hx, _⟩
  exact siD_n _ _ _ hn0 hn1 hx)
theorem siD_at (x : List Int) (nn0 : Nat) (nn1 : Nat) (hn0 : nn0 = x.length) (hn1 : nn1 = x.length) (hx : (x.length : Int) ≤ 100000) : siD_k [.list (rowA gI x) nn0, .list (rowA gI x) nn1] = some (.bool true, []) := fnP_at (p := (x, nn0, nn1, ())) siD_inj ⟨hn0, hn1, hx, trivial⟩ rfl rfl
noncomputable def tabOw : GTab := (GTab.fnD 25 owID_k (GTab.fnD 32 siD_k GTab.none))
theorem tabOw_ok : GOk Try.prog [] tabOw := (GOk.fnD owID_ok (GOk.fnD siD_ok GOk.none))
noncomputable def owS_c0 (l : List Int) (f t : Int) : List Int := (l)
noncomputable def owS_c1 (l : List Int) (f t : Int) : Int := (f)
noncomputable def owS_c2 (l : List Int) (f t : Int) : Int := (t)
theorem owS_p0 (l : List Int) (f t : Int) (hl : (l.length : Int) ≤ 20) : KnownR Try.prog [] 8 [.agg [.list (rowA gI l) l.length, .val (.int .i64 f), .val (.int .i64 t)]] (.agg #[(.complex .f64 0 ((l)).length), (.int .i64 (f)), (.int .i64 (t))]) [(rowA gI ((l)), 3)] :=
  knownR_eq (v := Value.agg { toList := [Value.complex FloatKind.f64 (nat_lit 0) l.length, Value.int IntKind.i64 f, Value.int IntKind.i64 t] }) (bs := [(rowA gI l, nat_lit 3)]) (open_resD mix tabOw_ok (T := tabOw) (fuel := 3000) (es := [3]) (ans := [(0, .outs (Value.complex FloatKind.f64 (0 : Nat) l.length) ([(rowA gI l, (3 : TypeId))]))]) (log := [(GTab.lookD (tabOw) ((25 : Nat)) ([D.list (rowA gI l) l.length])) = some (Value.complex FloatKind.f64 (0 : Nat) l.length, [(rowA gI l, (3 : TypeId))])]) (by kernel_rfl) ⟨(owID_at (l) (l.length) (by first | rfl | assumption | omega | (simp; done) | (simp_all; done) | (simp_all; omega)) (by first | rfl | assumption | omega | (simp; done) | (simp_all; done) | (simp_all; omega))), trivial⟩ (by kernel_rfl)) (by first | rfl | (simp; done) | (simp_all; done)) (by first | rfl | (simp [rowA_nil]; done) | (simp only [rowA_eq]; rfl) | (simp_all [rowA_nil]; done))
set_option maxHeartbeats 8000000 in
theorem owS (l : List Int) (f t : Int) (hl : (l.length : Int) ≤ 20) : KnownR Try.prog [] 8 [.agg [.list (rowA gI l) l.length, .val (.int .i64 f), .val (.int .i64 t)]] (.agg #[(.complex .f64 0 ((owS_c0 l f t)).length), (.int .i64 (owS_c1 l f t)), (.int .i64 (owS_c2 l f t))]) [(rowA gI ((owS_c0 l f t)), 3)] := by
  have e0 : owS_c0 l f t = (l) := rfl; rw [e0]; have e1 : owS_c1 l f t = (f) := rfl; rw [e1]; have e2 : owS_c2 l f t = (t) := rfl; rw [e2]; exact owS_p0 l f t hl

theorem saS_p0 (l : List Int) (f t : Int) (hl : (l.length : Int) ≤ 20) (hq0 : (f == f) = true) (hq1 : (t == t) = true) : KnownR Try.prog [] 14 [.agg [.list (rowA gI l) l.length, .val (.int .i64 f), .val (.int .i64 t)], .agg [.list (rowA gI l) l.length, .val (.int .i64 f), .val (.int .i64 t)]] (.bool (true)) [] :=
  knownR_eq (v := Value.bool true) (bs := []) (open_resD mix tabOw_ok (T := tabOw) (fuel := 3000) (es := []) (ans := [(0, .b 1), (6, .b 1), (11, .outs (Value.bool true) ([]))]) (log := [(GTab.lookD (tabOw) ((32 : Nat)) ([D.list (rowA gI l) l.length, D.list (rowA gI l) l.length])) = some (Value.bool true, []), (t == t) = true, (f == f) = true]) (by kernel_rfl) ⟨(siD_at (l) (l.length) (l.length) (by first | rfl | assumption | omega | (simp; done) | (simp_all; done) | (simp_all; omega)) (by first | rfl | assumption | omega | (simp; done) | (simp_all; done) | (simp_all; omega)) (by first | rfl | assumption | omega | (simp; done) | (simp_all; done) | (simp_all; omega))), hq1, hq0, trivial⟩ (by kernel_rfl)) (by first | rfl | (simp; done) | (simp_all; done)) (by first | rfl | (simp [rowA_nil]; done) | (simp only [rowA_eq]; rfl) | (simp_all [rowA_nil]; done))
set_option maxHeartbeats 8000000 in
theorem saS (l : List Int) (f t : Int) (hl : (l.length : Int) ≤ 20) : KnownR Try.prog [] 14 [.agg [.list (rowA gI l) l.length, .val (.int .i64 f), .val (.int .i64 t)], .agg [.list (rowA gI l) l.length, .val (.int .i64 f), .val (.int .i64 t)]] (.bool (true)) [] := by
  have hq0 : (f == f) = true := by
    rcases Bool.eq_false_or_eq_true (f == f) with h | h
    · exact h
    · exfalso; (first | (simp_all only [Bool.and_eq_true, Bool.not_eq_true', Bool.false_eq_true, Bool.true_eq_false, reduceCtorEq]; done) | (simp only [sx, sy, eq_self, ne_eq, IntKind.wrap_i64, wrapU64, Int.reduceLT] at * <;> first | contradiction | omega) | omega | ((try simp only [sx, sy, eq_self, ne_eq, IntKind.wrap_i64, wrapU64, Int.reduceLT] at *) <;> omega) | (simp_all; done))
  have hq1 : (t == t) = true := by
    rcases Bool.eq_false_or_eq_true (t == t) with h | h
    · exact h
    · exfalso; (first | (simp_all only [Bool.and_eq_true, Bool.not_eq_true', Bool.false_eq_true, Bool.true_eq_false, reduceCtorEq]; done) | (simp only [sx, sy, eq_self, ne_eq, IntKind.wrap_i64, wrapU64, Int.reduceLT] at * <;> first | contradiction | omega) | omega | ((try simp only [sx, sy, eq_self, ne_eq, IntKind.wrap_i64, wrapU64, Int.reduceLT] at *) <;> omega) | (simp_all; done))
  exact saS_p0 l f t hl hq0 hq1

end Go.Proofs.Ythkjdhjfiofbpaa
