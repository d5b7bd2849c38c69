/- Layer 14: LimitJumps. -/
import Derived.Test.YtbhmgchkgbenmaaLK
namespace Go.Proofs.Ytbhmgchkgbenmaa
open Go Go.RowKit
set_option linter.unusedVariables false
set_option linter.unusedSimpArgs false
set_option linter.unnecessarySimpa false
theorem ownD (xs : List Mv) (hl : xs.length ≤ 10010) : KnownR Try.prog [] 12 [.list (rowA gM xs) xs.length] (.complex .f64 0 xs.length) ([(rowA gM xs, 38)]) := own0 xs hl
noncomputable def ownD_A (p : List Mv × Nat × Unit) : List D := match p with
  | (xs, nn0, _) => [.list (rowA gM xs) nn0]
noncomputable def ownD_C (p : List Mv × Nat × Unit) : Prop := match p with
  | (xs, nn0, _) => (nn0 = xs.length) ∧ (xs.length ≤ 10010) ∧ True
noncomputable def ownD_R (p : List Mv × Nat × Unit) : Value × Outs := match p with
  | (xs, nn0, _) => (.complex .f64 0 xs.length, [(rowA gM xs, 38)])
theorem ownD_inj : ∀ p q, ownD_C p → ownD_C q → ownD_A p = ownD_A q → ownD_R p = ownD_R q := by
  rintro ⟨xs, nn0, _⟩ ⟨xs', nn0', _⟩ _ _ e
  simp only [ownD_A, List.cons.injEq, D.list.injEq, D.val.injEq, D.agg.injEq, Value.int.injEq, Value.bool.injEq, Value.string.injEq, Value.agg.injEq, Array.mk.injEq, and_true, true_and, gI_inj, gB_inj, gM_inj] at e
  simp_all
noncomputable def ownD_k : List D → Option (Value × Outs) := fnP ownD_A ownD_C ownD_R
theorem ownD_n (xs : List Mv) (nn0 : Nat) (hn0 : nn0 = xs.length) (hl : xs.length ≤ 10010) : KnownR Try.prog [] 12 [.list (rowA gM xs) nn0] (.complex .f64 0 xs.length) ([(rowA gM xs, 38)]) := by
  subst hn0; skip
  exact ownD _ hl
theorem ownD_ok : ∀ ds v bs, ownD_k ds = some (v, bs) → KnownR Try.prog [] 12 ds v bs := fnP_ok (by
  rintro ⟨xs, nn0, _⟩ ⟨hn0, hl, _⟩
  exact ownD_n _ _ hn0 hl)
theorem ownD_at (xs : List Mv) (nn0 : Nat) (hn0 : nn0 = xs.length) (hl : xs.length ≤ 10010) : ownD_k [.list (rowA gM xs) nn0] = some (.complex .f64 0 xs.length, [(rowA gM xs, 38)]) := fnP_at (p := (xs, nn0, ())) ownD_inj ⟨hn0, hl, trivial⟩ rfl rfl
theorem jpD (xs : List Mv)  : KnownR Try.prog [] 23 [.list (rowA gM xs) xs.length] (.tuple #[.complex .f64 0 (jL xs).length, .int .i64 (cAll xs)]) ([(rowA gI (jL xs), 3)]) := jumps_p xs
noncomputable def jpD_A (p : List Mv × Nat × Unit) : List D := match p with
  | (xs, nn0, _) => [.list (rowA gM xs) nn0]
noncomputable def jpD_C (p : List Mv × Nat × Unit) : Prop := match p with
  | (xs, nn0, _) => (nn0 = xs.length) ∧ True
noncomputable def jpD_R (p : List Mv × Nat × Unit) : Value × Outs := match p with
  | (xs, nn0, _) => (.tuple #[.complex .f64 0 (jL xs).length, .int .i64 (cAll xs)], [(rowA gI (jL xs), 3)])
theorem jpD_inj : ∀ p q, jpD_C p → jpD_C q → jpD_A p = jpD_A q → jpD_R p = jpD_R q := by
  rintro ⟨xs, nn0, _⟩ ⟨xs', nn0', _⟩ _ _ e
  simp only [jpD_A, List.cons.injEq, D.list.injEq, D.val.injEq, D.agg.injEq, Value.int.injEq, Value.bool.injEq, Value.string.injEq, Value.agg.injEq, Array.mk.injEq, and_true, true_and, gI_inj, gB_inj, gM_inj] at e
  simp_all
noncomputable def jpD_k : List D → Option (Value × Outs) := fnP jpD_A jpD_C jpD_R
theorem jpD_n (xs : List Mv) (nn0 : Nat) (hn0 : nn0 = xs.length)  : KnownR Try.prog [] 23 [.list (rowA gM xs) nn0] (.tuple #[.complex .f64 0 (jL xs).length, .int .i64 (cAll xs)]) ([(rowA gI (jL xs), 3)]) := by
  subst hn0; skip
  exact jpD _ 
theorem jpD_ok : ∀ ds v bs, jpD_k ds = some (v, bs) → KnownR Try.prog [] 23 ds v bs := fnP_ok (by
  rintro ⟨xs, nn0, _⟩ ⟨hn0, _⟩
  exact jpD_n _ _ hn0 )
theorem jpD_at (xs : List Mv) (nn0 : Nat) (hn0 : nn0 = xs.length)  : jpD_k [.list (rowA gM xs) nn0] = some (.tuple #[.complex .f64 0 (jL xs).length, .int .i64 (cAll xs)], [(rowA gI (jL xs), 3)]) := fnP_at (p := (xs, nn0, ())) jpD_inj ⟨hn0, trivial⟩ rfl rfl
theorem spD (xs : List Mv)  : KnownR Try.prog [] 25 [.list (rowA gM xs) xs.length] (.tuple #[.complex .f64 0 (sL xs).length, .int .i64 (cAll xs)]) ([(rowA gI (sL xs), 3)]) := stops_p xs
noncomputable def spD_A (p : List Mv × Nat × Unit) : List D := match p with
  | (xs, nn0, _) => [.list (rowA gM xs) nn0]
noncomputable def spD_C (p : List Mv × Nat × Unit) : Prop := match p with
  | (xs, nn0, _) => (nn0 = xs.length) ∧ True
noncomputable def spD_R (p : List Mv × Nat × Unit) : Value × Outs := match p with
  | (xs, nn0, _) => (.tuple #[.complex .f64 0 (sL xs).length, .int .i64 (cAll xs)], [(rowA gI (sL xs), 3)])
theorem spD_inj : ∀ p q, spD_C p → spD_C q → spD_A p = spD_A q → spD_R p = spD_R q := by
  rintro ⟨xs, nn0, _⟩ ⟨xs', nn0', _⟩ _ _ e
  simp only [spD_A, List.cons.injEq, D.list.injEq, D.val.injEq, D.agg.injEq, Value.int.injEq, Value.bool.injEq, Value.string.injEq, Value.agg.injEq, Array.mk.injEq, and_true, true_and, gI_inj, gB_inj, gM_inj] at e
  simp_all
noncomputable def spD_k : List D → Option (Value × Outs) := fnP spD_A spD_C spD_R
theorem spD_n (xs : List Mv) (nn0 : Nat) (hn0 : nn0 = xs.length)  : KnownR Try.prog [] 25 [.list (rowA gM xs) nn0] (.tuple #[.complex .f64 0 (sL xs).length, .int .i64 (cAll xs)]) ([(rowA gI (sL xs), 3)]) := by
  subst hn0; skip
  exact spD _ 
theorem spD_ok : ∀ ds v bs, spD_k ds = some (v, bs) → KnownR Try.prog [] 25 ds v bs := fnP_ok (by
  rintro ⟨xs, nn0, _⟩ ⟨hn0, _⟩
  exact spD_n _ _ hn0 )
theorem spD_at (xs : List Mv) (nn0 : Nat) (hn0 : nn0 = xs.length)  : spD_k [.list (rowA gM xs) nn0] = some (.tuple #[.complex .f64 0 (sL xs).length, .int .i64 (cAll xs)], [(rowA gI (sL xs), 3)]) := fnP_at (p := (xs, nn0, ())) spD_inj ⟨hn0, trivial⟩ rfl rfl
theorem jrD (xs : List Mv) (hp : Pos64 xs) : KnownR Try.prog [] 24 [.list (rowA gM xs) xs.length] (.tuple #[.complex .f64 0 (jL xs).length, .int .i64 (cAll xs)]) ([(rowA gI (jL xs), 3)]) := jumps_r xs hp
noncomputable def jrD_A (p : List Mv × Nat × Unit) : List D := match p with
  | (xs, nn0, _) => [.list (rowA gM xs) nn0]
noncomputable def jrD_C (p : List Mv × Nat × Unit) : Prop := match p with
  | (xs, nn0, _) => (nn0 = xs.length) ∧ (Pos64 xs) ∧ True
noncomputable def jrD_R (p : List Mv × Nat × Unit) : Value × Outs := match p with
  | (xs, nn0, _) => (.tuple #[.complex .f64 0 (jL xs).length, .int .i64 (cAll xs)], [(rowA gI (jL xs), 3)])
theorem jrD_inj : ∀ p q, jrD_C p → jrD_C q → jrD_A p = jrD_A q → jrD_R p = jrD_R q := by
  rintro ⟨xs, nn0, _⟩ ⟨xs', nn0', _⟩ _ _ e
  simp only [jrD_A, List.cons.injEq, D.list.injEq, D.val.injEq, D.agg.injEq, Value.int.injEq, Value.bool.injEq, Value.string.injEq, Value.agg.injEq, Array.mk.injEq, and_true, true_and, gI_inj, gB_inj, gM_inj] at e
  simp_all
noncomputable def jrD_k : List D → Option (Value × Outs) := fnP jrD_A jrD_C jrD_R
theorem jrD_n (xs : List Mv) (nn0 : Nat) (hn0 : nn0 = xs.length) (hp : Pos64 xs) : KnownR Try.prog [] 24 [.list (rowA gM xs) nn0] (.tuple #[.complex .f64 0 (jL xs).length, .int .i64 (cAll xs)]) ([(rowA gI (jL xs), 3)]) := by
  subst hn0; skip
  exact jrD _ hp
theorem jrD_ok : ∀ ds v bs, jrD_k ds = some (v, bs) → KnownR Try.prog [] 24 ds v bs := fnP_ok (by
  rintro ⟨xs, nn0, _⟩ ⟨hn0, hp, _⟩
  exact jrD_n _ _ hn0 hp)
theorem jrD_at (xs : List Mv) (nn0 : Nat) (hn0 : nn0 = xs.length) (hp : Pos64 xs) : jrD_k [.list (rowA gM xs) nn0] = some (.tuple #[.complex .f64 0 (jL xs).length, .int .i64 (cAll xs)], [(rowA gI (jL xs), 3)]) := fnP_at (p := (xs, nn0, ())) jrD_inj ⟨hn0, hp, trivial⟩ rfl rfl
theorem srD (xs : List Mv)  : KnownR Try.prog [] 26 [.list (rowA gM xs) xs.length] (.tuple #[.complex .f64 0 (sL xs).length, .int .i64 (cAll xs)]) ([(rowA gI (sL xs), 3)]) := stops_r xs
noncomputable def srD_A (p : List Mv × Nat × Unit) : List D := match p with
  | (xs, nn0, _) => [.list (rowA gM xs) nn0]
noncomputable def srD_C (p : List Mv × Nat × Unit) : Prop := match p with
  | (xs, nn0, _) => (nn0 = xs.length) ∧ True
noncomputable def srD_R (p : List Mv × Nat × Unit) : Value × Outs := match p with
  | (xs, nn0, _) => (.tuple #[.complex .f64 0 (sL xs).length, .int .i64 (cAll xs)], [(rowA gI (sL xs), 3)])
theorem srD_inj : ∀ p q, srD_C p → srD_C q → srD_A p = srD_A q → srD_R p = srD_R q := by
  rintro ⟨xs, nn0, _⟩ ⟨xs', nn0', _⟩ _ _ e
  simp only [srD_A, List.cons.injEq, D.list.injEq, D.val.injEq, D.agg.injEq, Value.int.injEq, Value.bool.injEq, Value.string.injEq, Value.agg.injEq, Array.mk.injEq, and_true, true_and, gI_inj, gB_inj, gM_inj] at e
  simp_all
noncomputable def srD_k : List D → Option (Value × Outs) := fnP srD_A srD_C srD_R
theorem srD_n (xs : List Mv) (nn0 : Nat) (hn0 : nn0 = xs.length)  : KnownR Try.prog [] 26 [.list (rowA gM xs) nn0] (.tuple #[.complex .f64 0 (sL xs).length, .int .i64 (cAll xs)]) ([(rowA gI (sL xs), 3)]) := by
  subst hn0; skip
  exact srD _ 
theorem srD_ok : ∀ ds v bs, srD_k ds = some (v, bs) → KnownR Try.prog [] 26 ds v bs := fnP_ok (by
  rintro ⟨xs, nn0, _⟩ ⟨hn0, _⟩
  exact srD_n _ _ hn0 )
theorem srD_at (xs : List Mv) (nn0 : Nat) (hn0 : nn0 = xs.length)  : srD_k [.list (rowA gM xs) nn0] = some (.tuple #[.complex .f64 0 (sL xs).length, .int .i64 (cAll xs)], [(rowA gI (sL xs), 3)]) := fnP_at (p := (xs, nn0, ())) srD_inj ⟨hn0, trivial⟩ rfl rfl
theorem smD (xs : List Mv) (hx : xs.length ≤ 20000) : KnownR Try.prog [] 18 [.list (rowA gM xs) xs.length, .list (rowA gM xs) xs.length] (.bool true) ([]) := same_m xs hx
noncomputable def smD_A (p : List Mv × Nat × Nat × Unit) : List D := match p with
  | (xs, nn0, nn1, _) => [.list (rowA gM xs) nn0, .list (rowA gM xs) nn1]
noncomputable def smD_C (p : List Mv × Nat × Nat × Unit) : Prop := match p with
  | (xs, nn0, nn1, _) => (nn0 = xs.length) ∧ (nn1 = xs.length) ∧ (xs.length ≤ 20000) ∧ True
noncomputable def smD_R (p : List Mv × Nat × Nat × Unit) : Value × Outs := match p with
  | (xs, nn0, nn1, _) => (.bool true, [])
theorem smD_inj : ∀ p q, smD_C p → smD_C q → smD_A p = smD_A q → smD_R p = smD_R q := by
  rintro ⟨xs, nn0, nn1, _⟩ ⟨xs', nn0', nn1', _⟩ _ _ e
  simp only [smD_A, List.cons.injEq, D.list.injEq, D.val.injEq, D.agg.injEq, Value.int.injEq, Value.bool.injEq, Value.string.injEq, Value.agg.injEq, Array.mk.injEq, and_true, true_and, gI_inj, gB_inj, gM_inj] at e
  simp_all
noncomputable def smD_k : List D → Option (Value × Outs) := fnP smD_A smD_C smD_R
theorem smD_n (xs : List Mv) (nn0 : Nat) (nn1 : Nat) (hn0 : nn0 = xs.length) (hn1 : nn1 = xs.length) (hx : xs.length ≤ 20000) : KnownR Try.prog [] 18 [.list (rowA gM xs) nn0, .list (rowA gM xs) nn1] (.bool true) ([]) := by
  subst hn0; subst hn1; skip
  exact smD _ hx
theorem smD_ok : ∀ ds v bs, smD_k ds = some (v, bs) → KnownR Try.prog [] 18 ds v bs := fnP_ok (by
  rintro ⟨xs, nn0, nn1, _⟩ ⟨hn0, hn1, hx, _⟩
  exact smD_n _ _ _ hn0 hn1 hx)
theorem smD_at (xs : List Mv) (nn0 : Nat) (nn1 : Nat) (hn0 : nn0 = xs.length) (hn1 : nn1 = xs.length) (hx : xs.length ≤ 20000) : smD_k [.list (rowA gM xs) nn0, .list (rowA gM xs) nn1] = some (.bool true, []) := fnP_at (p := (xs, nn0, nn1, ())) smD_inj ⟨hn0, hn1, hx, trivial⟩ rfl rfl
theorem siD (xs : List Int) (hx : xs.length ≤ 20000) : KnownR Try.prog [] 17 [.list (rowA gI xs) xs.length, .list (rowA gI xs) xs.length] (.bool true) ([]) := same_i xs hx
noncomputable def siD_A (p : List Int × Nat × Nat × Unit) : List D := match p with
  | (xs, nn0, nn1, _) => [.list (rowA gI xs) nn0, .list (rowA gI xs) nn1]
noncomputable def siD_C (p : List Int × Nat × Nat × Unit) : Prop := match p with
  | (xs, nn0, nn1, _) => (nn0 = xs.length) ∧ (nn1 = xs.length) ∧ (xs.length ≤ 20000) ∧ True
noncomputable def siD_R (p : List Int × Nat × Nat × Unit) : Value × Outs := match p with
  | (xs, nn0, nn1, _) => (.bool true, [])
theorem siD_inj : ∀ p q, siD_C p → siD_C q → siD_A p = siD_A q → siD_R p = siD_R q := by
  rintro ⟨xs, nn0, nn1, _⟩ ⟨xs', nn0', nn1', _⟩ _ _ e
  simp only [siD_A, List.cons.injEq, D.list.injEq, D.val.injEq, D.agg.injEq, Value.int.injEq, Value.bool.injEq, Value.string.injEq, Value.agg.injEq, Array.mk.injEq, and_true, true_and, gI_inj, gB_inj, gM_inj] at e
  simp_all
noncomputable def siD_k : List D → Option (Value × Outs) := fnP siD_A siD_C siD_R
theorem siD_n (xs : List Int) (nn0 : Nat) (nn1 : Nat) (hn0 : nn0 = xs.length) (hn1 : nn1 = xs.length) (hx : xs.length ≤ 20000) : KnownR Try.prog [] 17 [.list (rowA gI xs) nn0, .list (rowA gI xs) nn1] (.bool true) ([]) := by
  subst hn0; subst hn1; skip
  exact siD _ hx
theorem siD_ok : ∀ ds v bs, siD_k ds = some (v, bs) → KnownR Try.prog [] 17 ds v bs := fnP_ok (by
  rintro ⟨xs, nn0, nn1, _⟩ ⟨hn0, hn1, hx, _⟩
  exact siD_n _ _ _ hn0 hn1 hx)
theorem siD_at (xs : List Int) (nn0 : Nat) (nn1 : Nat) (hn0 : nn0 = xs.length) (hn1 : nn1 = xs.length) (hx : xs.length ≤ 20000) : siD_k [.list (rowA gI xs) nn0, .list (rowA gI xs) nn1] = some (.bool true, []) := fnP_at (p := (xs, nn0, nn1, ())) siD_inj ⟨hn0, hn1, hx, trivial⟩ rfl rfl
noncomputable def tabL : GTab := (GTab.fnD 12 ownD_k (GTab.fnD 23 jpD_k (GTab.fnD 25 spD_k (GTab.fnD 24 jrD_k (GTab.fnD 26 srD_k (GTab.fnD 18 smD_k (GTab.fnD 17 siD_k (GTab.fn1 11 (fun l => match l with | [] => some (.bool true) | _ => none) GTab.none))))))))
theorem tabL_ok : GOk Try.prog [] tabL := (GOk.fnD ownD_ok (GOk.fnD jpD_ok (GOk.fnD spD_ok (GOk.fnD jrD_ok (GOk.fnD srD_ok (GOk.fnD smD_ok (GOk.fnD siD_ok (GOk.fn1 (known0 knLimitKnown_e0) GOk.none))))))))
theorem lawJ_p0 (xs : List Mv) (hp : Pos64 xs) (hj : (jL xs).length ≤ 20000) (hs : (sL xs).length ≤ 20000) (hq0 : (decide ((↑xs.length : Int) ≤ (200 : Int))) = true) (hq1 : (cAll xs == cAll xs) = true) : KnownR Try.prog [] 5 [.list (rowA gM xs) xs.length] (.bool (true)) [] :=
  knownR_eq (v := Value.bool true) (bs := []) (open_resD mix tabL_ok (T := tabL) (fuel := 3000) (es := []) (ans := [(0, .b 1), (7, .outs (Value.complex FloatKind.f64 (0 : Nat) xs.length) ([(rowA gM xs, (38 : TypeId))])), (8, .outs (Value.tuple #[Value.complex FloatKind.f64 (0 : Nat) (jL xs).length, Value.int IntKind.i64 (cAll xs)]) ([(rowA gI (jL xs), (3 : TypeId))])), (9, .outs (Value.tuple #[Value.complex FloatKind.f64 (0 : Nat) (jL xs).length, Value.int IntKind.i64 (cAll xs)]) ([(rowA gI (jL xs), (3 : TypeId))])), (10, .outs (Value.tuple #[Value.complex FloatKind.f64 (0 : Nat) (sL xs).length, Value.int IntKind.i64 (cAll xs)]) ([(rowA gI (sL xs), (3 : TypeId))])), (11, .outs (Value.tuple #[Value.complex FloatKind.f64 (0 : Nat) (sL xs).length, Value.int IntKind.i64 (cAll xs)]) ([(rowA gI (sL xs), (3 : TypeId))])), (12, .outs (Value.bool true) ([])), (17, .b 1), (20, .outs (Value.bool true) ([])), (26, .b 1), (29, .outs (Value.bool true) ([]))]) (log := [(GTab.lookD (tabL) ((18 : Nat)) ([D.list (rowA gM xs) xs.length, D.list (rowA gM xs) xs.length])) = some (Value.bool true, []), (cAll xs == cAll xs) = true, (GTab.lookD (tabL) ((17 : Nat)) ([D.list (rowA gI (sL xs)) (sL xs).length, D.list (rowA gI (sL xs)) (sL xs).length])) = some (Value.bool true, []), (cAll xs == cAll xs) = true, (GTab.lookD (tabL) ((17 : Nat)) ([D.list (rowA gI (jL xs)) (jL xs).length, D.list (rowA gI (jL xs)) (jL xs).length])) = some (Value.bool true, []), (GTab.lookD (tabL) ((26 : Nat)) ([D.list (rowA gM xs) xs.length])) = some (Value.tuple #[Value.complex FloatKind.f64 (0 : Nat) (sL xs).length, Value.int IntKind.i64 (cAll xs)], [(rowA gI (sL xs), (3 : TypeId))]), (GTab.lookD (tabL) ((25 : Nat)) ([D.list (rowA gM xs) xs.length])) = some (Value.tuple #[Value.complex FloatKind.f64 (0 : Nat) (sL xs).length, Value.int IntKind.i64 (cAll xs)], [(rowA gI (sL xs), (3 : TypeId))]), (GTab.lookD (tabL) ((24 : Nat)) ([D.list (rowA gM xs) xs.length])) = some (Value.tuple #[Value.complex FloatKind.f64 (0 : Nat) (jL xs).length, Value.int IntKind.i64 (cAll xs)], [(rowA gI (jL xs), (3 : TypeId))]), (GTab.lookD (tabL) ((23 : Nat)) ([D.list (rowA gM xs) xs.length])) = some (Value.tuple #[Value.complex FloatKind.f64 (0 : Nat) (jL xs).length, Value.int IntKind.i64 (cAll xs)], [(rowA gI (jL xs), (3 : TypeId))]), (GTab.lookD (tabL) ((12 : Nat)) ([D.list (rowA gM xs) xs.length])) = some (Value.complex FloatKind.f64 (0 : Nat) xs.length, [(rowA gM xs, (38 : TypeId))]), (decide ((↑xs.length : Int) ≤ (200 : Int))) = true]) (by kernel_rfl) ⟨(smD_at (xs) (xs.length) (xs.length) (by first | rfl | assumption | omega | (simp; done) | (simp_all; done) | (simp_all; omega)) (by first | rfl | assumption | omega | (simp; done) | (simp_all; done) | (simp_all; omega)) (by first | rfl | assumption | omega | (simp; done) | (simp_all; done) | (simp_all; omega))), hq1, (siD_at (sL xs) ((sL xs).length) ((sL xs).length) (by first | rfl | assumption | omega | (simp; done) | (simp_all; done) | (simp_all; omega)) (by first | rfl | assumption | omega | (simp; done) | (simp_all; done) | (simp_all; omega)) (by first | rfl | assumption | omega | (simp; done) | (simp_all; done) | (simp_all; omega))), hq1, (siD_at (jL xs) ((jL xs).length) ((jL xs).length) (by first | rfl | assumption | omega | (simp; done) | (simp_all; done) | (simp_all; omega)) (by first | rfl | assumption | omega | (simp; done) | (simp_all; done) | (simp_all; omega)) (by first | rfl | assumption | omega | (simp; done) | (simp_all; done) | (simp_all; omega))), (srD_at (xs) (xs.length) (by first | rfl | assumption | omega | (simp; done) | (simp_all; done) | (simp_all; omega))), (spD_at (xs) (xs.length) (by first | rfl | assumption | omega | (simp; done) | (simp_all; done) | (simp_all; omega))), (jrD_at (xs) (xs.length) (by first | rfl | assumption | omega | (simp; done) | (simp_all; done) | (simp_all; omega)) (by first | rfl | assumption | omega | (simp; done) | (simp_all; done) | (simp_all; omega))), (jpD_at (xs) (xs.length) (by first | rfl | assumption | omega | (simp; done) | (simp_all; done) | (simp_all; omega))), (ownD_at (xs) (xs.length) (by first | rfl | assumption | omega | (simp; done) | (simp_all; done) | (simp_all; omega)) (by first | rfl | assumption | omega | (simp; done) | (simp_all; done) | (simp_all; omega))), hq0, trivial⟩ (by kernel_rfl)) (by first | rfl | simp) (by first | rfl | simp [rowA_nil])
theorem lawJ_p1 (xs : List Mv) (hp : Pos64 xs) (hj : (jL xs).length ≤ 20000) (hs : (sL xs).length ≤ 20000) (hq0 : (decide ((↑xs.length : Int) ≤ (200 : Int))) = false) (hq2 : (decide ((↑xs.length : Int) ≥ (9990 : Int))) = true) (hq3 : (!decide ((↑xs.length : Int) ≤ (10010 : Int))) = true) : KnownR Try.prog [] 5 [.list (rowA gM xs) xs.length] (.bool (true)) [] :=
  knownR_eq (v := Value.bool true) (bs := []) (open_resD mix tabL_ok (T := tabL) (fuel := 3000) (es := []) (ans := [(0, .b 0), (4, .b 1), (10, .b 1)]) (log := [(!decide ((↑xs.length : Int) ≤ (10010 : Int))) = true, (decide ((↑xs.length : Int) ≥ (9990 : Int))) = true, (decide ((↑xs.length : Int) ≤ (200 : Int))) = false]) (by kernel_rfl) ⟨hq3, hq2, hq0, trivial⟩ (by kernel_rfl)) (by first | rfl | simp) (by first | rfl | simp [rowA_nil])
theorem lawJ_p2 (xs : List Mv) (hp : Pos64 xs) (hj : (jL xs).length ≤ 20000) (hs : (sL xs).length ≤ 20000) (hq0 : (decide ((↑xs.length : Int) ≤ (200 : Int))) = false) (hq2 : (decide ((↑xs.length : Int) ≥ (9990 : Int))) = true) (hq3 : (!decide ((↑xs.length : Int) ≤ (10010 : Int))) = false) (hq1 : (cAll xs == cAll xs) = true) : KnownR Try.prog [] 5 [.list (rowA gM xs) xs.length] (.bool (true)) [] :=
  knownR_eq (v := Value.bool true) (bs := []) (open_resD mix tabL_ok (T := tabL) (fuel := 3000) (es := []) (ans := [(0, .b 0), (4, .b 1), (10, .b 0), (11, .outs (Value.complex FloatKind.f64 (0 : Nat) xs.length) ([(rowA gM xs, (38 : TypeId))])), (12, .outs (Value.tuple #[Value.complex FloatKind.f64 (0 : Nat) (jL xs).length, Value.int IntKind.i64 (cAll xs)]) ([(rowA gI (jL xs), (3 : TypeId))])), (13, .outs (Value.tuple #[Value.complex FloatKind.f64 (0 : Nat) (jL xs).length, Value.int IntKind.i64 (cAll xs)]) ([(rowA gI (jL xs), (3 : TypeId))])), (14, .outs (Value.tuple #[Value.complex FloatKind.f64 (0 : Nat) (sL xs).length, Value.int IntKind.i64 (cAll xs)]) ([(rowA gI (sL xs), (3 : TypeId))])), (15, .outs (Value.tuple #[Value.complex FloatKind.f64 (0 : Nat) (sL xs).length, Value.int IntKind.i64 (cAll xs)]) ([(rowA gI (sL xs), (3 : TypeId))])), (16, .outs (Value.bool true) ([])), (21, .b 1), (24, .outs (Value.bool true) ([])), (30, .b 1), (33, .outs (Value.bool true) ([]))]) (log := [(GTab.lookD (tabL) ((18 : Nat)) ([D.list (rowA gM xs) xs.length, D.list (rowA gM xs) xs.length])) = some (Value.bool true, []), (cAll xs == cAll xs) = true, (GTab.lookD (tabL) ((17 : Nat)) ([D.list (rowA gI (sL xs)) (sL xs).length, D.list (rowA gI (sL xs)) (sL xs).length])) = some (Value.bool true, []), (cAll xs == cAll xs) = true, (GTab.lookD (tabL) ((17 : Nat)) ([D.list (rowA gI (jL xs)) (jL xs).length, D.list (rowA gI (jL xs)) (jL xs).length])) = some (Value.bool true, []), (GTab.lookD (tabL) ((26 : Nat)) ([D.list (rowA gM xs) xs.length])) = some (Value.tuple #[Value.complex FloatKind.f64 (0 : Nat) (sL xs).length, Value.int IntKind.i64 (cAll xs)], [(rowA gI (sL xs), (3 : TypeId))]), (GTab.lookD (tabL) ((25 : Nat)) ([D.list (rowA gM xs) xs.length])) = some (Value.tuple #[Value.complex FloatKind.f64 (0 : Nat) (sL xs).length, Value.int IntKind.i64 (cAll xs)], [(rowA gI (sL xs), (3 : TypeId))]), (GTab.lookD (tabL) ((24 : Nat)) ([D.list (rowA gM xs) xs.length])) = some (Value.tuple #[Value.complex FloatKind.f64 (0 : Nat) (jL xs).length, Value.int IntKind.i64 (cAll xs)], [(rowA gI (jL xs), (3 : TypeId))]), (GTab.lookD (tabL) ((23 : Nat)) ([D.list (rowA gM xs) xs.length])) = some (Value.tuple #[Value.complex FloatKind.f64 (0 : Nat) (jL xs).length, Value.int IntKind.i64 (cAll xs)], [(rowA gI (jL xs), (3 : TypeId))]), (GTab.lookD (tabL) ((12 : Nat)) ([D.list (rowA gM xs) xs.length])) = some (Value.complex FloatKind.f64 (0 : Nat) xs.length, [(rowA gM xs, (38 : TypeId))]), (!decide ((↑xs.length : Int) ≤ (10010 : Int))) = false, (decide ((↑xs.length : Int) ≥ (9990 : Int))) = true, (decide ((↑xs.length : Int) ≤ (200 : Int))) = false]) (by kernel_rfl) ⟨(smD_at (xs) (xs.length) (xs.length) (by first | rfl | assumption | omega | (simp; done) | (simp_all; done) | (simp_all; omega)) (by first | rfl | assumption | omega | (simp; done) | (simp_all; done) | (simp_all; omega)) (by first | rfl | assumption | omega | (simp; done) | (simp_all; done) | (simp_all; omega))), hq1, (siD_at (sL xs) ((sL xs).length) ((sL xs).length) (by first | rfl | assumption | omega | (simp; done) | (simp_all; done) | (simp_all; omega)) (by first | rfl | assumption | omega | (simp; done) | (simp_all; done) | (simp_all; omega)) (by first | rfl | assumption | omega | (simp; done) | (simp_all; done) | (simp_all; omega))), hq1, (siD_at (jL xs) ((jL xs).length) ((jL xs).length) (by first | rfl | assumption | omega | (simp; done) | (simp_all; done) | (simp_all; omega)) (by first | rfl | assumption | omega | (simp; done) | (simp_all; done) | (simp_all; omega)) (by first | rfl | assumption | omega | (simp; done) | (simp_all; done) | (simp_all; omega))), (srD_at (xs) (xs.length) (by first | rfl | assumption | omega | (simp; done) | (simp_all; done) | (simp_all; omega))), (spD_at (xs) (xs.length) (by first | rfl | assumption | omega | (simp; done) | (simp_all; done) | (simp_all; omega))), (jrD_at (xs) (xs.length) (by first | rfl | assumption | omega | (simp; done) | (simp_all; done) | (simp_all; omega)) (by first | rfl | assumption | omega | (simp; done) | (simp_all; done) | (simp_all; omega))), (jpD_at (xs) (xs.length) (by first | rfl | assumption | omega | (simp; done) | (simp_all; done) | (simp_all; omega))), (ownD_at (xs) (xs.length) (by first | rfl | assumption | omega | (simp; done) | (simp_all; done) | (simp_all; omega)) (by first | rfl | assumption | omega | (simp; done) | (simp_all; done) | (simp_all; omega))), hq3, hq2, hq0, trivial⟩ (by kernel_rfl)) (by first | rfl | simp) (by first | rfl | simp [rowA_nil])
theorem lawJ_p3 (xs : List Mv) (hp : Pos64 xs) (hj : (jL xs).length ≤ 20000) (hs : (sL xs).length ≤ 20000) (hq0 : (decide ((↑xs.length : Int) ≤ (200 : Int))) = false) (hq2 : (decide ((↑xs.length : Int) ≥ (9990 : Int))) = false) : KnownR Try.prog [] 5 [.list (rowA gM xs) xs.length] (.bool (true)) [] :=
  knownR_eq (v := Value.bool true) (bs := []) (open_resD mix tabL_ok (T := tabL) (fuel := 3000) (es := []) (ans := [(0, .b 0), (4, .b 0)]) (log := [(decide ((↑xs.length : Int) ≥ (9990 : Int))) = false, (decide ((↑xs.length : Int) ≤ (200 : Int))) = false]) (by kernel_rfl) ⟨hq2, hq0, trivial⟩ (by kernel_rfl)) (by first | rfl | simp) (by first | rfl | simp [rowA_nil])
set_option maxHeartbeats 8000000 in
theorem lawJ (xs : List Mv) (hp : Pos64 xs) (hj : (jL xs).length ≤ 20000) (hs : (sL xs).length ≤ 20000) : KnownR Try.prog [] 5 [.list (rowA gM xs) xs.length] (.bool (true)) [] := by
  rcases Bool.eq_false_or_eq_true (decide ((↑xs.length : Int) ≤ (200 : Int))) with hq0 | hq0
  ·
    have hq1 : (cAll xs == cAll xs) = true := by
      rcases Bool.eq_false_or_eq_true (cAll xs == cAll xs) with h | h
      · exact h
      · exfalso; (first | (simp_all only [Bool.and_eq_true, Bool.not_eq_true', Bool.false_eq_true, Bool.true_eq_false, reduceCtorEq]; done) | (simp_all; done) | (simp only [sx, sy, eq_self, ne_eq, IntKind.wrap_i64, wrapU64, Int.reduceLT] at * <;> first | contradiction | omega))
    exact lawJ_p0 xs hp hj hs hq0 hq1
  ·
    rcases Bool.eq_false_or_eq_true (decide ((↑xs.length : Int) ≥ (9990 : Int))) with hq2 | hq2
    ·
      rcases Bool.eq_false_or_eq_true (!decide ((↑xs.length : Int) ≤ (10010 : Int))) with hq3 | hq3
      ·
        exact lawJ_p1 xs hp hj hs hq0 hq2 hq3
      ·
        have hq1 : (cAll xs == cAll xs) = true := by
          rcases Bool.eq_false_or_eq_true (cAll xs == cAll xs) with h | h
          · exact h
          · exfalso; (first | (simp_all only [Bool.and_eq_true, Bool.not_eq_true', Bool.false_eq_true, Bool.true_eq_false, reduceCtorEq]; done) | (simp_all; done) | (simp only [sx, sy, eq_self, ne_eq, IntKind.wrap_i64, wrapU64, Int.reduceLT] at * <;> first | contradiction | omega))
        exact lawJ_p2 xs hp hj hs hq0 hq2 hq3 hq1
    ·
      exact lawJ_p3 xs hp hj hs hq0 hq2

end Go.Proofs.Ytbhmgchkgbenmaa
