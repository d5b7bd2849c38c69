/- Layer 33: WordSlots. -/
import Derived.Test.YtfpabkpmcmfbhaaZI
import Derived.Test.YtfpabkpmcmfbhaaKnWordAwake
import Derived.ProofKit
import Derived.IntWalk
namespace Go.Proofs.Ytfpabkpmcmfbhaa
open Go Go.RowKit
set_option linter.unusedVariables false
set_option linter.unusedSimpArgs false
set_option linter.unnecessarySimpa false
set_option maxHeartbeats 8000000
set_option maxRecDepth 100000
attribute [local irreducible] chX woN woL ltB
theorem wofD (m : Int) (ld : List Int) (es : List En)  : KnownR Try.prog [] 12 [.val (.int .i64 m), .list (rowA gI ld) ld.length, .list (rowA gE es) es.length] (.tuple #[.int .i64 (woN m ld es), .complex .f64 0 (woL m ld es).length, .int .i64 (chX m ld es)]) ([(rowA gI (woL m ld es), 3)]) := pof_is m ld es
noncomputable def wofD_A (p : Int × List Int × List En × Nat × Nat × Unit) : List D := match p with
  | (m, ld, es, nn0, nn1, _) => [.val (.int .i64 m), .list (rowA gI ld) nn0, .list (rowA gE es) nn1]
noncomputable def wofD_C (p : Int × List Int × List En × Nat × Nat × Unit) : Prop := match p with
  | (m, ld, es, nn0, nn1, _) => (nn0 = ld.length) ∧ (nn1 = es.length) ∧ True
noncomputable def wofD_R (p : Int × List Int × List En × Nat × Nat × Unit) : Value × Outs := match p with
  | (m, ld, es, nn0, nn1, _) => (.tuple #[.int .i64 (woN m ld es), .complex .f64 0 (woL m ld es).length, .int .i64 (chX m ld es)], [(rowA gI (woL m ld es), 3)])
theorem wofD_inj : ∀ p q, wofD_C p → wofD_C q → wofD_A p = wofD_A q → wofD_R p = wofD_R q := by
  rintro ⟨m, ld, es, nn0, nn1, _⟩ ⟨m', ld', es', nn0', nn1', _⟩ _ _ e
  simp only [wofD_A, List.cons.injEq, D.list.injEq, D.val.injEq, D.agg.injEq, Value.int.injEq, Value.bool.injEq, Value.string.injEq, Value.agg.injEq, Array.mk.injEq, and_true, true_and, gI_inj, gB_inj, gE_inj] at e
  simp_all
noncomputable def wofD_k : List D → Option (Value × Outs) := fnP wofD_A wofD_C wofD_R
theorem wofD_n (m : Int) (ld : List Int) (es : List En) (nn0 : Nat) (nn1 : Nat) (hn0 : nn0 = ld.length) (hn1 : nn1 = es.length)  : KnownR Try.prog [] 12 [.val (.int .i64 m), .list (rowA gI ld) nn0, .list (rowA gE es) nn1] (.tuple #[.int .i64 (woN m ld es), .complex .f64 0 (woL m ld es).length, .int .i64 (chX m ld es)]) ([(rowA gI (woL m ld es), 3)]) := by
  subst hn0; subst hn1; skip
  exact wofD _ _ _ 
theorem wofD_ok : ∀ ds v bs, wofD_k ds = some (v, bs) → KnownR Try.prog [] 12 ds v bs := fnP_ok (by
  rintro ⟨m, ld, es, nn0, nn1, _⟩ ⟨hn0, hn1, _⟩
  exact wofD_n _ _ _ _ _ hn0 hn1 )
theorem wofD_at (m : Int) (ld : List Int) (es : List En) (nn0 : Nat) (nn1 : Nat) (hn0 : nn0 = ld.length) (hn1 : nn1 = es.length)  : wofD_k [.val (.int .i64 m), .list (rowA gI ld) nn0, .list (rowA gE es) nn1] = some (.tuple #[.int .i64 (woN m ld es), .complex .f64 0 (woL m ld es).length, .int .i64 (chX m ld es)], [(rowA gI (woL m ld es), 3)]) := fnP_at (p := (m, ld, es, nn0, nn1, ())) wofD_inj ⟨hn0, hn1, trivial⟩ rfl rfl
theorem rofD (m : Int) (ld : List Int) (es : List En)  : KnownR Try.prog [] 13 [.val (.int .i64 m), .list (rowA gI ld) ld.length, .list (rowA gE es) es.length] (.tuple #[.int .i64 (woN m ld es), .complex .f64 0 (woL m ld es).length, .int .i64 (chX m ld es)]) ([(rowA gI (woL m ld es), 3)]) := rrof_is m ld es
noncomputable def rofD_A (p : Int × List Int × List En × Nat × Nat × Unit) : List D := match p with
  | (m, ld, es, nn0, nn1, _) => [.val (.int .i64 m), .list (rowA gI ld) nn0, .list (rowA gE es) nn1]
noncomputable def rofD_C (p : Int × List Int × List En × Nat × Nat × Unit) : Prop := match p with
  | (m, ld, es, nn0, nn1, _) => (nn0 = ld.length) ∧ (nn1 = es.length) ∧ True
noncomputable def rofD_R (p : Int × List Int × List En × Nat × Nat × Unit) : Value × Outs := match p with
  | (m, ld, es, nn0, nn1, _) => (.tuple #[.int .i64 (woN m ld es), .complex .f64 0 (woL m ld es).length, .int .i64 (chX m ld es)], [(rowA gI (woL m ld es), 3)])
theorem rofD_inj : ∀ p q, rofD_C p → rofD_C q → rofD_A p = rofD_A q → rofD_R p = rofD_R q := by
  rintro ⟨m, ld, es, nn0, nn1, _⟩ ⟨m', ld', es', nn0', nn1', _⟩ _ _ e
  simp only [rofD_A, List.cons.injEq, D.list.injEq, D.val.injEq, D.agg.injEq, Value.int.injEq, Value.bool.injEq, Value.string.injEq, Value.agg.injEq, Array.mk.injEq, and_true, true_and, gI_inj, gB_inj, gE_inj] at e
  simp_all
noncomputable def rofD_k : List D → Option (Value × Outs) := fnP rofD_A rofD_C rofD_R
theorem rofD_n (m : Int) (ld : List Int) (es : List En) (nn0 : Nat) (nn1 : Nat) (hn0 : nn0 = ld.length) (hn1 : nn1 = es.length)  : KnownR Try.prog [] 13 [.val (.int .i64 m), .list (rowA gI ld) nn0, .list (rowA gE es) nn1] (.tuple #[.int .i64 (woN m ld es), .complex .f64 0 (woL m ld es).length, .int .i64 (chX m ld es)]) ([(rowA gI (woL m ld es), 3)]) := by
  subst hn0; subst hn1; skip
  exact rofD _ _ _ 
theorem rofD_ok : ∀ ds v bs, rofD_k ds = some (v, bs) → KnownR Try.prog [] 13 ds v bs := fnP_ok (by
  rintro ⟨m, ld, es, nn0, nn1, _⟩ ⟨hn0, hn1, _⟩
  exact rofD_n _ _ _ _ _ hn0 hn1 )
theorem rofD_at (m : Int) (ld : List Int) (es : List En) (nn0 : Nat) (nn1 : Nat) (hn0 : nn0 = ld.length) (hn1 : nn1 = es.length)  : rofD_k [.val (.int .i64 m), .list (rowA gI ld) nn0, .list (rowA gE es) nn1] = some (.tuple #[.int .i64 (woN m ld es), .complex .f64 0 (woL m ld es).length, .int .i64 (chX m ld es)], [(rowA gI (woL m ld es), 3)]) := fnP_at (p := (m, ld, es, nn0, nn1, ())) rofD_inj ⟨hn0, hn1, trivial⟩ rfl rfl
theorem liD (ld : List Int) (es : List En)  : KnownR Try.prog [] 8 [.list (rowA gI ld) ld.length, .list (rowA gE es) es.length] (.bool (ltB ld es)) ([]) := light_is ld es
noncomputable def liD_A (p : List Int × List En × Nat × Nat × Unit) : List D := match p with
  | (ld, es, nn0, nn1, _) => [.list (rowA gI ld) nn0, .list (rowA gE es) nn1]
noncomputable def liD_C (p : List Int × List En × Nat × Nat × Unit) : Prop := match p with
  | (ld, es, nn0, nn1, _) => (nn0 = ld.length) ∧ (nn1 = es.length) ∧ True
noncomputable def liD_R (p : List Int × List En × Nat × Nat × Unit) : Value × Outs := match p with
  | (ld, es, nn0, nn1, _) => (.bool (ltB ld es), [])
theorem liD_inj : ∀ p q, liD_C p → liD_C q → liD_A p = liD_A q → liD_R p = liD_R q := by
  rintro ⟨ld, es, nn0, nn1, _⟩ ⟨ld', es', nn0', nn1', _⟩ _ _ e
  simp only [liD_A, List.cons.injEq, D.list.injEq, D.val.injEq, D.agg.injEq, Value.int.injEq, Value.bool.injEq, Value.string.injEq, Value.agg.injEq, Array.mk.injEq, and_true, true_and, gI_inj, gB_inj, gE_inj] at e
  simp_all
noncomputable def liD_k : List D → Option (Value × Outs) := fnP liD_A liD_C liD_R
theorem liD_n (ld : List Int) (es : List En) (nn0 : Nat) (nn1 : Nat) (hn0 : nn0 = ld.length) (hn1 : nn1 = es.length)  : KnownR Try.prog [] 8 [.list (rowA gI ld) nn0, .list (rowA gE es) nn1] (.bool (ltB ld es)) ([]) := by
  subst hn0; subst hn1; skip
  exact liD _ _ 
theorem liD_ok : ∀ ds v bs, liD_k ds = some (v, bs) → KnownR Try.prog [] 8 ds v bs := fnP_ok (by
  rintro ⟨ld, es, nn0, nn1, _⟩ ⟨hn0, hn1, _⟩
  exact liD_n _ _ _ _ hn0 hn1 )
theorem liD_at (ld : List Int) (es : List En) (nn0 : Nat) (nn1 : Nat) (hn0 : nn0 = ld.length) (hn1 : nn1 = es.length)  : liD_k [.list (rowA gI ld) nn0, .list (rowA gE es) nn1] = some (.bool (ltB ld es), []) := fnP_at (p := (ld, es, nn0, nn1, ())) liD_inj ⟨hn0, hn1, trivial⟩ rfl rfl
theorem owID (xs : List Int) (hl : (xs.length : Int) ≤ 40) : KnownR Try.prog [] 10 [.list (rowA gI xs) xs.length] (.complex .f64 0 xs.length) ([(rowA gI xs, 3)]) := owI xs hl
noncomputable def owID_A (p : List Int × Nat × Unit) : List D := match p with
  | (xs, nn0, _) => [.list (rowA gI xs) nn0]
noncomputable def owID_C (p : List Int × Nat × Unit) : Prop := match p with
  | (xs, nn0, _) => (nn0 = xs.length) ∧ ((xs.length : Int) ≤ 40) ∧ True
noncomputable def owID_R (p : List Int × Nat × Unit) : Value × Outs := match p with
  | (xs, nn0, _) => (.complex .f64 0 xs.length, [(rowA gI xs, 3)])
theorem owID_inj : ∀ p q, owID_C p → owID_C q → owID_A p = owID_A q → owID_R p = owID_R q := by
  rintro ⟨xs, nn0, _⟩ ⟨xs', nn0', _⟩ _ _ e
  simp only [owID_A, List.cons.injEq, D.list.injEq, D.val.injEq, D.agg.injEq, Value.int.injEq, Value.bool.injEq, Value.string.injEq, Value.agg.injEq, Array.mk.injEq, and_true, true_and, gI_inj, gB_inj, gE_inj] at e
  simp_all
noncomputable def owID_k : List D → Option (Value × Outs) := fnP owID_A owID_C owID_R
theorem owID_n (xs : List Int) (nn0 : Nat) (hn0 : nn0 = xs.length) (hl : (xs.length : Int) ≤ 40) : KnownR Try.prog [] 10 [.list (rowA gI xs) nn0] (.complex .f64 0 xs.length) ([(rowA gI xs, 3)]) := by
  subst hn0; skip
  exact owID _ hl
theorem owID_ok : ∀ ds v bs, owID_k ds = some (v, bs) → KnownR Try.prog [] 10 ds v bs := fnP_ok (by
  rintro ⟨xs, nn0, _⟩ ⟨hn0, hl, _⟩
  exact owID_n _ _ hn0 hl)
theorem owID_at (xs : List Int) (nn0 : Nat) (hn0 : nn0 = xs.length) (hl : (xs.length : Int) ≤ 40) : owID_k [.list (rowA gI xs) nn0] = some (.complex .f64 0 xs.length, [(rowA gI xs, 3)]) := fnP_at (p := (xs, nn0, ())) owID_inj ⟨hn0, hl, trivial⟩ rfl rfl
theorem owED (xs : List En) (hl : (xs.length : Int) ≤ 2010) : KnownR Try.prog [] 11 [.list (rowA gE xs) xs.length] (.complex .f64 0 xs.length) ([(rowA gE xs, 48)]) := owE xs hl
noncomputable def owED_A (p : List En × Nat × Unit) : List D := match p with
  | (xs, nn0, _) => [.list (rowA gE xs) nn0]
noncomputable def owED_C (p : List En × Nat × Unit) : Prop := match p with
  | (xs, nn0, _) => (nn0 = xs.length) ∧ ((xs.length : Int) ≤ 2010) ∧ True
noncomputable def owED_R (p : List En × Nat × Unit) : Value × Outs := match p with
  | (xs, nn0, _) => (.complex .f64 0 xs.length, [(rowA gE xs, 48)])
theorem owED_inj : ∀ p q, owED_C p → owED_C q → owED_A p = owED_A q → owED_R p = owED_R q := by
  rintro ⟨xs, nn0, _⟩ ⟨xs', nn0', _⟩ _ _ e
  simp only [owED_A, List.cons.injEq, D.list.injEq, D.val.injEq, D.agg.injEq, Value.int.injEq, Value.bool.injEq, Value.string.injEq, Value.agg.injEq, Array.mk.injEq, and_true, true_and, gI_inj, gB_inj, gE_inj] at e
  simp_all
noncomputable def owED_k : List D → Option (Value × Outs) := fnP owED_A owED_C owED_R
theorem owED_n (xs : List En) (nn0 : Nat) (hn0 : nn0 = xs.length) (hl : (xs.length : Int) ≤ 2010) : KnownR Try.prog [] 11 [.list (rowA gE xs) nn0] (.complex .f64 0 xs.length) ([(rowA gE xs, 48)]) := by
  subst hn0; skip
  exact owED _ hl
theorem owED_ok : ∀ ds v bs, owED_k ds = some (v, bs) → KnownR Try.prog [] 11 ds v bs := fnP_ok (by
  rintro ⟨xs, nn0, _⟩ ⟨hn0, hl, _⟩
  exact owED_n _ _ hn0 hl)
theorem owED_at (xs : List En) (nn0 : Nat) (hn0 : nn0 = xs.length) (hl : (xs.length : Int) ≤ 2010) : owED_k [.list (rowA gE xs) nn0] = some (.complex .f64 0 xs.length, [(rowA gE xs, 48)]) := fnP_at (p := (xs, nn0, ())) owED_inj ⟨hn0, hl, trivial⟩ rfl rfl
theorem siD (l : List Int) (hl : (l.length : Int) ≤ 100000) : KnownR Try.prog [] 14 [.list (rowA gI l) l.length, .list (rowA gI l) l.length] (.bool true) ([]) := si_is l hl
noncomputable def siD_A (p : List Int × Nat × Nat × Unit) : List D := match p with
  | (l, nn0, nn1, _) => [.list (rowA gI l) nn0, .list (rowA gI l) nn1]
noncomputable def siD_C (p : List Int × Nat × Nat × Unit) : Prop := match p with
  | (l, nn0, nn1, _) => (nn0 = l.length) ∧ (nn1 = l.length) ∧ ((l.length : Int) ≤ 100000) ∧ True
noncomputable def siD_R (p : List Int × Nat × Nat × Unit) : Value × Outs := match p with
  | (l, nn0, nn1, _) => (.bool true, [])
theorem siD_inj : ∀ p q, siD_C p → siD_C q → siD_A p = siD_A q → siD_R p = siD_R q := by
  rintro ⟨l, nn0, nn1, _⟩ ⟨l', nn0', nn1', _⟩ _ _ e
  simp only [siD_A, List.cons.injEq, D.list.injEq, D.val.injEq, D.agg.injEq, Value.int.injEq, Value.bool.injEq, Value.string.injEq, Value.agg.injEq, Array.mk.injEq, and_true, true_and, gI_inj, gB_inj, gE_inj] at e
  simp_all
noncomputable def siD_k : List D → Option (Value × Outs) := fnP siD_A siD_C siD_R
theorem siD_n (l : List Int) (nn0 : Nat) (nn1 : Nat) (hn0 : nn0 = l.length) (hn1 : nn1 = l.length) (hl : (l.length : Int) ≤ 100000) : KnownR Try.prog [] 14 [.list (rowA gI l) nn0, .list (rowA gI l) nn1] (.bool true) ([]) := by
  subst hn0; subst hn1; skip
  exact siD _ hl
theorem siD_ok : ∀ ds v bs, siD_k ds = some (v, bs) → KnownR Try.prog [] 14 ds v bs := fnP_ok (by
  rintro ⟨l, nn0, nn1, _⟩ ⟨hn0, hn1, hl, _⟩
  exact siD_n _ _ _ hn0 hn1 hl)
theorem siD_at (l : List Int) (nn0 : Nat) (nn1 : Nat) (hn0 : nn0 = l.length) (hn1 : nn1 = l.length) (hl : (l.length : Int) ≤ 100000) : siD_k [.list (rowA gI l) nn0, .list (rowA gI l) nn1] = some (.bool true, []) := fnP_at (p := (l, nn0, nn1, ())) siD_inj ⟨hn0, hn1, hl, trivial⟩ rfl rfl
theorem shD (l : List En) (hl : (l.length : Int) ≤ 100000) : KnownR Try.prog [] 15 [.list (rowA gE l) l.length, .list (rowA gE l) l.length] (.bool true) ([]) := sh_is l hl
noncomputable def shD_A (p : List En × Nat × Nat × Unit) : List D := match p with
  | (l, nn0, nn1, _) => [.list (rowA gE l) nn0, .list (rowA gE l) nn1]
noncomputable def shD_C (p : List En × Nat × Nat × Unit) : Prop := match p with
  | (l, nn0, nn1, _) => (nn0 = l.length) ∧ (nn1 = l.length) ∧ ((l.length : Int) ≤ 100000) ∧ True
noncomputable def shD_R (p : List En × Nat × Nat × Unit) : Value × Outs := match p with
  | (l, nn0, nn1, _) => (.bool true, [])
theorem shD_inj : ∀ p q, shD_C p → shD_C q → shD_A p = shD_A q → shD_R p = shD_R q := by
  rintro ⟨l, nn0, nn1, _⟩ ⟨l', nn0', nn1', _⟩ _ _ e
  simp only [shD_A, List.cons.injEq, D.list.injEq, D.val.injEq, D.agg.injEq, Value.int.injEq, Value.bool.injEq, Value.string.injEq, Value.agg.injEq, Array.mk.injEq, and_true, true_and, gI_inj, gB_inj, gE_inj] at e
  simp_all
noncomputable def shD_k : List D → Option (Value × Outs) := fnP shD_A shD_C shD_R
theorem shD_n (l : List En) (nn0 : Nat) (nn1 : Nat) (hn0 : nn0 = l.length) (hn1 : nn1 = l.length) (hl : (l.length : Int) ≤ 100000) : KnownR Try.prog [] 15 [.list (rowA gE l) nn0, .list (rowA gE l) nn1] (.bool true) ([]) := by
  subst hn0; subst hn1; skip
  exact shD _ hl
theorem shD_ok : ∀ ds v bs, shD_k ds = some (v, bs) → KnownR Try.prog [] 15 ds v bs := fnP_ok (by
  rintro ⟨l, nn0, nn1, _⟩ ⟨hn0, hn1, hl, _⟩
  exact shD_n _ _ _ hn0 hn1 hl)
theorem shD_at (l : List En) (nn0 : Nat) (nn1 : Nat) (hn0 : nn0 = l.length) (hn1 : nn1 = l.length) (hl : (l.length : Int) ≤ 100000) : shD_k [.list (rowA gE l) nn0, .list (rowA gE l) nn1] = some (.bool true, []) := fnP_at (p := (l, nn0, nn1, ())) shD_inj ⟨hn0, hn1, hl, trivial⟩ rfl rfl
noncomputable def tabW : GTab := (GTab.fnD 12 wofD_k (GTab.fnD 13 rofD_k (GTab.fnD 8 liD_k (GTab.fnD 10 owID_k (GTab.fnD 11 owED_k (GTab.fnD 14 siD_k (GTab.fnD 15 shD_k (GTab.fn1 9 (fun l => match l with | [] => some (.bool true) | _ => none) GTab.none))))))))
theorem tabW_ok : GOk Try.prog [] tabW := (GOk.fnD wofD_ok (GOk.fnD rofD_ok (GOk.fnD liD_ok (GOk.fnD owID_ok (GOk.fnD owED_ok (GOk.fnD siD_ok (GOk.fnD shD_ok (GOk.fn1 (known0 knWordAwake_e0) GOk.none))))))))
theorem wsA_p0 (m : Int) (ld : List Int) (es : List En) (hL : ltB ld es = true) (h1 : (ld.length : Int) ≤ 12) (h2 : (es.length : Int) ≤ 2010) (h3 : ((woL m ld es).length : Int) ≤ 8) (hq0 : (!ltB ld es) = false) (hq1 : (woN m ld es == woN m ld es) = true) (hq2 : (chX m ld es == chX m ld es) = true) : KnownR Try.prog [] 3 [.val (.int .i64 m), .list (rowA gI ld) ld.length, .list (rowA gE es) es.length] (.bool (true)) [] :=
  knownR_eq (v := Value.bool true) (bs := []) (open_resD mix tabW_ok (T := tabW) (fuel := 3000) (es := []) (ans := [(0, .outs (Value.bool (ltB ld es)) ([])), (1, .b 0), (2, .outs (Value.complex FloatKind.f64 (0 : Nat) ld.length) ([(rowA gI ld, (3 : TypeId))])), (3, .outs (Value.complex FloatKind.f64 (0 : Nat) es.length) ([(rowA gE es, (48 : TypeId))])), (4, .outs (Value.tuple #[Value.int IntKind.i64 (woN m ld es), Value.complex FloatKind.f64 (0 : Nat) (woL m ld es).length, Value.int IntKind.i64 (chX m ld es)]) ([(rowA gI (woL m ld es), (3 : TypeId))])), (5, .outs (Value.tuple #[Value.int IntKind.i64 (woN m ld es), Value.complex FloatKind.f64 (0 : Nat) (woL m ld es).length, Value.int IntKind.i64 (chX m ld es)]) ([(rowA gI (woL m ld es), (3 : TypeId))])), (6, .b 1), (9, .outs (Value.bool true) ([])), (15, .b 1), (18, .outs (Value.bool true) ([])), (23, .outs (Value.bool true) ([]))]) (log := [(GTab.lookD (tabW) ((15 : Nat)) ([D.list (rowA gE es) es.length, D.list (rowA gE es) es.length])) = some (Value.bool true, []), (GTab.lookD (tabW) ((14 : Nat)) ([D.list (rowA gI ld) ld.length, D.list (rowA gI ld) ld.length])) = some (Value.bool true, []), (chX m ld es == chX m ld es) = true, (GTab.lookD (tabW) ((14 : Nat)) ([D.list (rowA gI (woL m ld es)) (woL m ld es).length, D.list (rowA gI (woL m ld es)) (woL m ld es).length])) = some (Value.bool true, []), (woN m ld es == woN m ld es) = true, (GTab.lookD (tabW) ((13 : Nat)) ([D.val (Value.int IntKind.i64 m), D.list (rowA gI ld) ld.length, D.list (rowA gE es) es.length])) = some (Value.tuple #[Value.int IntKind.i64 (woN m ld es), Value.complex FloatKind.f64 (0 : Nat) (woL m ld es).length, Value.int IntKind.i64 (chX m ld es)], [(rowA gI (woL m ld es), (3 : TypeId))]), (GTab.lookD (tabW) ((12 : Nat)) ([D.val (Value.int IntKind.i64 m), D.list (rowA gI ld) ld.length, D.list (rowA gE es) es.length])) = some (Value.tuple #[Value.int IntKind.i64 (woN m ld es), Value.complex FloatKind.f64 (0 : Nat) (woL m ld es).length, Value.int IntKind.i64 (chX m ld es)], [(rowA gI (woL m ld es), (3 : TypeId))]), (GTab.lookD (tabW) ((11 : Nat)) ([D.list (rowA gE es) es.length])) = some (Value.complex FloatKind.f64 (0 : Nat) es.length, [(rowA gE es, (48 : TypeId))]), (GTab.lookD (tabW) ((10 : Nat)) ([D.list (rowA gI ld) ld.length])) = some (Value.complex FloatKind.f64 (0 : Nat) ld.length, [(rowA gI ld, (3 : TypeId))]), (!ltB ld es) = false, (GTab.lookD (tabW) ((8 : Nat)) ([D.list (rowA gI ld) ld.length, D.list (rowA gE es) es.length])) = some (Value.bool (ltB ld es), [])]) (by kernel_rfl) ⟨(shD_at (es) (es.length) (es.length) (by first | rfl | assumption | omega | (simp; done) | (simp_all; done) | (simp_all; omega)) (by first | rfl | assumption | omega | (simp; done) | (simp_all; done) | (simp_all; omega)) (by first | rfl | assumption | omega | (simp; done) | (simp_all; done) | (simp_all; omega))), (siD_at (ld) (ld.length) (ld.length) (by first | rfl | assumption | omega | (simp; done) | (simp_all; done) | (simp_all; omega)) (by first | rfl | assumption | omega | (simp; done) | (simp_all; done) | (simp_all; omega)) (by first | rfl | assumption | omega | (simp; done) | (simp_all; done) | (simp_all; omega))), hq2, (siD_at (woL m ld es) ((woL m ld es).length) ((woL m ld es).length) (by first | rfl | assumption | omega | (simp; done) | (simp_all; done) | (simp_all; omega)) (by first | rfl | assumption | omega | (simp; done) | (simp_all; done) | (simp_all; omega)) (by first | rfl | assumption | omega | (simp; done) | (simp_all; done) | (simp_all; omega))), hq1, (rofD_at (m) (ld) (es) (ld.length) (es.length) (by first | rfl | assumption | omega | (simp; done) | (simp_all; done) | (simp_all; omega)) (by first | rfl | assumption | omega | (simp; done) | (simp_all; done) | (simp_all; omega))), (wofD_at (m) (ld) (es) (ld.length) (es.length) (by first | rfl | assumption | omega | (simp; done) | (simp_all; done) | (simp_all; omega)) (by first | rfl | assumption | omega | (simp; done) | (simp_all; done) | (simp_all; omega))), (owED_at (es) (es.length) (by first | rfl | assumption | omega | (simp; done) | (simp_all; done) | (simp_all; omega)) (by first | rfl | assumption | omega | (simp; done) | (simp_all; done) | (simp_all; omega))), (owID_at (ld) (ld.length) (by first | rfl | assumption | omega | (simp; done) | (simp_all; done) | (simp_all; omega)) (by first | rfl | assumption | omega | (simp; done) | (simp_all; done) | (simp_all; omega))), hq0, (liD_at (ld) (es) (ld.length) (es.length) (by first | rfl | assumption | omega | (simp; done) | (simp_all; done) | (simp_all; omega)) (by first | rfl | assumption | omega | (simp; done) | (simp_all; done) | (simp_all; omega))), trivial⟩ (by kernel_rfl)) (by first | rfl | (simp; done) | (simp_all; done)) (by first | rfl | (simp [rowA_nil]; done) | (simp only [rowA_eq]; rfl) | (simp_all [rowA_nil]; done))
set_option maxHeartbeats 8000000 in
theorem wsA (m : Int) (ld : List Int) (es : List En) (hL : ltB ld es = true) (h1 : (ld.length : Int) ≤ 12) (h2 : (es.length : Int) ≤ 2010) (h3 : ((woL m ld es).length : Int) ≤ 8) : KnownR Try.prog [] 3 [.val (.int .i64 m), .list (rowA gI ld) ld.length, .list (rowA gE es) es.length] (.bool (true)) [] := by
  have hq0 : (!ltB ld es) = false := by
    rcases Bool.eq_false_or_eq_true (!ltB ld es) with h | h
    · exfalso; (first | (simp_all only [Bool.and_eq_true, Bool.not_eq_true', Bool.false_eq_true, Bool.true_eq_false, reduceCtorEq]; done) | (simp only [sx, sy, eq_self, ne_eq, IntKind.wrap_i64, wrapU64, Int.reduceLT] at * <;> first | contradiction | omega) | omega | ((try simp only [sx, sy, eq_self, ne_eq, IntKind.wrap_i64, wrapU64, Int.reduceLT] at *) <;> omega) | (simp_all; done))
    · exact h
  have hq1 : (woN m ld es == woN m ld es) = true := by
    rcases Bool.eq_false_or_eq_true (woN m ld es == woN m ld es) with h | h
    · exact h
    · exfalso; (first | (simp_all only [Bool.and_eq_true, Bool.not_eq_true', Bool.false_eq_true, Bool.true_eq_false, reduceCtorEq]; done) | (simp only [sx, sy, eq_self, ne_eq, IntKind.wrap_i64, wrapU64, Int.reduceLT] at * <;> first | contradiction | omega) | omega | ((try simp only [sx, sy, eq_self, ne_eq, IntKind.wrap_i64, wrapU64, Int.reduceLT] at *) <;> omega) | (simp_all; done))
  have hq2 : (chX m ld es == chX m ld es) = true := by
    rcases Bool.eq_false_or_eq_true (chX m ld es == chX m ld es) with h | h
    · exact h
    · exfalso; (first | (simp_all only [Bool.and_eq_true, Bool.not_eq_true', Bool.false_eq_true, Bool.true_eq_false, reduceCtorEq]; done) | (simp only [sx, sy, eq_self, ne_eq, IntKind.wrap_i64, wrapU64, Int.reduceLT] at * <;> first | contradiction | omega) | omega | ((try simp only [sx, sy, eq_self, ne_eq, IntKind.wrap_i64, wrapU64, Int.reduceLT] at *) <;> omega) | (simp_all; done))
  exact wsA_p0 m ld es hL h1 h2 h3 hq0 hq1 hq2

theorem wsE_p0 (m : Int) (ld : List Int) (es : List En) (hL : ltB ld es = false) (hq0 : (!ltB ld es) = true) : KnownR Try.prog [] 3 [.val (.int .i64 m), .list (rowA gI ld) ld.length, .list (rowA gE es) es.length] (.bool (true)) [] :=
  knownR_eq (v := Value.bool true) (bs := []) (open_resD mix tabW_ok (T := tabW) (fuel := 3000) (es := []) (ans := [(0, .outs (Value.bool (ltB ld es)) ([])), (1, .b 1)]) (log := [(!ltB ld es) = true, (GTab.lookD (tabW) ((8 : Nat)) ([D.list (rowA gI ld) ld.length, D.list (rowA gE es) es.length])) = some (Value.bool (ltB ld es), [])]) (by kernel_rfl) ⟨hq0, (liD_at (ld) (es) (ld.length) (es.length) (by first | rfl | assumption | omega | (simp; done) | (simp_all; done) | (simp_all; omega)) (by first | rfl | assumption | omega | (simp; done) | (simp_all; done) | (simp_all; omega))), trivial⟩ (by kernel_rfl)) (by first | rfl | (simp; done) | (simp_all; done)) (by first | rfl | (simp [rowA_nil]; done) | (simp only [rowA_eq]; rfl) | (simp_all [rowA_nil]; done))
set_option maxHeartbeats 8000000 in
theorem wsE (m : Int) (ld : List Int) (es : List En) (hL : ltB ld es = false) : KnownR Try.prog [] 3 [.val (.int .i64 m), .list (rowA gI ld) ld.length, .list (rowA gE es) es.length] (.bool (true)) [] := by
  have hq0 : (!ltB ld es) = true := by
    rcases Bool.eq_false_or_eq_true (!ltB ld es) with h | h
    · exact h
    · exfalso; (first | (simp_all only [Bool.and_eq_true, Bool.not_eq_true', Bool.false_eq_true, Bool.true_eq_false, reduceCtorEq]; done) | (simp only [sx, sy, eq_self, ne_eq, IntKind.wrap_i64, wrapU64, Int.reduceLT] at * <;> first | contradiction | omega) | omega | ((try simp only [sx, sy, eq_self, ne_eq, IntKind.wrap_i64, wrapU64, Int.reduceLT] at *) <;> omega) | (simp_all; done))
  exact wsE_p0 m ld es hL hq0

end Go.Proofs.Ytfpabkpmcmfbhaa
