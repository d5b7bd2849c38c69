import Derived.Test.YtbhmgchkgbenmaaLK
set_option linter.unnecessarySimpa false
set_option linter.unusedSimpArgs false
set_option linter.unusedVariables false
namespace Go.Proofs.Ytbhmgchkgbenmaa
open Go Go.RowKit
theorem ownD (xs : List Mv) (hl : xs.length ≤ 10010) : KnownR Try.prog [] 12 [.list (rowA gM xs) xs.length] (.complex .f64 0 xs.length) ([(rowA gM xs, 38)]) := own0 xs hl
noncomputable def ownD_A (p : List Mv × Nat × Unit) : List D := match p with
 | (xs, nn0, _) => [.list (rowA gM xs) nn0]
noncomputable def ownD_C (p : List Mv × Nat × Unit) : Prop := match p with
 | (xs, nn0, _) => (nn0 = xs.length) ∧ (xs.length ≤ 10010) ∧ True
noncomputable def ownD_R (p : List Mv × Nat × Unit) : Value × Outs := match p with
 | (xs, nn0, _) => (.complex .f64 0 xs.length, [(rowA gM xs, 38)])
theorem ownD_inj : ∀ p q, ownD_C p → ownD_C q → ownD_A p = ownD_A q → ownD_R p = ownD_R q := by
 rintro ⟨xs, nn0, _⟩ ⟨xs', nn0', _⟩ _ _ e
 simp only [ownD_A, List.cons.injEq, D.list.injEq, D.val.injEq, D.agg.injEq, Value.int.injEq, Value.bool.injEq, Value.string.injEq, Value.agg.injEq, Array.mk.injEq, and_true, true_and, gI_inj, gB_inj, gM_inj] at e
 simp_all
noncomputable def ownD_k : List D → Option (Value × Outs) := fnP ownD_A ownD_C ownD_R
theorem ownD_n (xs : List Mv) (nn0 : Nat) (hn0 : nn0 = xs.length) (hl : xs.length ≤ 10010) : KnownR Try.prog [] 12 [.list (rowA gM xs) nn0] (.complex .f64 0 xs.length) ([(rowA gM xs, 38)]) := by
 subst hn0; skip
 exact ownD _ hl
theorem ownD_ok : ∀ ds v bs, ownD_k ds = some (v, bs) → KnownR Try.prog [] 12 ds v bs := fnP_ok (by
 rintro ⟨xs, nn0, _⟩ ⟨hn0, hl, _⟩
 exact ownD_n _ _ hn0 hl)
theorem ownD_at (xs : List Mv) (nn0 : Nat) (hn0 : nn0 = xs.length) (hl : xs.length ≤ 10010) : ownD_k [.list (rowA gM xs) nn0] = some (.complex .f64 0 xs.length, [(rowA gM xs, 38)]) := fnP_at (p := (xs, nn0, ())) ownD_inj ⟨hn0, hl, trivial⟩ rfl rfl
theorem smD (xs : List Mv) (hx : xs.length ≤ 20000) : KnownR Try.prog [] 18 [.list (rowA gM xs) xs.length, .list (rowA gM xs) xs.length] (.bool true) ([]) := same_m xs hx
noncomputable def smD_A (p : List Mv × Nat × Nat × Unit) : List D := match p with
 | (xs, nn0, nn1, _) => [.list (rowA gM xs) nn0, .list (rowA gM xs) nn1]
noncomputable def smD_C (p : List Mv × Nat × Nat × Unit) : Prop := match p with
 | (xs, nn0, nn1, _) => (nn0 = xs.length) ∧ (nn1 = xs.length) ∧ (xs.length ≤ 20000) ∧ True
noncomputable def smD_R (p : List Mv × Nat × Nat × Unit) : Value × Outs := match p with
 | (xs, nn0, nn1, _) => (.bool true, [])
theorem smD_inj : ∀ p q, smD_C p → smD_C q → smD_A p = smD_A q → smD_R p = smD_R q := by
 rintro ⟨xs, nn0, nn1, _⟩ ⟨xs', nn0', nn1', _⟩ _ _ e
 simp only [smD_A, List.cons.injEq, D.list.injEq, D.val.injEq, D.agg.injEq, Value.int.injEq, Value.bool.injEq, Value.string.injEq, Value.agg.injEq, Array.mk.injEq, and_true, true_and, gI_inj, gB_inj, gM_inj] at e
 simp_all
noncomputable def smD_k : List D → Option (Value × Outs) := fnP smD_A smD_C smD_R
theorem smD_n (xs : List Mv) (nn0 : Nat) (nn1 : Nat) (hn0 : nn0 = xs.length) (hn1 : nn1 = xs.length) (hx : xs.length ≤ 20000) : KnownR Try.prog [] 18 [.list (rowA gM xs) nn0, .list (rowA gM xs) nn1] (.bool true) ([]) := by
 subst hn0; subst hn1; skip
 exact smD _ hx
theorem smD_ok : ∀ ds v bs, smD_k ds = some (v, bs) → KnownR Try.prog [] 18 ds v bs := fnP_ok (by
 rintro ⟨xs, nn0, nn1, _⟩ ⟨hn0, hn1, hx, _⟩
 exact smD_n _ _ _ hn0 hn1 hx)
theorem smD_at (xs : List Mv) (nn0 : Nat) (nn1 : Nat) (hn0 : nn0 = xs.length) (hn1 : nn1 = xs.length) (hx : xs.length ≤ 20000) : smD_k [.list (rowA gM xs) nn0, .list (rowA gM xs) nn1] = some (.bool true, []) := fnP_at (p := (xs, nn0, nn1, ())) smD_inj ⟨hn0, hn1, hx, trivial⟩ rfl rfl
theorem siD (xs : List Int) (hx : xs.length ≤ 20000) : KnownR Try.prog [] 17 [.list (rowA gI xs) xs.length, .list (rowA gI xs) xs.length] (.bool true) ([]) := same_i xs hx
noncomputable def siD_A (p : List Int × Nat × Nat × Unit) : List D := match p with
 | (xs, nn0, nn1, _) => [.list (rowA gI xs) nn0, .list (rowA gI xs) nn1]
noncomputable def siD_C (p : List Int × Nat × Nat × Unit) : Prop := match p with
 | (xs, nn0, nn1, _) => (nn0 = xs.length) ∧ (nn1 = xs.length) ∧ (xs.length ≤ 20000) ∧ True
noncomputable def siD_R (p : List Int × Nat × Nat × Unit) : Value × Outs := match p with
 | (xs, nn0, nn1, _) => (.bool true, [])
theorem siD_inj : ∀ p q, siD_C p → siD_C q → siD_A p = siD_A q → siD_R p = siD_R q := by
 rintro ⟨xs, nn0, nn1, _⟩ ⟨xs', nn0', nn1', _⟩ _ _ e
 simp only [siD_A, List.cons.injEq, D.list.injEq, D.val.injEq, D.agg.injEq, Value.int.injEq, Value.bool.injEq, Value.string.injEq, Value.agg.injEq, Array.mk.injEq, and_true, true_and, gI_inj, gB_inj, gM_inj] at e
 simp_all
noncomputable def siD_k : List D → Option (Value × Outs) := fnP siD_A siD_C siD_R
theorem siD_n (xs : List Int) (nn0 : Nat) (nn1 : Nat) (hn0 : nn0 = xs.length) (hn1 : nn1 = xs.length) (hx : xs.length ≤ 20000) : KnownR Try.prog [] 17 [.list (rowA gI xs) nn0, .list (rowA gI xs) nn1] (.bool true) ([]) := by
 subst hn0; subst hn1; skip
 exact siD _ hx
theorem siD_ok : ∀ ds v bs, siD_k ds = some (v, bs) → KnownR Try.prog [] 17 ds v bs := fnP_ok (by
 rintro ⟨xs, nn0, nn1, _⟩ ⟨hn0, hn1, hx, _⟩
 exact siD_n _ _ _ hn0 hn1 hx)
theorem siD_at (xs : List Int) (nn0 : Nat) (nn1 : Nat) (hn0 : nn0 = xs.length) (hn1 : nn1 = xs.length) (hx : xs.length ≤ 20000) : siD_k [.list (rowA gI xs) nn0, .list (rowA gI xs) nn1] = some (.bool true, []) := fnP_at (p := (xs, nn0, nn1, ())) siD_inj ⟨hn0, hn1, hx, trivial⟩ rfl rfl
end Go.Proofs.Ytbhmgchkgbenmaa
