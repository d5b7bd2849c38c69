import Derived.Test.YtbhmgchkgbenmaaLK
set_option linter.unnecessarySimpa false
set_option linter.unusedSimpArgs false
set_option linter.unusedVariables false
namespace Go.Proofs.Ytbhmgchkgbenmaa
open Go Go.RowKit
theorem jpD (xs : List Mv)  : KnownR Try.prog [] 23 [.list (rowA gM xs) xs.length] (.tuple #[.complex .f64 0 (jL xs).length, .int .i64 (cAll xs)]) ([(rowA gI (jL xs), 3)]) := jumps_p xs
noncomputable def jpD_A (p : List Mv × Nat × Unit) : List D := match p with
 | (xs, nn0, _) => [.list (rowA gM xs) nn0]
noncomputable def jpD_C (p : List Mv × Nat × Unit) : Prop := match p with
 | (xs, nn0, _) => (nn0 = xs.length) ∧ True
noncomputable def jpD_R (p : List Mv × Nat × Unit) : Value × Outs := match p with
 | (xs, nn0, _) => (.tuple #[.complex .f64 0 (jL xs).length, .int .i64 (cAll xs)], [(rowA gI (jL xs), 3)])
theorem jpD_inj : ∀ p q, jpD_C p → jpD_C q → jpD_A p = jpD_A q → jpD_R p = jpD_R q := by
 rintro ⟨xs, nn0, _⟩ ⟨xs', nn0', _⟩ _ _ e
 simp only [jpD_A, List.cons.injEq, D.list.injEq, D.val.injEq, D.agg.injEq, Value.int.injEq, Value.bool.injEq, Value.string.injEq, Value.agg.injEq, Array.mk.injEq, and_true, true_and, gI_inj, gB_inj, gM_inj] at e
 simp_all
noncomputable def jpD_k : List D → Option (Value × Outs) := fnP jpD_A jpD_C jpD_R
theorem jpD_n (xs : List Mv) (nn0 : Nat) (hn0 : nn0 = xs.length)  : KnownR Try.prog [] 23 [.list (rowA gM xs) nn0] (.tuple #[.complex .f64 0 (jL xs).length, .int .i64 (cAll xs)]) ([(rowA gI (jL xs), 3)]) := by
 subst hn0; skip
 exact jpD _ 
theorem jpD_ok : ∀ ds v bs, jpD_k ds = some (v, bs) → KnownR Try.prog [] 23 ds v bs := fnP_ok (by
 rintro ⟨xs, nn0, _⟩ ⟨hn0, _⟩
 exact jpD_n _ _ hn0 )
theorem jpD_at (xs : List Mv) (nn0 : Nat) (hn0 : nn0 = xs.length)  : jpD_k [.list (rowA gM xs) nn0] = some (.tuple #[.complex .f64 0 (jL xs).length, .int .i64 (cAll xs)], [(rowA gI (jL xs), 3)]) := fnP_at (p := (xs, nn0, ())) jpD_inj ⟨hn0, trivial⟩ rfl rfl
theorem spD (xs : List Mv)  : KnownR Try.prog [] 25 [.list (rowA gM xs) xs.length] (.tuple #[.complex .f64 0 (sL xs).length, .int .i64 (cAll xs)]) ([(rowA gI (sL xs), 3)]) := stops_p xs
noncomputable def spD_A (p : List Mv × Nat × Unit) : List D := match p with
 | (xs, nn0, _) => [.list (rowA gM xs) nn0]
noncomputable def spD_C (p : List Mv × Nat × Unit) : Prop := match p with
 | (xs, nn0, _) => (nn0 = xs.length) ∧ True
noncomputable def spD_R (p : List Mv × Nat × Unit) : Value × Outs := match p with
 | (xs, nn0, _) => (.tuple #[.complex .f64 0 (sL xs).length, .int .i64 (cAll xs)], [(rowA gI (sL xs), 3)])
theorem spD_inj : ∀ p q, spD_C p → spD_C q → spD_A p = spD_A q → spD_R p = spD_R q := by
 rintro ⟨xs, nn0, _⟩ ⟨xs', nn0', _⟩ _ _ e
 simp only [spD_A, List.cons.injEq, D.list.injEq, D.val.injEq, D.agg.injEq, Value.int.injEq, Value.bool.injEq, Value.string.injEq, Value.agg.injEq, Array.mk.injEq, and_true, true_and, gI_inj, gB_inj, gM_inj] at e
 simp_all
noncomputable def spD_k : List D → Option (Value × Outs) := fnP spD_A spD_C spD_R
theorem spD_n (xs : List Mv) (nn0 : Nat) (hn0 : nn0 = xs.length)  : KnownR Try.prog [] 25 [.list (rowA gM xs) nn0] (.tuple #[.complex .f64 0 (sL xs).length, .int .i64 (cAll xs)]) ([(rowA gI (sL xs), 3)]) := by
 subst hn0; skip
 exact spD _ 
theorem spD_ok : ∀ ds v bs, spD_k ds = some (v, bs) → KnownR Try.prog [] 25 ds v bs := fnP_ok (by
 rintro ⟨xs, nn0, _⟩ ⟨hn0, _⟩
 exact spD_n _ _ hn0 )
theorem spD_at (xs : List Mv) (nn0 : Nat) (hn0 : nn0 = xs.length)  : spD_k [.list (rowA gM xs) nn0] = some (.tuple #[.complex .f64 0 (sL xs).length, .int .i64 (cAll xs)], [(rowA gI (sL xs), 3)]) := fnP_at (p := (xs, nn0, ())) spD_inj ⟨hn0, trivial⟩ rfl rfl
end Go.Proofs.Ytbhmgchkgbenmaa
