/- Layer 5: the contracts; RingLooks, RingChanges. -/
import Derived.Test.YtpmcjjpgkoagoaaXD
import Derived.Test.YtpmcjjpgkoagoaaOgG
import Derived.Test.YtpmcjjpgkoagoaaKnRingKnown
import Derived.ProofKit
import Derived.IntWalk
namespace Go.Proofs.Ytpmcjjpgkoagoaa
open Go Go.RowKit
set_option linter.unusedVariables false
set_option linter.unusedSimpArgs false
set_option linter.unnecessarySimpa false
set_option maxHeartbeats 8000000
set_option maxRecDepth 100000
theorem pckD (c m : Int) (l : List Hel)  : KnownR Try.prog [] 14 [.agg [.val (.int .i64 c), .val (.int .u64 m), .list (rowA gH l) l.length]] (.tuple #[.int .i64 (ckX c m l), .int .i64 (ckJ c m l)]) ([]) := pcheck_is c m l
noncomputable def pckD_A (p : Int × Int × List Hel × Nat × Unit) : List D := match p with
  | (c, m, l, nn0, _) => [.agg [.val (.int .i64 c), .val (.int .u64 m), .list (rowA gH l) nn0]]
noncomputable def pckD_C (p : Int × Int × List Hel × Nat × Unit) : Prop := match p with
  | (c, m, l, nn0, _) => (nn0 = l.length) ∧ True
noncomputable def pckD_R (p : Int × Int × List Hel × Nat × Unit) : Value × Outs := match p with
  | (c, m, l, nn0, _) => (.tuple #[.int .i64 (ckX c m l), .int .i64 (ckJ c m l)], [])
theorem pckD_inj : ∀ p q, pckD_C p → pckD_C q → pckD_A p = pckD_A q → pckD_R p = pckD_R q := by
  rintro ⟨c, m, l, nn0, _⟩ ⟨c', m', l', nn0', _⟩ _ _ e
  simp only [pckD_A, List.cons.injEq, D.list.injEq, D.val.injEq, D.agg.injEq, Value.int.injEq, Value.bool.injEq, Value.string.injEq, Value.agg.injEq, Array.mk.injEq, and_true, true_and, gI_inj, gB_inj, gH_inj] at e
  simp_all
noncomputable def pckD_k : List D → Option (Value × Outs) := fnP pckD_A pckD_C pckD_R
theorem pckD_n (c m : Int) (l : List Hel) (nn0 : Nat) (hn0 : nn0 = l.length)  : KnownR Try.prog [] 14 [.agg [.val (.int .i64 c), .val (.int .u64 m), .list (rowA gH l) nn0]] (.tuple #[.int .i64 (ckX c m l), .int .i64 (ckJ c m l)]) ([]) := by
  subst hn0; skip
  exact pckD _ _ _ 
theorem pckD_ok : ∀ ds v bs, pckD_k ds = some (v, bs) → KnownR Try.prog [] 14 ds v bs := fnP_ok (by
  rintro ⟨c, m, l, nn0, _⟩ ⟨hn0, _⟩
  exact pckD_n _ _ _ _ hn0 )
theorem pckD_at (c m : Int) (l : List Hel) (nn0 : Nat) (hn0 : nn0 = l.length)  : pckD_k [.agg [.val (.int .i64 c), .val (.int .u64 m), .list (rowA gH l) nn0]] = some (.tuple #[.int .i64 (ckX c m l), .int .i64 (ckJ c m l)], []) := fnP_at (p := (c, m, l, nn0, ())) pckD_inj ⟨hn0, trivial⟩ rfl rfl
theorem pfaD (c m : Int) (l : List Hel) (x : Int)  : KnownR Try.prog [] 16 [.agg [.val (.int .i64 c), .val (.int .u64 m), .list (rowA gH l) l.length], .val (.int .i64 x)] (.tuple #[.agg #[.int .u64 (faN c m l x), .int .i64 (faW c m l x)], .int .i64 (faX c m l x)]) ([]) := pfirst_is c m l x
noncomputable def pfaD_A (p : Int × Int × List Hel × Int × Nat × Unit) : List D := match p with
  | (c, m, l, x, nn0, _) => [.agg [.val (.int .i64 c), .val (.int .u64 m), .list (rowA gH l) nn0], .val (.int .i64 x)]
noncomputable def pfaD_C (p : Int × Int × List Hel × Int × Nat × Unit) : Prop := match p with
  | (c, m, l, x, nn0, _) => (nn0 = l.length) ∧ True
noncomputable def pfaD_R (p : Int × Int × List Hel × Int × Nat × Unit) : Value × Outs := match p with
  | (c, m, l, x, nn0, _) => (.tuple #[.agg #[.int .u64 (faN c m l x), .int .i64 (faW c m l x)], .int .i64 (faX c m l x)], [])
theorem pfaD_inj : ∀ p q, pfaD_C p → pfaD_C q → pfaD_A p = pfaD_A q → pfaD_R p = pfaD_R q := by
  rintro ⟨c, m, l, x, nn0, _⟩ ⟨c', m', l', x', nn0', _⟩ _ _ e
  simp only [pfaD_A, List.cons.injEq, D.list.injEq, D.val.injEq, D.agg.injEq, Value.int.injEq, Value.bool.injEq, Value.string.injEq, Value.agg.injEq, Array.mk.injEq, and_true, true_and, gI_inj, gB_inj, gH_inj] at e
  simp_all
noncomputable def pfaD_k : List D → Option (Value × Outs) := fnP pfaD_A pfaD_C pfaD_R
theorem pfaD_n (c m : Int) (l : List Hel) (x : Int) (nn0 : Nat) (hn0 : nn0 = l.length)  : KnownR Try.prog [] 16 [.agg [.val (.int .i64 c), .val (.int .u64 m), .list (rowA gH l) nn0], .val (.int .i64 x)] (.tuple #[.agg #[.int .u64 (faN c m l x), .int .i64 (faW c m l x)], .int .i64 (faX c m l x)]) ([]) := by
  subst hn0; skip
  exact pfaD _ _ _ _ 
theorem pfaD_ok : ∀ ds v bs, pfaD_k ds = some (v, bs) → KnownR Try.prog [] 16 ds v bs := fnP_ok (by
  rintro ⟨c, m, l, x, nn0, _⟩ ⟨hn0, _⟩
  exact pfaD_n _ _ _ _ _ hn0 )
theorem pfaD_at (c m : Int) (l : List Hel) (x : Int) (nn0 : Nat) (hn0 : nn0 = l.length)  : pfaD_k [.agg [.val (.int .i64 c), .val (.int .u64 m), .list (rowA gH l) nn0], .val (.int .i64 x)] = some (.tuple #[.agg #[.int .u64 (faN c m l x), .int .i64 (faW c m l x)], .int .i64 (faX c m l x)], []) := fnP_at (p := (c, m, l, x, nn0, ())) pfaD_inj ⟨hn0, trivial⟩ rfl rfl
theorem pfdD (c m : Int) (l : List Hel) (x : Int)  : KnownR Try.prog [] 18 [.agg [.val (.int .i64 c), .val (.int .u64 m), .list (rowA gH l) l.length], .val (.int .u64 x)] (.tuple #[.int .i64 (fiI c m l x), .int .i64 (fiX c m l x)]) ([]) := pfind_is c m l x
noncomputable def pfdD_A (p : Int × Int × List Hel × Int × Nat × Unit) : List D := match p with
  | (c, m, l, x, nn0, _) => [.agg [.val (.int .i64 c), .val (.int .u64 m), .list (rowA gH l) nn0], .val (.int .u64 x)]
noncomputable def pfdD_C (p : Int × Int × List Hel × Int × Nat × Unit) : Prop := match p with
  | (c, m, l, x, nn0, _) => (nn0 = l.length) ∧ True
noncomputable def pfdD_R (p : Int × Int × List Hel × Int × Nat × Unit) : Value × Outs := match p with
  | (c, m, l, x, nn0, _) => (.tuple #[.int .i64 (fiI c m l x), .int .i64 (fiX c m l x)], [])
theorem pfdD_inj : ∀ p q, pfdD_C p → pfdD_C q → pfdD_A p = pfdD_A q → pfdD_R p = pfdD_R q := by
  rintro ⟨c, m, l, x, nn0, _⟩ ⟨c', m', l', x', nn0', _⟩ _ _ e
  simp only [pfdD_A, List.cons.injEq, D.list.injEq, D.val.injEq, D.agg.injEq, Value.int.injEq, Value.bool.injEq, Value.string.injEq, Value.agg.injEq, Array.mk.injEq, and_true, true_and, gI_inj, gB_inj, gH_inj] at e
  simp_all
noncomputable def pfdD_k : List D → Option (Value × Outs) := fnP pfdD_A pfdD_C pfdD_R
theorem pfdD_n (c m : Int) (l : List Hel) (x : Int) (nn0 : Nat) (hn0 : nn0 = l.length)  : KnownR Try.prog [] 18 [.agg [.val (.int .i64 c), .val (.int .u64 m), .list (rowA gH l) nn0], .val (.int .u64 x)] (.tuple #[.int .i64 (fiI c m l x), .int .i64 (fiX c m l x)]) ([]) := by
  subst hn0; skip
  exact pfdD _ _ _ _ 
theorem pfdD_ok : ∀ ds v bs, pfdD_k ds = some (v, bs) → KnownR Try.prog [] 18 ds v bs := fnP_ok (by
  rintro ⟨c, m, l, x, nn0, _⟩ ⟨hn0, _⟩
  exact pfdD_n _ _ _ _ _ hn0 )
theorem pfdD_at (c m : Int) (l : List Hel) (x : Int) (nn0 : Nat) (hn0 : nn0 = l.length)  : pfdD_k [.agg [.val (.int .i64 c), .val (.int .u64 m), .list (rowA gH l) nn0], .val (.int .u64 x)] = some (.tuple #[.int .i64 (fiI c m l x), .int .i64 (fiX c m l x)], []) := fnP_at (p := (c, m, l, x, nn0, ())) pfdD_inj ⟨hn0, trivial⟩ rfl rfl
theorem pagD (c m : Int) (l : List Hel) (x : Int)  : KnownR Try.prog [] 20 [.agg [.val (.int .i64 c), .val (.int .u64 m), .list (rowA gH l) l.length], .val (.int .u64 x)] (.tuple #[.int .u64 (pag_c0 c m l x), .int .i64 (pag_c1 c m l x)]) ([]) := pag c m l x
noncomputable def pagD_A (p : Int × Int × List Hel × Int × Nat × Unit) : List D := match p with
  | (c, m, l, x, nn0, _) => [.agg [.val (.int .i64 c), .val (.int .u64 m), .list (rowA gH l) nn0], .val (.int .u64 x)]
noncomputable def pagD_C (p : Int × Int × List Hel × Int × Nat × Unit) : Prop := match p with
  | (c, m, l, x, nn0, _) => (nn0 = l.length) ∧ True
noncomputable def pagD_R (p : Int × Int × List Hel × Int × Nat × Unit) : Value × Outs := match p with
  | (c, m, l, x, nn0, _) => (.tuple #[.int .u64 (pag_c0 c m l x), .int .i64 (pag_c1 c m l x)], [])
theorem pagD_inj : ∀ p q, pagD_C p → pagD_C q → pagD_A p = pagD_A q → pagD_R p = pagD_R q := by
  rintro ⟨c, m, l, x, nn0, _⟩ ⟨c', m', l', x', nn0', _⟩ _ _ e
  simp only [pagD_A, List.cons.injEq, D.list.injEq, D.val.injEq, D.agg.injEq, Value.int.injEq, Value.bool.injEq, Value.string.injEq, Value.agg.injEq, Array.mk.injEq, and_true, true_and, gI_inj, gB_inj, gH_inj] at e
  simp_all
noncomputable def pagD_k : List D → Option (Value × Outs) := fnP pagD_A pagD_C pagD_R
theorem pagD_n (c m : Int) (l : List Hel) (x : Int) (nn0 : Nat) (hn0 : nn0 = l.length)  : KnownR Try.prog [] 20 [.agg [.val (.int .i64 c), .val (.int .u64 m), .list (rowA gH l) nn0], .val (.int .u64 x)] (.tuple #[.int .u64 (pag_c0 c m l x), .int .i64 (pag_c1 c m l x)]) ([]) := by
  subst hn0; skip
  exact pagD _ _ _ _ 
theorem pagD_ok : ∀ ds v bs, pagD_k ds = some (v, bs) → KnownR Try.prog [] 20 ds v bs := fnP_ok (by
  rintro ⟨c, m, l, x, nn0, _⟩ ⟨hn0, _⟩
  exact pagD_n _ _ _ _ _ hn0 )
theorem pagD_at (c m : Int) (l : List Hel) (x : Int) (nn0 : Nat) (hn0 : nn0 = l.length)  : pagD_k [.agg [.val (.int .i64 c), .val (.int .u64 m), .list (rowA gH l) nn0], .val (.int .u64 x)] = some (.tuple #[.int .u64 (pag_c0 c m l x), .int .i64 (pag_c1 c m l x)], []) := fnP_at (p := (c, m, l, x, nn0, ())) pagD_inj ⟨hn0, trivial⟩ rfl rfl
theorem preD (c m : Int) (l : List Hel)  : KnownR Try.prog [] 22 [.agg [.val (.int .i64 c), .val (.int .u64 m), .list (rowA gH l) l.length]] (.tuple #[.int .i64 (prs_c0 c m l), .int .i64 (prs_c1 c m l)]) ([]) := prs c m l
noncomputable def preD_A (p : Int × Int × List Hel × Nat × Unit) : List D := match p with
  | (c, m, l, nn0, _) => [.agg [.val (.int .i64 c), .val (.int .u64 m), .list (rowA gH l) nn0]]
noncomputable def preD_C (p : Int × Int × List Hel × Nat × Unit) : Prop := match p with
  | (c, m, l, nn0, _) => (nn0 = l.length) ∧ True
noncomputable def preD_R (p : Int × Int × List Hel × Nat × Unit) : Value × Outs := match p with
  | (c, m, l, nn0, _) => (.tuple #[.int .i64 (prs_c0 c m l), .int .i64 (prs_c1 c m l)], [])
theorem preD_inj : ∀ p q, preD_C p → preD_C q → preD_A p = preD_A q → preD_R p = preD_R q := by
  rintro ⟨c, m, l, nn0, _⟩ ⟨c', m', l', nn0', _⟩ _ _ e
  simp only [preD_A, List.cons.injEq, D.list.injEq, D.val.injEq, D.agg.injEq, Value.int.injEq, Value.bool.injEq, Value.string.injEq, Value.agg.injEq, Array.mk.injEq, and_true, true_and, gI_inj, gB_inj, gH_inj] at e
  simp_all
noncomputable def preD_k : List D → Option (Value × Outs) := fnP preD_A preD_C preD_R
theorem preD_n (c m : Int) (l : List Hel) (nn0 : Nat) (hn0 : nn0 = l.length)  : KnownR Try.prog [] 22 [.agg [.val (.int .i64 c), .val (.int .u64 m), .list (rowA gH l) nn0]] (.tuple #[.int .i64 (prs_c0 c m l), .int .i64 (prs_c1 c m l)]) ([]) := by
  subst hn0; skip
  exact preD _ _ _ 
theorem preD_ok : ∀ ds v bs, preD_k ds = some (v, bs) → KnownR Try.prog [] 22 ds v bs := fnP_ok (by
  rintro ⟨c, m, l, nn0, _⟩ ⟨hn0, _⟩
  exact preD_n _ _ _ _ hn0 )
theorem preD_at (c m : Int) (l : List Hel) (nn0 : Nat) (hn0 : nn0 = l.length)  : preD_k [.agg [.val (.int .i64 c), .val (.int .u64 m), .list (rowA gH l) nn0]] = some (.tuple #[.int .i64 (prs_c0 c m l), .int .i64 (prs_c1 c m l)], []) := fnP_at (p := (c, m, l, nn0, ())) preD_inj ⟨hn0, trivial⟩ rfl rfl
theorem pnwD (x : Int)  : KnownR Try.prog [] 11 [.val (.int .i64 x)] (.tuple #[.agg #[.int .i64 (pnw_c0 x), .int .u64 (pnw_c1 x), .complex .f64 0 0], .int .i64 (pnw_c3 x)]) ([(rowA gH ([] : List Hel), 35)]) := pnw x
noncomputable def pnwD_A (p : Int × Unit) : List D := match p with
  | (x, _) => [.val (.int .i64 x)]
noncomputable def pnwD_C (p : Int × Unit) : Prop := match p with
  | (x, _) => True
noncomputable def pnwD_R (p : Int × Unit) : Value × Outs := match p with
  | (x, _) => (.tuple #[.agg #[.int .i64 (pnw_c0 x), .int .u64 (pnw_c1 x), .complex .f64 0 0], .int .i64 (pnw_c3 x)], [(rowA gH ([] : List Hel), 35)])
theorem pnwD_inj : ∀ p q, pnwD_C p → pnwD_C q → pnwD_A p = pnwD_A q → pnwD_R p = pnwD_R q := by
  rintro ⟨x, _⟩ ⟨x', _⟩ _ _ e
  simp only [pnwD_A, List.cons.injEq, D.list.injEq, D.val.injEq, D.agg.injEq, Value.int.injEq, Value.bool.injEq, Value.string.injEq, Value.agg.injEq, Array.mk.injEq, and_true, true_and, gI_inj, gB_inj, gH_inj] at e
  simp_all
noncomputable def pnwD_k : List D → Option (Value × Outs) := fnP pnwD_A pnwD_C pnwD_R
theorem pnwD_n (x : Int)    : KnownR Try.prog [] 11 [.val (.int .i64 x)] (.tuple #[.agg #[.int .i64 (pnw_c0 x), .int .u64 (pnw_c1 x), .complex .f64 0 0], .int .i64 (pnw_c3 x)]) ([(rowA gH ([] : List Hel), 35)]) := by
  skip
  exact pnwD _ 
theorem pnwD_ok : ∀ ds v bs, pnwD_k ds = some (v, bs) → KnownR Try.prog [] 11 ds v bs := fnP_ok (by
  rintro ⟨x, _⟩ _
  exact pnwD_n _  )
theorem pnwD_at (x : Int)    : pnwD_k [.val (.int .i64 x)] = some (.tuple #[.agg #[.int .i64 (pnw_c0 x), .int .u64 (pnw_c1 x), .complex .f64 0 0], .int .i64 (pnw_c3 x)], [(rowA gH ([] : List Hel), 35)]) := fnP_at (p := (x, ())) pnwD_inj trivial rfl rfl
theorem ppuD (c m : Int) (l : List Hel) (x : Int)  : KnownR Try.prog [] 25 [.agg [.val (.int .i64 c), .val (.int .u64 m), .list (rowA gH l) l.length], .val (.int .i64 x)] (.tuple #[.agg #[.int .i64 (ptV c m l c), .int .u64 (ptV c m l (m + 1)), .complex .f64 0 (ptR c m l x).length], .int .u64 (ptV c m l m), .int .i64 (ptX c m l)]) ([(rowA gH (ptR c m l x).reverse, 35)]) := pput_is c m l x
noncomputable def ppuD_A (p : Int × Int × List Hel × Int × Nat × Unit) : List D := match p with
  | (c, m, l, x, nn0, _) => [.agg [.val (.int .i64 c), .val (.int .u64 m), .list (rowA gH l) nn0], .val (.int .i64 x)]
noncomputable def ppuD_C (p : Int × Int × List Hel × Int × Nat × Unit) : Prop := match p with
  | (c, m, l, x, nn0, _) => (nn0 = l.length) ∧ True
noncomputable def ppuD_R (p : Int × Int × List Hel × Int × Nat × Unit) : Value × Outs := match p with
  | (c, m, l, x, nn0, _) => (.tuple #[.agg #[.int .i64 (ptV c m l c), .int .u64 (ptV c m l (m + 1)), .complex .f64 0 (ptR c m l x).length], .int .u64 (ptV c m l m), .int .i64 (ptX c m l)], [(rowA gH (ptR c m l x).reverse, 35)])
theorem ppuD_inj : ∀ p q, ppuD_C p → ppuD_C q → ppuD_A p = ppuD_A q → ppuD_R p = ppuD_R q := by
  rintro ⟨c, m, l, x, nn0, _⟩ ⟨c', m', l', x', nn0', _⟩ _ _ e
  simp only [ppuD_A, List.cons.injEq, D.list.injEq, D.val.injEq, D.agg.injEq, Value.int.injEq, Value.bool.injEq, Value.string.injEq, Value.agg.injEq, Array.mk.injEq, and_true, true_and, gI_inj, gB_inj, gH_inj] at e
  simp_all
noncomputable def ppuD_k : List D → Option (Value × Outs) := fnP ppuD_A ppuD_C ppuD_R
theorem ppuD_n (c m : Int) (l : List Hel) (x : Int) (nn0 : Nat) (hn0 : nn0 = l.length)  : KnownR Try.prog [] 25 [.agg [.val (.int .i64 c), .val (.int .u64 m), .list (rowA gH l) nn0], .val (.int .i64 x)] (.tuple #[.agg #[.int .i64 (ptV c m l c), .int .u64 (ptV c m l (m + 1)), .complex .f64 0 (ptR c m l x).length], .int .u64 (ptV c m l m), .int .i64 (ptX c m l)]) ([(rowA gH (ptR c m l x).reverse, 35)]) := by
  subst hn0; skip
  exact ppuD _ _ _ _ 
theorem ppuD_ok : ∀ ds v bs, ppuD_k ds = some (v, bs) → KnownR Try.prog [] 25 ds v bs := fnP_ok (by
  rintro ⟨c, m, l, x, nn0, _⟩ ⟨hn0, _⟩
  exact ppuD_n _ _ _ _ _ hn0 )
theorem ppuD_at (c m : Int) (l : List Hel) (x : Int) (nn0 : Nat) (hn0 : nn0 = l.length)  : ppuD_k [.agg [.val (.int .i64 c), .val (.int .u64 m), .list (rowA gH l) nn0], .val (.int .i64 x)] = some (.tuple #[.agg #[.int .i64 (ptV c m l c), .int .u64 (ptV c m l (m + 1)), .complex .f64 0 (ptR c m l x).length], .int .u64 (ptV c m l m), .int .i64 (ptX c m l)], [(rowA gH (ptR c m l x).reverse, 35)]) := fnP_at (p := (c, m, l, x, nn0, ())) ppuD_inj ⟨hn0, trivial⟩ rfl rfl
theorem pdrD (c m : Int) (l : List Hel) (x : Int)  : KnownR Try.prog [] 27 [.agg [.val (.int .i64 c), .val (.int .u64 m), .list (rowA gH l) l.length], .val (.int .u64 x)] (.tuple #[.agg #[.int .i64 (drV c m l x c), .int .u64 (drV c m l x m), .complex .f64 0 (drR c m l x).length], .agg #[.int .u64 (drV c m l x (el l (fiI c m l x)).1), .int .i64 (drV c m l x (el l (fiI c m l x)).2)], .int .i64 (fiX c m l x)]) ([(rowA gH (drR c m l x).reverse, 35)]) := pdrop_is c m l x
noncomputable def pdrD_A (p : Int × Int × List Hel × Int × Nat × Unit) : List D := match p with
  | (c, m, l, x, nn0, _) => [.agg [.val (.int .i64 c), .val (.int .u64 m), .list (rowA gH l) nn0], .val (.int .u64 x)]
noncomputable def pdrD_C (p : Int × Int × List Hel × Int × Nat × Unit) : Prop := match p with
  | (c, m, l, x, nn0, _) => (nn0 = l.length) ∧ True
noncomputable def pdrD_R (p : Int × Int × List Hel × Int × Nat × Unit) : Value × Outs := match p with
  | (c, m, l, x, nn0, _) => (.tuple #[.agg #[.int .i64 (drV c m l x c), .int .u64 (drV c m l x m), .complex .f64 0 (drR c m l x).length], .agg #[.int .u64 (drV c m l x (el l (fiI c m l x)).1), .int .i64 (drV c m l x (el l (fiI c m l x)).2)], .int .i64 (fiX c m l x)], [(rowA gH (drR c m l x).reverse, 35)])
theorem pdrD_inj : ∀ p q, pdrD_C p → pdrD_C q → pdrD_A p = pdrD_A q → pdrD_R p = pdrD_R q := by
  rintro ⟨c, m, l, x, nn0, _⟩ ⟨c', m', l', x', nn0', _⟩ _ _ e
  simp only [pdrD_A, List.cons.injEq, D.list.injEq, D.val.injEq, D.agg.injEq, Value.int.injEq, Value.bool.injEq, Value.string.injEq, Value.agg.injEq, Array.mk.injEq, and_true, true_and, gI_inj, gB_inj, gH_inj] at e
  simp_all
noncomputable def pdrD_k : List D → Option (Value × Outs) := fnP pdrD_A pdrD_C pdrD_R
theorem pdrD_n (c m : Int) (l : List Hel) (x : Int) (nn0 : Nat) (hn0 : nn0 = l.length)  : KnownR Try.prog [] 27 [.agg [.val (.int .i64 c), .val (.int .u64 m), .list (rowA gH l) nn0], .val (.int .u64 x)] (.tuple #[.agg #[.int .i64 (drV c m l x c), .int .u64 (drV c m l x m), .complex .f64 0 (drR c m l x).length], .agg #[.int .u64 (drV c m l x (el l (fiI c m l x)).1), .int .i64 (drV c m l x (el l (fiI c m l x)).2)], .int .i64 (fiX c m l x)]) ([(rowA gH (drR c m l x).reverse, 35)]) := by
  subst hn0; skip
  exact pdrD _ _ _ _ 
theorem pdrD_ok : ∀ ds v bs, pdrD_k ds = some (v, bs) → KnownR Try.prog [] 27 ds v bs := fnP_ok (by
  rintro ⟨c, m, l, x, nn0, _⟩ ⟨hn0, _⟩
  exact pdrD_n _ _ _ _ _ hn0 )
theorem pdrD_at (c m : Int) (l : List Hel) (x : Int) (nn0 : Nat) (hn0 : nn0 = l.length)  : pdrD_k [.agg [.val (.int .i64 c), .val (.int .u64 m), .list (rowA gH l) nn0], .val (.int .u64 x)] = some (.tuple #[.agg #[.int .i64 (drV c m l x c), .int .u64 (drV c m l x m), .complex .f64 0 (drR c m l x).length], .agg #[.int .u64 (drV c m l x (el l (fiI c m l x)).1), .int .i64 (drV c m l x (el l (fiI c m l x)).2)], .int .i64 (fiX c m l x)], [(rowA gH (drR c m l x).reverse, 35)]) := fnP_at (p := (c, m, l, x, nn0, ())) pdrD_inj ⟨hn0, trivial⟩ rfl rfl
theorem pwiD (c m : Int) (l : List Hel) (w : List Int) (hw : (w.length : Int) ≤ 1000) : KnownR Try.prog [] 29 [.agg [.val (.int .i64 c), .val (.int .u64 m), .list (rowA gH l) l.length], .list (rowA gI w) w.length] (.tuple #[.agg #[.int .i64 (okV c m l c), .int .u64 (okV c m l m), .complex .f64 0 (wkR c m l w).length], .complex .f64 1 (wgR c m l w).length, .int .i64 (ckX c m l)]) ([(rowA gH (wkR c m l w).reverse, 35), (rowA gH (wgR c m l w).reverse, 35)]) := pwipe_is c m l w hw
noncomputable def pwiD_A (p : Int × Int × List Hel × List Int × Nat × Nat × Unit) : List D := match p with
  | (c, m, l, w, nn0, nn1, _) => [.agg [.val (.int .i64 c), .val (.int .u64 m), .list (rowA gH l) nn0], .list (rowA gI w) nn1]
noncomputable def pwiD_C (p : Int × Int × List Hel × List Int × Nat × Nat × Unit) : Prop := match p with
  | (c, m, l, w, nn0, nn1, _) => (nn0 = l.length) ∧ (nn1 = w.length) ∧ ((w.length : Int) ≤ 1000) ∧ True
noncomputable def pwiD_R (p : Int × Int × List Hel × List Int × Nat × Nat × Unit) : Value × Outs := match p with
  | (c, m, l, w, nn0, nn1, _) => (.tuple #[.agg #[.int .i64 (okV c m l c), .int .u64 (okV c m l m), .complex .f64 0 (wkR c m l w).length], .complex .f64 1 (wgR c m l w).length, .int .i64 (ckX c m l)], [(rowA gH (wkR c m l w).reverse, 35), (rowA gH (wgR c m l w).reverse, 35)])
theorem pwiD_inj : ∀ p q, pwiD_C p → pwiD_C q → pwiD_A p = pwiD_A q → pwiD_R p = pwiD_R q := by
  rintro ⟨c, m, l, w, nn0, nn1, _⟩ ⟨c', m', l', w', nn0', nn1', _⟩ _ _ e
  simp only [pwiD_A, List.cons.injEq, D.list.injEq, D.val.injEq, D.agg.injEq, Value.int.injEq, Value.bool.injEq, Value.string.injEq, Value.agg.injEq, Array.mk.injEq, and_true, true_and, gI_inj, gB_inj, gH_inj] at e
  simp_all
noncomputable def pwiD_k : List D → Option (Value × Outs) := fnP pwiD_A pwiD_C pwiD_R
theorem pwiD_n (c m : Int) (l : List Hel) (w : List Int) (nn0 : Nat) (nn1 : Nat) (hn0 : nn0 = l.length) (hn1 : nn1 = w.length) (hw : (w.length : Int) ≤ 1000) : KnownR Try.prog [] 29 [.agg [.val (.int .i64 c), .val (.int .u64 m), .list (rowA gH l) nn0], .list (rowA gI w) nn1] (.tuple #[.agg #[.int .i64 (okV c m l c), .int .u64 (okV c m l m), .complex .f64 0 (wkR c m l w).length], .complex .f64 1 (wgR c m l w).length, .int .i64 (ckX c m l)]) ([(rowA gH (wkR c m l w).reverse, 35), (rowA gH (wgR c m l w).reverse, 35)]) := by
  subst hn0; subst hn1; skip
  exact pwiD _ _ _ _ hw
theorem pwiD_ok : ∀ ds v bs, pwiD_k ds = some (v, bs) → KnownR Try.prog [] 29 ds v bs := fnP_ok (by
  rintro ⟨c, m, l, w, nn0, nn1, _⟩ ⟨hn0, hn1, hw, _⟩
  exact pwiD_n _ _ _ _ _ _ hn0 hn1 hw)
theorem pwiD_at (c m : Int) (l : List Hel) (w : List Int) (nn0 : Nat) (nn1 : Nat) (hn0 : nn0 = l.length) (hn1 : nn1 = w.length) (hw : (w.length : Int) ≤ 1000) : pwiD_k [.agg [.val (.int .i64 c), .val (.int .u64 m), .list (rowA gH l) nn0], .list (rowA gI w) nn1] = some (.tuple #[.agg #[.int .i64 (okV c m l c), .int .u64 (okV c m l m), .complex .f64 0 (wkR c m l w).length], .complex .f64 1 (wgR c m l w).length, .int .i64 (ckX c m l)], [(rowA gH (wkR c m l w).reverse, 35), (rowA gH (wgR c m l w).reverse, 35)]) := fnP_at (p := (c, m, l, w, nn0, nn1, ())) pwiD_inj ⟨hn0, hn1, hw, trivial⟩ rfl rfl
theorem rckD (c m : Int) (l : List Hel)  : KnownR Try.prog [] 15 [.agg [.val (.int .i64 c), .val (.int .u64 m), .list (rowA gH l) l.length]] (.tuple #[.int .i64 (ckX c m l), .int .i64 (ckJ c m l)]) ([]) := rcheck_is c m l
noncomputable def rckD_A (p : Int × Int × List Hel × Nat × Unit) : List D := match p with
  | (c, m, l, nn0, _) => [.agg [.val (.int .i64 c), .val (.int .u64 m), .list (rowA gH l) nn0]]
noncomputable def rckD_C (p : Int × Int × List Hel × Nat × Unit) : Prop := match p with
  | (c, m, l, nn0, _) => (nn0 = l.length) ∧ True
noncomputable def rckD_R (p : Int × Int × List Hel × Nat × Unit) : Value × Outs := match p with
  | (c, m, l, nn0, _) => (.tuple #[.int .i64 (ckX c m l), .int .i64 (ckJ c m l)], [])
theorem rckD_inj : ∀ p q, rckD_C p → rckD_C q → rckD_A p = rckD_A q → rckD_R p = rckD_R q := by
  rintro ⟨c, m, l, nn0, _⟩ ⟨c', m', l', nn0', _⟩ _ _ e
  simp only [rckD_A, List.cons.injEq, D.list.injEq, D.val.injEq, D.agg.injEq, Value.int.injEq, Value.bool.injEq, Value.string.injEq, Value.agg.injEq, Array.mk.injEq, and_true, true_and, gI_inj, gB_inj, gH_inj] at e
  simp_all
noncomputable def rckD_k : List D → Option (Value × Outs) := fnP rckD_A rckD_C rckD_R
theorem rckD_n (c m : Int) (l : List Hel) (nn0 : Nat) (hn0 : nn0 = l.length)  : KnownR Try.prog [] 15 [.agg [.val (.int .i64 c), .val (.int .u64 m), .list (rowA gH l) nn0]] (.tuple #[.int .i64 (ckX c m l), .int .i64 (ckJ c m l)]) ([]) := by
  subst hn0; skip
  exact rckD _ _ _ 
theorem rckD_ok : ∀ ds v bs, rckD_k ds = some (v, bs) → KnownR Try.prog [] 15 ds v bs := fnP_ok (by
  rintro ⟨c, m, l, nn0, _⟩ ⟨hn0, _⟩
  exact rckD_n _ _ _ _ hn0 )
theorem rckD_at (c m : Int) (l : List Hel) (nn0 : Nat) (hn0 : nn0 = l.length)  : rckD_k [.agg [.val (.int .i64 c), .val (.int .u64 m), .list (rowA gH l) nn0]] = some (.tuple #[.int .i64 (ckX c m l), .int .i64 (ckJ c m l)], []) := fnP_at (p := (c, m, l, nn0, ())) rckD_inj ⟨hn0, trivial⟩ rfl rfl
theorem rfaD (c m : Int) (l : List Hel) (x : Int)  : KnownR Try.prog [] 17 [.agg [.val (.int .i64 c), .val (.int .u64 m), .list (rowA gH l) l.length], .val (.int .i64 x)] (.tuple #[.agg #[.int .u64 (faN c m l x), .int .i64 (faW c m l x)], .int .i64 (faX c m l x)]) ([]) := rfirst_is c m l x
noncomputable def rfaD_A (p : Int × Int × List Hel × Int × Nat × Unit) : List D := match p with
  | (c, m, l, x, nn0, _) => [.agg [.val (.int .i64 c), .val (.int .u64 m), .list (rowA gH l) nn0], .val (.int .i64 x)]
noncomputable def rfaD_C (p : Int × Int × List Hel × Int × Nat × Unit) : Prop := match p with
  | (c, m, l, x, nn0, _) => (nn0 = l.length) ∧ True
noncomputable def rfaD_R (p : Int × Int × List Hel × Int × Nat × Unit) : Value × Outs := match p with
  | (c, m, l, x, nn0, _) => (.tuple #[.agg #[.int .u64 (faN c m l x), .int .i64 (faW c m l x)], .int .i64 (faX c m l x)], [])
theorem rfaD_inj : ∀ p q, rfaD_C p → rfaD_C q → rfaD_A p = rfaD_A q → rfaD_R p = rfaD_R q := by
  rintro ⟨c, m, l, x, nn0, _⟩ ⟨c', m', l', x', nn0', _⟩ _ _ e
  simp only [rfaD_A, List.cons.injEq, D.list.injEq, D.val.injEq, D.agg.injEq, Value.int.injEq, Value.bool.injEq, Value.string.injEq, Value.agg.injEq, Array.mk.injEq, and_true, true_and, gI_inj, gB_inj, gH_inj] at e
  simp_all
noncomputable def rfaD_k : List D → Option (Value × Outs) := fnP rfaD_A rfaD_C rfaD_R
theorem rfaD_n (c m : Int) (l : List Hel) (x : Int) (nn0 : Nat) (hn0 : nn0 = l.length)  : KnownR Try.prog [] 17 [.agg [.val (.int .i64 c), .val (.int .u64 m), .list (rowA gH l) nn0], .val (.int .i64 x)] (.tuple #[.agg #[.int .u64 (faN c m l x), .int .i64 (faW c m l x)], .int .i64 (faX c m l x)]) ([]) := by
  subst hn0; skip
  exact rfaD _ _ _ _ 
theorem rfaD_ok : ∀ ds v bs, rfaD_k ds = some (v, bs) → KnownR Try.prog [] 17 ds v bs := fnP_ok (by
  rintro ⟨c, m, l, x, nn0, _⟩ ⟨hn0, _⟩
  exact rfaD_n _ _ _ _ _ hn0 )
theorem rfaD_at (c m : Int) (l : List Hel) (x : Int) (nn0 : Nat) (hn0 : nn0 = l.length)  : rfaD_k [.agg [.val (.int .i64 c), .val (.int .u64 m), .list (rowA gH l) nn0], .val (.int .i64 x)] = some (.tuple #[.agg #[.int .u64 (faN c m l x), .int .i64 (faW c m l x)], .int .i64 (faX c m l x)], []) := fnP_at (p := (c, m, l, x, nn0, ())) rfaD_inj ⟨hn0, trivial⟩ rfl rfl
theorem rfdD (c m : Int) (l : List Hel) (x : Int)  : KnownR Try.prog [] 19 [.agg [.val (.int .i64 c), .val (.int .u64 m), .list (rowA gH l) l.length], .val (.int .u64 x)] (.tuple #[.int .i64 (fiI c m l x), .int .i64 (fiX c m l x)]) ([]) := rfind_is c m l x
noncomputable def rfdD_A (p : Int × Int × List Hel × Int × Nat × Unit) : List D := match p with
  | (c, m, l, x, nn0, _) => [.agg [.val (.int .i64 c), .val (.int .u64 m), .list (rowA gH l) nn0], .val (.int .u64 x)]
noncomputable def rfdD_C (p : Int × Int × List Hel × Int × Nat × Unit) : Prop := match p with
  | (c, m, l, x, nn0, _) => (nn0 = l.length) ∧ True
noncomputable def rfdD_R (p : Int × Int × List Hel × Int × Nat × Unit) : Value × Outs := match p with
  | (c, m, l, x, nn0, _) => (.tuple #[.int .i64 (fiI c m l x), .int .i64 (fiX c m l x)], [])
theorem rfdD_inj : ∀ p q, rfdD_C p → rfdD_C q → rfdD_A p = rfdD_A q → rfdD_R p = rfdD_R q := by
  rintro ⟨c, m, l, x, nn0, _⟩ ⟨c', m', l', x', nn0', _⟩ _ _ e
  simp only [rfdD_A, List.cons.injEq, D.list.injEq, D.val.injEq, D.agg.injEq, Value.int.injEq, Value.bool.injEq, Value.string.injEq, Value.agg.injEq, Array.mk.injEq, and_true, true_and, gI_inj, gB_inj, gH_inj] at e
  simp_all
noncomputable def rfdD_k : List D → Option (Value × Outs) := fnP rfdD_A rfdD_C rfdD_R
theorem rfdD_n (c m : Int) (l : List Hel) (x : Int) (nn0 : Nat) (hn0 : nn0 = l.length)  : KnownR Try.prog [] 19 [.agg [.val (.int .i64 c), .val (.int .u64 m), .list (rowA gH l) nn0], .val (.int .u64 x)] (.tuple #[.int .i64 (fiI c m l x), .int .i64 (fiX c m l x)]) ([]) := by
  subst hn0; skip
  exact rfdD _ _ _ _ 
theorem rfdD_ok : ∀ ds v bs, rfdD_k ds = some (v, bs) → KnownR Try.prog [] 19 ds v bs := fnP_ok (by
  rintro ⟨c, m, l, x, nn0, _⟩ ⟨hn0, _⟩
  exact rfdD_n _ _ _ _ _ hn0 )
theorem rfdD_at (c m : Int) (l : List Hel) (x : Int) (nn0 : Nat) (hn0 : nn0 = l.length)  : rfdD_k [.agg [.val (.int .i64 c), .val (.int .u64 m), .list (rowA gH l) nn0], .val (.int .u64 x)] = some (.tuple #[.int .i64 (fiI c m l x), .int .i64 (fiX c m l x)], []) := fnP_at (p := (c, m, l, x, nn0, ())) rfdD_inj ⟨hn0, trivial⟩ rfl rfl
theorem ragD (c m : Int) (l : List Hel) (x : Int)  : KnownR Try.prog [] 21 [.agg [.val (.int .i64 c), .val (.int .u64 m), .list (rowA gH l) l.length], .val (.int .u64 x)] (.tuple #[.int .u64 (pag_c0 c m l x), .int .i64 (pag_c1 c m l x)]) ([]) := rage_is c m l x
noncomputable def ragD_A (p : Int × Int × List Hel × Int × Nat × Unit) : List D := match p with
  | (c, m, l, x, nn0, _) => [.agg [.val (.int .i64 c), .val (.int .u64 m), .list (rowA gH l) nn0], .val (.int .u64 x)]
noncomputable def ragD_C (p : Int × Int × List Hel × Int × Nat × Unit) : Prop := match p with
  | (c, m, l, x, nn0, _) => (nn0 = l.length) ∧ True
noncomputable def ragD_R (p : Int × Int × List Hel × Int × Nat × Unit) : Value × Outs := match p with
  | (c, m, l, x, nn0, _) => (.tuple #[.int .u64 (pag_c0 c m l x), .int .i64 (pag_c1 c m l x)], [])
theorem ragD_inj : ∀ p q, ragD_C p → ragD_C q → ragD_A p = ragD_A q → ragD_R p = ragD_R q := by
  rintro ⟨c, m, l, x, nn0, _⟩ ⟨c', m', l', x', nn0', _⟩ _ _ e
  simp only [ragD_A, List.cons.injEq, D.list.injEq, D.val.injEq, D.agg.injEq, Value.int.injEq, Value.bool.injEq, Value.string.injEq, Value.agg.injEq, Array.mk.injEq, and_true, true_and, gI_inj, gB_inj, gH_inj] at e
  simp_all
noncomputable def ragD_k : List D → Option (Value × Outs) := fnP ragD_A ragD_C ragD_R
theorem ragD_n (c m : Int) (l : List Hel) (x : Int) (nn0 : Nat) (hn0 : nn0 = l.length)  : KnownR Try.prog [] 21 [.agg [.val (.int .i64 c), .val (.int .u64 m), .list (rowA gH l) nn0], .val (.int .u64 x)] (.tuple #[.int .u64 (pag_c0 c m l x), .int .i64 (pag_c1 c m l x)]) ([]) := by
  subst hn0; skip
  exact ragD _ _ _ _ 
theorem ragD_ok : ∀ ds v bs, ragD_k ds = some (v, bs) → KnownR Try.prog [] 21 ds v bs := fnP_ok (by
  rintro ⟨c, m, l, x, nn0, _⟩ ⟨hn0, _⟩
  exact ragD_n _ _ _ _ _ hn0 )
theorem ragD_at (c m : Int) (l : List Hel) (x : Int) (nn0 : Nat) (hn0 : nn0 = l.length)  : ragD_k [.agg [.val (.int .i64 c), .val (.int .u64 m), .list (rowA gH l) nn0], .val (.int .u64 x)] = some (.tuple #[.int .u64 (pag_c0 c m l x), .int .i64 (pag_c1 c m l x)], []) := fnP_at (p := (c, m, l, x, nn0, ())) ragD_inj ⟨hn0, trivial⟩ rfl rfl
theorem rreD (c m : Int) (l : List Hel)  : KnownR Try.prog [] 23 [.agg [.val (.int .i64 c), .val (.int .u64 m), .list (rowA gH l) l.length]] (.tuple #[.int .i64 (prs_c0 c m l), .int .i64 (prs_c1 c m l)]) ([]) := rrest_is c m l
noncomputable def rreD_A (p : Int × Int × List Hel × Nat × Unit) : List D := match p with
  | (c, m, l, nn0, _) => [.agg [.val (.int .i64 c), .val (.int .u64 m), .list (rowA gH l) nn0]]
noncomputable def rreD_C (p : Int × Int × List Hel × Nat × Unit) : Prop := match p with
  | (c, m, l, nn0, _) => (nn0 = l.length) ∧ True
noncomputable def rreD_R (p : Int × Int × List Hel × Nat × Unit) : Value × Outs := match p with
  | (c, m, l, nn0, _) => (.tuple #[.int .i64 (prs_c0 c m l), .int .i64 (prs_c1 c m l)], [])
theorem rreD_inj : ∀ p q, rreD_C p → rreD_C q → rreD_A p = rreD_A q → rreD_R p = rreD_R q := by
  rintro ⟨c, m, l, nn0, _⟩ ⟨c', m', l', nn0', _⟩ _ _ e
  simp only [rreD_A, List.cons.injEq, D.list.injEq, D.val.injEq, D.agg.injEq, Value.int.injEq, Value.bool.injEq, Value.string.injEq, Value.agg.injEq, Array.mk.injEq, and_true, true_and, gI_inj, gB_inj, gH_inj] at e
  simp_all
noncomputable def rreD_k : List D → Option (Value × Outs) := fnP rreD_A rreD_C rreD_R
theorem rreD_n (c m : Int) (l : List Hel) (nn0 : Nat) (hn0 : nn0 = l.length)  : KnownR Try.prog [] 23 [.agg [.val (.int .i64 c), .val (.int .u64 m), .list (rowA gH l) nn0]] (.tuple #[.int .i64 (prs_c0 c m l), .int .i64 (prs_c1 c m l)]) ([]) := by
  subst hn0; skip
  exact rreD _ _ _ 
theorem rreD_ok : ∀ ds v bs, rreD_k ds = some (v, bs) → KnownR Try.prog [] 23 ds v bs := fnP_ok (by
  rintro ⟨c, m, l, nn0, _⟩ ⟨hn0, _⟩
  exact rreD_n _ _ _ _ hn0 )
theorem rreD_at (c m : Int) (l : List Hel) (nn0 : Nat) (hn0 : nn0 = l.length)  : rreD_k [.agg [.val (.int .i64 c), .val (.int .u64 m), .list (rowA gH l) nn0]] = some (.tuple #[.int .i64 (prs_c0 c m l), .int .i64 (prs_c1 c m l)], []) := fnP_at (p := (c, m, l, nn0, ())) rreD_inj ⟨hn0, trivial⟩ rfl rfl
theorem rnwD (x : Int)  : KnownR Try.prog [] 12 [.val (.int .i64 x)] (.tuple #[.agg #[.int .i64 (pnw_c0 x), .int .u64 (pnw_c1 x), .complex .f64 0 0], .int .i64 (pnw_c3 x)]) ([(rowA gH ([] : List Hel), 35)]) := rnew_is x
noncomputable def rnwD_A (p : Int × Unit) : List D := match p with
  | (x, _) => [.val (.int .i64 x)]
noncomputable def rnwD_C (p : Int × Unit) : Prop := match p with
  | (x, _) => True
noncomputable def rnwD_R (p : Int × Unit) : Value × Outs := match p with
  | (x, _) => (.tuple #[.agg #[.int .i64 (pnw_c0 x), .int .u64 (pnw_c1 x), .complex .f64 0 0], .int .i64 (pnw_c3 x)], [(rowA gH ([] : List Hel), 35)])
theorem rnwD_inj : ∀ p q, rnwD_C p → rnwD_C q → rnwD_A p = rnwD_A q → rnwD_R p = rnwD_R q := by
  rintro ⟨x, _⟩ ⟨x', _⟩ _ _ e
  simp only [rnwD_A, List.cons.injEq, D.list.injEq, D.val.injEq, D.agg.injEq, Value.int.injEq, Value.bool.injEq, Value.string.injEq, Value.agg.injEq, Array.mk.injEq, and_true, true_and, gI_inj, gB_inj, gH_inj] at e
  simp_all
noncomputable def rnwD_k : List D → Option (Value × Outs) := fnP rnwD_A rnwD_C rnwD_R
theorem rnwD_n (x : Int)    : KnownR Try.prog [] 12 [.val (.int .i64 x)] (.tuple #[.agg #[.int .i64 (pnw_c0 x), .int .u64 (pnw_c1 x), .complex .f64 0 0], .int .i64 (pnw_c3 x)]) ([(rowA gH ([] : List Hel), 35)]) := by
  skip
  exact rnwD _ 
theorem rnwD_ok : ∀ ds v bs, rnwD_k ds = some (v, bs) → KnownR Try.prog [] 12 ds v bs := fnP_ok (by
  rintro ⟨x, _⟩ _
  exact rnwD_n _  )
theorem rnwD_at (x : Int)    : rnwD_k [.val (.int .i64 x)] = some (.tuple #[.agg #[.int .i64 (pnw_c0 x), .int .u64 (pnw_c1 x), .complex .f64 0 0], .int .i64 (pnw_c3 x)], [(rowA gH ([] : List Hel), 35)]) := fnP_at (p := (x, ())) rnwD_inj trivial rfl rfl
theorem rpuD (c m : Int) (l : List Hel) (x : Int)  : KnownR Try.prog [] 26 [.agg [.val (.int .i64 c), .val (.int .u64 m), .list (rowA gH l) l.length], .val (.int .i64 x)] (.tuple #[.agg #[.int .i64 (ptV c m l c), .int .u64 (ptV c m l (m + 1)), .complex .f64 0 (ptR c m l x).length], .int .u64 (ptV c m l m), .int .i64 (ptX c m l)]) ([(rowA gH (ptR c m l x).reverse, 35)]) := rput_is c m l x
noncomputable def rpuD_A (p : Int × Int × List Hel × Int × Nat × Unit) : List D := match p with
  | (c, m, l, x, nn0, _) => [.agg [.val (.int .i64 c), .val (.int .u64 m), .list (rowA gH l) nn0], .val (.int .i64 x)]
noncomputable def rpuD_C (p : Int × Int × List Hel × Int × Nat × Unit) : Prop := match p with
  | (c, m, l, x, nn0, _) => (nn0 = l.length) ∧ True
noncomputable def rpuD_R (p : Int × Int × List Hel × Int × Nat × Unit) : Value × Outs := match p with
  | (c, m, l, x, nn0, _) => (.tuple #[.agg #[.int .i64 (ptV c m l c), .int .u64 (ptV c m l (m + 1)), .complex .f64 0 (ptR c m l x).length], .int .u64 (ptV c m l m), .int .i64 (ptX c m l)], [(rowA gH (ptR c m l x).reverse, 35)])
theorem rpuD_inj : ∀ p q, rpuD_C p → rpuD_C q → rpuD_A p = rpuD_A q → rpuD_R p = rpuD_R q := by
  rintro ⟨c, m, l, x, nn0, _⟩ ⟨c', m', l', x', nn0', _⟩ _ _ e
  simp only [rpuD_A, List.cons.injEq, D.list.injEq, D.val.injEq, D.agg.injEq, Value.int.injEq, Value.bool.injEq, Value.string.injEq, Value.agg.injEq, Array.mk.injEq, and_true, true_and, gI_inj, gB_inj, gH_inj] at e
  simp_all
noncomputable def rpuD_k : List D → Option (Value × Outs) := fnP rpuD_A rpuD_C rpuD_R
theorem rpuD_n (c m : Int) (l : List Hel) (x : Int) (nn0 : Nat) (hn0 : nn0 = l.length)  : KnownR Try.prog [] 26 [.agg [.val (.int .i64 c), .val (.int .u64 m), .list (rowA gH l) nn0], .val (.int .i64 x)] (.tuple #[.agg #[.int .i64 (ptV c m l c), .int .u64 (ptV c m l (m + 1)), .complex .f64 0 (ptR c m l x).length], .int .u64 (ptV c m l m), .int .i64 (ptX c m l)]) ([(rowA gH (ptR c m l x).reverse, 35)]) := by
  subst hn0; skip
  exact rpuD _ _ _ _ 
theorem rpuD_ok : ∀ ds v bs, rpuD_k ds = some (v, bs) → KnownR Try.prog [] 26 ds v bs := fnP_ok (by
  rintro ⟨c, m, l, x, nn0, _⟩ ⟨hn0, _⟩
  exact rpuD_n _ _ _ _ _ hn0 )
theorem rpuD_at (c m : Int) (l : List Hel) (x : Int) (nn0 : Nat) (hn0 : nn0 = l.length)  : rpuD_k [.agg [.val (.int .i64 c), .val (.int .u64 m), .list (rowA gH l) nn0], .val (.int .i64 x)] = some (.tuple #[.agg #[.int .i64 (ptV c m l c), .int .u64 (ptV c m l (m + 1)), .complex .f64 0 (ptR c m l x).length], .int .u64 (ptV c m l m), .int .i64 (ptX c m l)], [(rowA gH (ptR c m l x).reverse, 35)]) := fnP_at (p := (c, m, l, x, nn0, ())) rpuD_inj ⟨hn0, trivial⟩ rfl rfl
theorem rdrD (c m : Int) (l : List Hel) (x : Int)  : KnownR Try.prog [] 28 [.agg [.val (.int .i64 c), .val (.int .u64 m), .list (rowA gH l) l.length], .val (.int .u64 x)] (.tuple #[.agg #[.int .i64 (drV c m l x c), .int .u64 (drV c m l x m), .complex .f64 0 (drR c m l x).length], .agg #[.int .u64 (drV c m l x (el l (fiI c m l x)).1), .int .i64 (drV c m l x (el l (fiI c m l x)).2)], .int .i64 (fiX c m l x)]) ([(rowA gH (drR c m l x).reverse, 35)]) := rdrop_is c m l x
noncomputable def rdrD_A (p : Int × Int × List Hel × Int × Nat × Unit) : List D := match p with
  | (c, m, l, x, nn0, _) => [.agg [.val (.int .i64 c), .val (.int .u64 m), .list (rowA gH l) nn0], .val (.int .u64 x)]
noncomputable def rdrD_C (p : Int × Int × List Hel × Int × Nat × Unit) : Prop := match p with
  | (c, m, l, x, nn0, _) => (nn0 = l.length) ∧ True
noncomputable def rdrD_R (p : Int × Int × List Hel × Int × Nat × Unit) : Value × Outs := match p with
  | (c, m, l, x, nn0, _) => (.tuple #[.agg #[.int .i64 (drV c m l x c), .int .u64 (drV c m l x m), .complex .f64 0 (drR c m l x).length], .agg #[.int .u64 (drV c m l x (el l (fiI c m l x)).1), .int .i64 (drV c m l x (el l (fiI c m l x)).2)], .int .i64 (fiX c m l x)], [(rowA gH (drR c m l x).reverse, 35)])
theorem rdrD_inj : ∀ p q, rdrD_C p → rdrD_C q → rdrD_A p = rdrD_A q → rdrD_R p = rdrD_R q := by
  rintro ⟨c, m, l, x, nn0, _⟩ ⟨c', m', l', x', nn0', _⟩ _ _ e
  simp only [rdrD_A, List.cons.injEq, D.list.injEq, D.val.injEq, D.agg.injEq, Value.int.injEq, Value.bool.injEq, Value.string.injEq, Value.agg.injEq, Array.mk.injEq, and_true, true_and, gI_inj, gB_inj, gH_inj] at e
  simp_all
noncomputable def rdrD_k : List D → Option (Value × Outs) := fnP rdrD_A rdrD_C rdrD_R
theorem rdrD_n (c m : Int) (l : List Hel) (x : Int) (nn0 : Nat) (hn0 : nn0 = l.length)  : KnownR Try.prog [] 28 [.agg [.val (.int .i64 c), .val (.int .u64 m), .list (rowA gH l) nn0], .val (.int .u64 x)] (.tuple #[.agg #[.int .i64 (drV c m l x c), .int .u64 (drV c m l x m), .complex .f64 0 (drR c m l x).length], .agg #[.int .u64 (drV c m l x (el l (fiI c m l x)).1), .int .i64 (drV c m l x (el l (fiI c m l x)).2)], .int .i64 (fiX c m l x)]) ([(rowA gH (drR c m l x).reverse, 35)]) := by
  subst hn0; skip
  exact rdrD _ _ _ _ 
theorem rdrD_ok : ∀ ds v bs, rdrD_k ds = some (v, bs) → KnownR Try.prog [] 28 ds v bs := fnP_ok (by
  rintro ⟨c, m, l, x, nn0, _⟩ ⟨hn0, _⟩
  exact rdrD_n _ _ _ _ _ hn0 )
theorem rdrD_at (c m : Int) (l : List Hel) (x : Int) (nn0 : Nat) (hn0 : nn0 = l.length)  : rdrD_k [.agg [.val (.int .i64 c), .val (.int .u64 m), .list (rowA gH l) nn0], .val (.int .u64 x)] = some (.tuple #[.agg #[.int .i64 (drV c m l x c), .int .u64 (drV c m l x m), .complex .f64 0 (drR c m l x).length], .agg #[.int .u64 (drV c m l x (el l (fiI c m l x)).1), .int .i64 (drV c m l x (el l (fiI c m l x)).2)], .int .i64 (fiX c m l x)], [(rowA gH (drR c m l x).reverse, 35)]) := fnP_at (p := (c, m, l, x, nn0, ())) rdrD_inj ⟨hn0, trivial⟩ rfl rfl
theorem rwiD (c m : Int) (l : List Hel) (w : List Int) (hw : (w.length : Int) ≤ 1000) : KnownR Try.prog [] 30 [.agg [.val (.int .i64 c), .val (.int .u64 m), .list (rowA gH l) l.length], .list (rowA gI w) w.length] (.tuple #[.agg #[.int .i64 (okV c m l c), .int .u64 (okV c m l m), .complex .f64 0 (wkR c m l w).length], .complex .f64 1 (wgR c m l w).length, .int .i64 (ckX c m l)]) ([(rowA gH (wkR c m l w).reverse, 35), (rowA gH (wgR c m l w).reverse, 35)]) := rwipe_is c m l w hw
noncomputable def rwiD_A (p : Int × Int × List Hel × List Int × Nat × Nat × Unit) : List D := match p with
  | (c, m, l, w, nn0, nn1, _) => [.agg [.val (.int .i64 c), .val (.int .u64 m), .list (rowA gH l) nn0], .list (rowA gI w) nn1]
noncomputable def rwiD_C (p : Int × Int × List Hel × List Int × Nat × Nat × Unit) : Prop := match p with
  | (c, m, l, w, nn0, nn1, _) => (nn0 = l.length) ∧ (nn1 = w.length) ∧ ((w.length : Int) ≤ 1000) ∧ True
noncomputable def rwiD_R (p : Int × Int × List Hel × List Int × Nat × Nat × Unit) : Value × Outs := match p with
  | (c, m, l, w, nn0, nn1, _) => (.tuple #[.agg #[.int .i64 (okV c m l c), .int .u64 (okV c m l m), .complex .f64 0 (wkR c m l w).length], .complex .f64 1 (wgR c m l w).length, .int .i64 (ckX c m l)], [(rowA gH (wkR c m l w).reverse, 35), (rowA gH (wgR c m l w).reverse, 35)])
theorem rwiD_inj : ∀ p q, rwiD_C p → rwiD_C q → rwiD_A p = rwiD_A q → rwiD_R p = rwiD_R q := by
  rintro ⟨c, m, l, w, nn0, nn1, _⟩ ⟨c', m', l', w', nn0', nn1', _⟩ _ _ e
  simp only [rwiD_A, List.cons.injEq, D.list.injEq, D.val.injEq, D.agg.injEq, Value.int.injEq, Value.bool.injEq, Value.string.injEq, Value.agg.injEq, Array.mk.injEq, and_true, true_and, gI_inj, gB_inj, gH_inj] at e
  simp_all
noncomputable def rwiD_k : List D → Option (Value × Outs) := fnP rwiD_A rwiD_C rwiD_R
theorem rwiD_n (c m : Int) (l : List Hel) (w : List Int) (nn0 : Nat) (nn1 : Nat) (hn0 : nn0 = l.length) (hn1 : nn1 = w.length) (hw : (w.length : Int) ≤ 1000) : KnownR Try.prog [] 30 [.agg [.val (.int .i64 c), .val (.int .u64 m), .list (rowA gH l) nn0], .list (rowA gI w) nn1] (.tuple #[.agg #[.int .i64 (okV c m l c), .int .u64 (okV c m l m), .complex .f64 0 (wkR c m l w).length], .complex .f64 1 (wgR c m l w).length, .int .i64 (ckX c m l)]) ([(rowA gH (wkR c m l w).reverse, 35), (rowA gH (wgR c m l w).reverse, 35)]) := by
  subst hn0; subst hn1; skip
  exact rwiD _ _ _ _ hw
theorem rwiD_ok : ∀ ds v bs, rwiD_k ds = some (v, bs) → KnownR Try.prog [] 30 ds v bs := fnP_ok (by
  rintro ⟨c, m, l, w, nn0, nn1, _⟩ ⟨hn0, hn1, hw, _⟩
  exact rwiD_n _ _ _ _ _ _ hn0 hn1 hw)
theorem rwiD_at (c m : Int) (l : List Hel) (w : List Int) (nn0 : Nat) (nn1 : Nat) (hn0 : nn0 = l.length) (hn1 : nn1 = w.length) (hw : (w.length : Int) ≤ 1000) : rwiD_k [.agg [.val (.int .i64 c), .val (.int .u64 m), .list (rowA gH l) nn0], .list (rowA gI w) nn1] = some (.tuple #[.agg #[.int .i64 (okV c m l c), .int .u64 (okV c m l m), .complex .f64 0 (wkR c m l w).length], .complex .f64 1 (wgR c m l w).length, .int .i64 (ckX c m l)], [(rowA gH (wkR c m l w).reverse, 35), (rowA gH (wgR c m l w).reverse, 35)]) := fnP_at (p := (c, m, l, w, nn0, nn1, ())) rwiD_inj ⟨hn0, hn1, hw, trivial⟩ rfl rfl
theorem owD (xs : List Int) (hx : (xs.length : Int) ≤ 40) : KnownR Try.prog [] 24 [.list (rowA gI xs) xs.length] (.complex .f64 0 xs.length) ([(rowA gI xs, 3)]) := owI xs hx
noncomputable def owD_A (p : List Int × Nat × Unit) : List D := match p with
  | (xs, nn0, _) => [.list (rowA gI xs) nn0]
noncomputable def owD_C (p : List Int × Nat × Unit) : Prop := match p with
  | (xs, nn0, _) => (nn0 = xs.length) ∧ ((xs.length : Int) ≤ 40) ∧ True
noncomputable def owD_R (p : List Int × Nat × Unit) : Value × Outs := match p with
  | (xs, nn0, _) => (.complex .f64 0 xs.length, [(rowA gI xs, 3)])
theorem owD_inj : ∀ p q, owD_C p → owD_C q → owD_A p = owD_A q → owD_R p = owD_R q := by
  rintro ⟨xs, nn0, _⟩ ⟨xs', nn0', _⟩ _ _ e
  simp only [owD_A, List.cons.injEq, D.list.injEq, D.val.injEq, D.agg.injEq, Value.int.injEq, Value.bool.injEq, Value.string.injEq, Value.agg.injEq, Array.mk.injEq, and_true, true_and, gI_inj, gB_inj, gH_inj] at e
  simp_all
noncomputable def owD_k : List D → Option (Value × Outs) := fnP owD_A owD_C owD_R
theorem owD_n (xs : List Int) (nn0 : Nat) (hn0 : nn0 = xs.length) (hx : (xs.length : Int) ≤ 40) : KnownR Try.prog [] 24 [.list (rowA gI xs) nn0] (.complex .f64 0 xs.length) ([(rowA gI xs, 3)]) := by
  subst hn0; skip
  exact owD _ hx
theorem owD_ok : ∀ ds v bs, owD_k ds = some (v, bs) → KnownR Try.prog [] 24 ds v bs := fnP_ok (by
  rintro ⟨xs, nn0, _⟩ ⟨hn0, hx, _⟩
  exact owD_n _ _ hn0 hx)
theorem owD_at (xs : List Int) (nn0 : Nat) (hn0 : nn0 = xs.length) (hx : (xs.length : Int) ≤ 40) : owD_k [.list (rowA gI xs) nn0] = some (.complex .f64 0 xs.length, [(rowA gI xs, 3)]) := fnP_at (p := (xs, nn0, ())) owD_inj ⟨hn0, hx, trivial⟩ rfl rfl
theorem orD (c m : Int) (l : List Hel) (hl : (l.length : Int) ≤ 40) : KnownR Try.prog [] 10 [.agg [.val (.int .i64 c), .val (.int .u64 m), .list (rowA gH l) l.length]] (.agg #[.int .i64 c, .int .u64 m, .complex .f64 0 l.length]) ([(rowA gH l, 35)]) := owR c m l hl
noncomputable def orD_A (p : Int × Int × List Hel × Nat × Unit) : List D := match p with
  | (c, m, l, nn0, _) => [.agg [.val (.int .i64 c), .val (.int .u64 m), .list (rowA gH l) nn0]]
noncomputable def orD_C (p : Int × Int × List Hel × Nat × Unit) : Prop := match p with
  | (c, m, l, nn0, _) => (nn0 = l.length) ∧ ((l.length : Int) ≤ 40) ∧ True
noncomputable def orD_R (p : Int × Int × List Hel × Nat × Unit) : Value × Outs := match p with
  | (c, m, l, nn0, _) => (.agg #[.int .i64 c, .int .u64 m, .complex .f64 0 l.length], [(rowA gH l, 35)])
theorem orD_inj : ∀ p q, orD_C p → orD_C q → orD_A p = orD_A q → orD_R p = orD_R q := by
  rintro ⟨c, m, l, nn0, _⟩ ⟨c', m', l', nn0', _⟩ _ _ e
  simp only [orD_A, List.cons.injEq, D.list.injEq, D.val.injEq, D.agg.injEq, Value.int.injEq, Value.bool.injEq, Value.string.injEq, Value.agg.injEq, Array.mk.injEq, and_true, true_and, gI_inj, gB_inj, gH_inj] at e
  simp_all
noncomputable def orD_k : List D → Option (Value × Outs) := fnP orD_A orD_C orD_R
theorem orD_n (c m : Int) (l : List Hel) (nn0 : Nat) (hn0 : nn0 = l.length) (hl : (l.length : Int) ≤ 40) : KnownR Try.prog [] 10 [.agg [.val (.int .i64 c), .val (.int .u64 m), .list (rowA gH l) nn0]] (.agg #[.int .i64 c, .int .u64 m, .complex .f64 0 l.length]) ([(rowA gH l, 35)]) := by
  subst hn0; skip
  exact orD _ _ _ hl
theorem orD_ok : ∀ ds v bs, orD_k ds = some (v, bs) → KnownR Try.prog [] 10 ds v bs := fnP_ok (by
  rintro ⟨c, m, l, nn0, _⟩ ⟨hn0, hl, _⟩
  exact orD_n _ _ _ _ hn0 hl)
theorem orD_at (c m : Int) (l : List Hel) (nn0 : Nat) (hn0 : nn0 = l.length) (hl : (l.length : Int) ≤ 40) : orD_k [.agg [.val (.int .i64 c), .val (.int .u64 m), .list (rowA gH l) nn0]] = some (.agg #[.int .i64 c, .int .u64 m, .complex .f64 0 l.length], [(rowA gH l, 35)]) := fnP_at (p := (c, m, l, nn0, ())) orD_inj ⟨hn0, hl, trivial⟩ rfl rfl
theorem srD (c m : Int) (l : List Hel) (hl : (l.length : Int) ≤ 40) : KnownR Try.prog [] 13 [.agg [.val (.int .i64 c), .val (.int .u64 m), .list (rowA gH l) l.length], .agg [.val (.int .i64 c), .val (.int .u64 m), .list (rowA gH l) l.length]] (.bool true) ([]) := srK c m l hl
noncomputable def srD_A (p : Int × Int × List Hel × Nat × Nat × Unit) : List D := match p with
  | (c, m, l, nn0, nn1, _) => [.agg [.val (.int .i64 c), .val (.int .u64 m), .list (rowA gH l) nn0], .agg [.val (.int .i64 c), .val (.int .u64 m), .list (rowA gH l) nn1]]
noncomputable def srD_C (p : Int × Int × List Hel × Nat × Nat × Unit) : Prop := match p with
  | (c, m, l, nn0, nn1, _) => (nn0 = l.length) ∧ (nn1 = l.length) ∧ ((l.length : Int) ≤ 40) ∧ True
noncomputable def srD_R (p : Int × Int × List Hel × Nat × Nat × Unit) : Value × Outs := match p with
  | (c, m, l, nn0, nn1, _) => (.bool true, [])
theorem srD_inj : ∀ p q, srD_C p → srD_C q → srD_A p = srD_A q → srD_R p = srD_R q := by
  rintro ⟨c, m, l, nn0, nn1, _⟩ ⟨c', m', l', nn0', nn1', _⟩ _ _ e
  simp only [srD_A, List.cons.injEq, D.list.injEq, D.val.injEq, D.agg.injEq, Value.int.injEq, Value.bool.injEq, Value.string.injEq, Value.agg.injEq, Array.mk.injEq, and_true, true_and, gI_inj, gB_inj, gH_inj] at e
  simp_all
noncomputable def srD_k : List D → Option (Value × Outs) := fnP srD_A srD_C srD_R
theorem srD_n (c m : Int) (l : List Hel) (nn0 : Nat) (nn1 : Nat) (hn0 : nn0 = l.length) (hn1 : nn1 = l.length) (hl : (l.length : Int) ≤ 40) : KnownR Try.prog [] 13 [.agg [.val (.int .i64 c), .val (.int .u64 m), .list (rowA gH l) nn0], .agg [.val (.int .i64 c), .val (.int .u64 m), .list (rowA gH l) nn1]] (.bool true) ([]) := by
  subst hn0; subst hn1; skip
  exact srD _ _ _ hl
theorem srD_ok : ∀ ds v bs, srD_k ds = some (v, bs) → KnownR Try.prog [] 13 ds v bs := fnP_ok (by
  rintro ⟨c, m, l, nn0, nn1, _⟩ ⟨hn0, hn1, hl, _⟩
  exact srD_n _ _ _ _ _ hn0 hn1 hl)
theorem srD_at (c m : Int) (l : List Hel) (nn0 : Nat) (nn1 : Nat) (hn0 : nn0 = l.length) (hn1 : nn1 = l.length) (hl : (l.length : Int) ≤ 40) : srD_k [.agg [.val (.int .i64 c), .val (.int .u64 m), .list (rowA gH l) nn0], .agg [.val (.int .i64 c), .val (.int .u64 m), .list (rowA gH l) nn1]] = some (.bool true, []) := fnP_at (p := (c, m, l, nn0, nn1, ())) srD_inj ⟨hn0, hn1, hl, trivial⟩ rfl rfl
noncomputable def tabT : GTab := (GTab.fnD 14 pckD_k (GTab.fnD 16 pfaD_k (GTab.fnD 18 pfdD_k (GTab.fnD 20 pagD_k (GTab.fnD 22 preD_k (GTab.fnD 11 pnwD_k (GTab.fnD 25 ppuD_k (GTab.fnD 27 pdrD_k (GTab.fnD 29 pwiD_k (GTab.fnD 15 rckD_k (GTab.fnD 17 rfaD_k (GTab.fnD 19 rfdD_k (GTab.fnD 21 ragD_k (GTab.fnD 23 rreD_k (GTab.fnD 12 rnwD_k (GTab.fnD 26 rpuD_k (GTab.fnD 28 rdrD_k (GTab.fnD 30 rwiD_k (GTab.fnD 24 owD_k (GTab.fnD 10 orD_k (GTab.fnD 13 srD_k (GTab.fnD 32 siD_k (GTab.fnD 31 shD_k (GTab.fn1 9 (fun l => match l with | [] => some (.bool true) | _ => none) (GTab.fn1 5 (fun l => match l with | [] => some (.bool true) | _ => none) GTab.none)))))))))))))))))))))))))
theorem tabT_ok : GOk Try.prog [] tabT := (GOk.fnD pckD_ok (GOk.fnD pfaD_ok (GOk.fnD pfdD_ok (GOk.fnD pagD_ok (GOk.fnD preD_ok (GOk.fnD pnwD_ok (GOk.fnD ppuD_ok (GOk.fnD pdrD_ok (GOk.fnD pwiD_ok (GOk.fnD rckD_ok (GOk.fnD rfaD_ok (GOk.fnD rfdD_ok (GOk.fnD ragD_ok (GOk.fnD rreD_ok (GOk.fnD rnwD_ok (GOk.fnD rpuD_ok (GOk.fnD rdrD_ok (GOk.fnD rwiD_ok (GOk.fnD owD_ok (GOk.fnD orD_ok (GOk.fnD srD_ok (GOk.fnD siD_ok (GOk.fnD shD_ok (GOk.fn1 (known0 knRingKnown_e0) (GOk.fn1 (known0 knRingKnown_e1) GOk.none)))))))))))))))))))))))))
end Go.Proofs.Ytpmcjjpgkoagoaa
