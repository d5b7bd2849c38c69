/- Layer 17: LockTurns. -/
import Derived.Test.YtbcbldpppjbkhaaQE
import Derived.Test.YtbcbldpppjbkhaaKnLockKnown
import Derived.ProofKit
import Derived.IntWalk
namespace Go.Proofs.Ytbcbldpppjbkhaa
open Go Go.RowKit
set_option linter.unusedVariables false
set_option linter.unusedSimpArgs false
set_option linter.unnecessarySimpa false
set_option maxHeartbeats 8000000
set_option maxRecDepth 100000
theorem uaD (c : Bool) (l : List Bool) (f : Int) (hl : (l.length : Int) ≤ 70) : KnownR Try.prog [] 18 [.agg [.val (.bool c), .list (rowA gB l) l.length], .val (.int .i64 f)] (.tuple #[.agg #[.bool false, .complex .f64 0 (ulA_c1 c l f).length], .int .i64 (ulA_c2 c l f)]) ([(rowA gB (ulA_c1 c l f), 4)]) := ulA c l f hl
noncomputable def uaD_A (p : Bool × List Bool × Int × Nat × Unit) : List D := match p with
  | (c, l, f, nn0, _) => [.agg [.val (.bool c), .list (rowA gB l) nn0], .val (.int .i64 f)]
noncomputable def uaD_C (p : Bool × List Bool × Int × Nat × Unit) : Prop := match p with
  | (c, l, f, nn0, _) => (nn0 = l.length) ∧ ((l.length : Int) ≤ 70) ∧ True
noncomputable def uaD_R (p : Bool × List Bool × Int × Nat × Unit) : Value × Outs := match p with
  | (c, l, f, nn0, _) => (.tuple #[.agg #[.bool false, .complex .f64 0 (ulA_c1 c l f).length], .int .i64 (ulA_c2 c l f)], [(rowA gB (ulA_c1 c l f), 4)])
theorem uaD_inj : ∀ p q, uaD_C p → uaD_C q → uaD_A p = uaD_A q → uaD_R p = uaD_R q := by
  rintro ⟨c, l, f, nn0, _⟩ ⟨c', l', f', nn0', _⟩ _ _ e
  simp only [uaD_A, List.cons.injEq, D.list.injEq, D.val.injEq, D.agg.injEq, Value.int.injEq, Value.bool.injEq, Value.string.injEq, Value.agg.injEq, Array.mk.injEq, and_true, true_and, gI_inj, gB_inj] at e
  simp_all
noncomputable def uaD_k : List D → Option (Value × Outs) := fnP uaD_A uaD_C uaD_R
theorem uaD_n (c : Bool) (l : List Bool) (f : Int) (nn0 : Nat) (hn0 : nn0 = l.length) (hl : (l.length : Int) ≤ 70) : KnownR Try.prog [] 18 [.agg [.val (.bool c), .list (rowA gB l) nn0], .val (.int .i64 f)] (.tuple #[.agg #[.bool false, .complex .f64 0 (ulA_c1 c l f).length], .int .i64 (ulA_c2 c l f)]) ([(rowA gB (ulA_c1 c l f), 4)]) := by
  subst hn0; skip
  exact uaD _ _ _ hl
theorem uaD_ok : ∀ ds v bs, uaD_k ds = some (v, bs) → KnownR Try.prog [] 18 ds v bs := fnP_ok (by
  rintro ⟨c, l, f, nn0, _⟩ ⟨hn0, hl, _⟩
  exact uaD_n _ _ _ _ hn0 hl)
theorem uaD_at (c : Bool) (l : List Bool) (f : Int) (nn0 : Nat) (hn0 : nn0 = l.length) (hl : (l.length : Int) ≤ 70) : uaD_k [.agg [.val (.bool c), .list (rowA gB l) nn0], .val (.int .i64 f)] = some (.tuple #[.agg #[.bool false, .complex .f64 0 (ulA_c1 c l f).length], .int .i64 (ulA_c2 c l f)], [(rowA gB (ulA_c1 c l f), 4)]) := fnP_at (p := (c, l, f, nn0, ())) uaD_inj ⟨hn0, hl, trivial⟩ rfl rfl
theorem urD (c : Bool) (l : List Bool) (f : Int) (hl : (l.length : Int) ≤ 70) : KnownR Try.prog [] 27 [.agg [.val (.bool c), .list (rowA gB l) l.length], .val (.int .i64 f)] (.tuple #[.agg #[.bool false, .complex .f64 0 (ulA_c1 c l f).length], .int .i64 (ulA_c2 c l f)]) ([(rowA gB (ulA_c1 c l f), 4)]) := unlock_r c l f hl
noncomputable def urD_A (p : Bool × List Bool × Int × Nat × Unit) : List D := match p with
  | (c, l, f, nn0, _) => [.agg [.val (.bool c), .list (rowA gB l) nn0], .val (.int .i64 f)]
noncomputable def urD_C (p : Bool × List Bool × Int × Nat × Unit) : Prop := match p with
  | (c, l, f, nn0, _) => (nn0 = l.length) ∧ ((l.length : Int) ≤ 70) ∧ True
noncomputable def urD_R (p : Bool × List Bool × Int × Nat × Unit) : Value × Outs := match p with
  | (c, l, f, nn0, _) => (.tuple #[.agg #[.bool false, .complex .f64 0 (ulA_c1 c l f).length], .int .i64 (ulA_c2 c l f)], [(rowA gB (ulA_c1 c l f), 4)])
theorem urD_inj : ∀ p q, urD_C p → urD_C q → urD_A p = urD_A q → urD_R p = urD_R q := by
  rintro ⟨c, l, f, nn0, _⟩ ⟨c', l', f', nn0', _⟩ _ _ e
  simp only [urD_A, List.cons.injEq, D.list.injEq, D.val.injEq, D.agg.injEq, Value.int.injEq, Value.bool.injEq, Value.string.injEq, Value.agg.injEq, Array.mk.injEq, and_true, true_and, gI_inj, gB_inj] at e
  simp_all
noncomputable def urD_k : List D → Option (Value × Outs) := fnP urD_A urD_C urD_R
theorem urD_n (c : Bool) (l : List Bool) (f : Int) (nn0 : Nat) (hn0 : nn0 = l.length) (hl : (l.length : Int) ≤ 70) : KnownR Try.prog [] 27 [.agg [.val (.bool c), .list (rowA gB l) nn0], .val (.int .i64 f)] (.tuple #[.agg #[.bool false, .complex .f64 0 (ulA_c1 c l f).length], .int .i64 (ulA_c2 c l f)]) ([(rowA gB (ulA_c1 c l f), 4)]) := by
  subst hn0; skip
  exact urD _ _ _ hl
theorem urD_ok : ∀ ds v bs, urD_k ds = some (v, bs) → KnownR Try.prog [] 27 ds v bs := fnP_ok (by
  rintro ⟨c, l, f, nn0, _⟩ ⟨hn0, hl, _⟩
  exact urD_n _ _ _ _ hn0 hl)
theorem urD_at (c : Bool) (l : List Bool) (f : Int) (nn0 : Nat) (hn0 : nn0 = l.length) (hl : (l.length : Int) ≤ 70) : urD_k [.agg [.val (.bool c), .list (rowA gB l) nn0], .val (.int .i64 f)] = some (.tuple #[.agg #[.bool false, .complex .f64 0 (ulA_c1 c l f).length], .int .i64 (ulA_c2 c l f)], [(rowA gB (ulA_c1 c l f), 4)]) := fnP_at (p := (c, l, f, nn0, ())) urD_inj ⟨hn0, hl, trivial⟩ rfl rfl
theorem kaD (c : Bool) (l : List Bool) (hl : (l.length : Int) ≤ 70) : KnownR Try.prog [] 14 [.agg [.val (.bool c), .list (rowA gB l) l.length]] (.tuple #[.agg #[.bool (lkA_c0 c l), .complex .f64 0 (lkA_c1 c l).length], .int .i64 (lkA_c2 c l)]) ([(rowA gB (lkA_c1 c l), 4)]) := lkA c l hl
noncomputable def kaD_A (p : Bool × List Bool × Nat × Unit) : List D := match p with
  | (c, l, nn0, _) => [.agg [.val (.bool c), .list (rowA gB l) nn0]]
noncomputable def kaD_C (p : Bool × List Bool × Nat × Unit) : Prop := match p with
  | (c, l, nn0, _) => (nn0 = l.length) ∧ ((l.length : Int) ≤ 70) ∧ True
noncomputable def kaD_R (p : Bool × List Bool × Nat × Unit) : Value × Outs := match p with
  | (c, l, nn0, _) => (.tuple #[.agg #[.bool (lkA_c0 c l), .complex .f64 0 (lkA_c1 c l).length], .int .i64 (lkA_c2 c l)], [(rowA gB (lkA_c1 c l), 4)])
theorem kaD_inj : ∀ p q, kaD_C p → kaD_C q → kaD_A p = kaD_A q → kaD_R p = kaD_R q := by
  rintro ⟨c, l, nn0, _⟩ ⟨c', l', nn0', _⟩ _ _ e
  simp only [kaD_A, List.cons.injEq, D.list.injEq, D.val.injEq, D.agg.injEq, Value.int.injEq, Value.bool.injEq, Value.string.injEq, Value.agg.injEq, Array.mk.injEq, and_true, true_and, gI_inj, gB_inj] at e
  simp_all
noncomputable def kaD_k : List D → Option (Value × Outs) := fnP kaD_A kaD_C kaD_R
theorem kaD_n (c : Bool) (l : List Bool) (nn0 : Nat) (hn0 : nn0 = l.length) (hl : (l.length : Int) ≤ 70) : KnownR Try.prog [] 14 [.agg [.val (.bool c), .list (rowA gB l) nn0]] (.tuple #[.agg #[.bool (lkA_c0 c l), .complex .f64 0 (lkA_c1 c l).length], .int .i64 (lkA_c2 c l)]) ([(rowA gB (lkA_c1 c l), 4)]) := by
  subst hn0; skip
  exact kaD _ _ hl
theorem kaD_ok : ∀ ds v bs, kaD_k ds = some (v, bs) → KnownR Try.prog [] 14 ds v bs := fnP_ok (by
  rintro ⟨c, l, nn0, _⟩ ⟨hn0, hl, _⟩
  exact kaD_n _ _ _ hn0 hl)
theorem kaD_at (c : Bool) (l : List Bool) (nn0 : Nat) (hn0 : nn0 = l.length) (hl : (l.length : Int) ≤ 70) : kaD_k [.agg [.val (.bool c), .list (rowA gB l) nn0]] = some (.tuple #[.agg #[.bool (lkA_c0 c l), .complex .f64 0 (lkA_c1 c l).length], .int .i64 (lkA_c2 c l)], [(rowA gB (lkA_c1 c l), 4)]) := fnP_at (p := (c, l, nn0, ())) kaD_inj ⟨hn0, hl, trivial⟩ rfl rfl
theorem krD (c : Bool) (l : List Bool) (hl : (l.length : Int) ≤ 70) : KnownR Try.prog [] 28 [.agg [.val (.bool c), .list (rowA gB l) l.length]] (.tuple #[.agg #[.bool (lkA_c0 c l), .complex .f64 0 (lkA_c1 c l).length], .int .i64 (lkA_c2 c l)]) ([(rowA gB (lkA_c1 c l), 4)]) := rLk c l hl
noncomputable def krD_A (p : Bool × List Bool × Nat × Unit) : List D := match p with
  | (c, l, nn0, _) => [.agg [.val (.bool c), .list (rowA gB l) nn0]]
noncomputable def krD_C (p : Bool × List Bool × Nat × Unit) : Prop := match p with
  | (c, l, nn0, _) => (nn0 = l.length) ∧ ((l.length : Int) ≤ 70) ∧ True
noncomputable def krD_R (p : Bool × List Bool × Nat × Unit) : Value × Outs := match p with
  | (c, l, nn0, _) => (.tuple #[.agg #[.bool (lkA_c0 c l), .complex .f64 0 (lkA_c1 c l).length], .int .i64 (lkA_c2 c l)], [(rowA gB (lkA_c1 c l), 4)])
theorem krD_inj : ∀ p q, krD_C p → krD_C q → krD_A p = krD_A q → krD_R p = krD_R q := by
  rintro ⟨c, l, nn0, _⟩ ⟨c', l', nn0', _⟩ _ _ e
  simp only [krD_A, List.cons.injEq, D.list.injEq, D.val.injEq, D.agg.injEq, Value.int.injEq, Value.bool.injEq, Value.string.injEq, Value.agg.injEq, Array.mk.injEq, and_true, true_and, gI_inj, gB_inj] at e
  simp_all
noncomputable def krD_k : List D → Option (Value × Outs) := fnP krD_A krD_C krD_R
theorem krD_n (c : Bool) (l : List Bool) (nn0 : Nat) (hn0 : nn0 = l.length) (hl : (l.length : Int) ≤ 70) : KnownR Try.prog [] 28 [.agg [.val (.bool c), .list (rowA gB l) nn0]] (.tuple #[.agg #[.bool (lkA_c0 c l), .complex .f64 0 (lkA_c1 c l).length], .int .i64 (lkA_c2 c l)]) ([(rowA gB (lkA_c1 c l), 4)]) := by
  subst hn0; skip
  exact krD _ _ hl
theorem krD_ok : ∀ ds v bs, krD_k ds = some (v, bs) → KnownR Try.prog [] 28 ds v bs := fnP_ok (by
  rintro ⟨c, l, nn0, _⟩ ⟨hn0, hl, _⟩
  exact krD_n _ _ _ hn0 hl)
theorem krD_at (c : Bool) (l : List Bool) (nn0 : Nat) (hn0 : nn0 = l.length) (hl : (l.length : Int) ≤ 70) : krD_k [.agg [.val (.bool c), .list (rowA gB l) nn0]] = some (.tuple #[.agg #[.bool (lkA_c0 c l), .complex .f64 0 (lkA_c1 c l).length], .int .i64 (lkA_c2 c l)], [(rowA gB (lkA_c1 c l), 4)]) := fnP_at (p := (c, l, nn0, ())) krD_inj ⟨hn0, hl, trivial⟩ rfl rfl
theorem saD (c : Bool) (l : List Bool)  : KnownR Try.prog [] 13 [.agg [.val (.bool c), .list (rowA gB l) l.length]] (.tuple #[.agg #[.bool (smC c l), .complex .f64 0 (smL c l).length], .int .i64 (smN c l), .int .i64 (smX c l)]) ([(rowA gB (smL c l), 4)]) := slam_all c l
noncomputable def saD_A (p : Bool × List Bool × Nat × Unit) : List D := match p with
  | (c, l, nn0, _) => [.agg [.val (.bool c), .list (rowA gB l) nn0]]
noncomputable def saD_C (p : Bool × List Bool × Nat × Unit) : Prop := match p with
  | (c, l, nn0, _) => (nn0 = l.length) ∧ True
noncomputable def saD_R (p : Bool × List Bool × Nat × Unit) : Value × Outs := match p with
  | (c, l, nn0, _) => (.tuple #[.agg #[.bool (smC c l), .complex .f64 0 (smL c l).length], .int .i64 (smN c l), .int .i64 (smX c l)], [(rowA gB (smL c l), 4)])
theorem saD_inj : ∀ p q, saD_C p → saD_C q → saD_A p = saD_A q → saD_R p = saD_R q := by
  rintro ⟨c, l, nn0, _⟩ ⟨c', l', nn0', _⟩ _ _ e
  simp only [saD_A, List.cons.injEq, D.list.injEq, D.val.injEq, D.agg.injEq, Value.int.injEq, Value.bool.injEq, Value.string.injEq, Value.agg.injEq, Array.mk.injEq, and_true, true_and, gI_inj, gB_inj] at e
  simp_all
noncomputable def saD_k : List D → Option (Value × Outs) := fnP saD_A saD_C saD_R
theorem saD_n (c : Bool) (l : List Bool) (nn0 : Nat) (hn0 : nn0 = l.length)  : KnownR Try.prog [] 13 [.agg [.val (.bool c), .list (rowA gB l) nn0]] (.tuple #[.agg #[.bool (smC c l), .complex .f64 0 (smL c l).length], .int .i64 (smN c l), .int .i64 (smX c l)]) ([(rowA gB (smL c l), 4)]) := by
  subst hn0; skip
  exact saD _ _ 
theorem saD_ok : ∀ ds v bs, saD_k ds = some (v, bs) → KnownR Try.prog [] 13 ds v bs := fnP_ok (by
  rintro ⟨c, l, nn0, _⟩ ⟨hn0, _⟩
  exact saD_n _ _ _ hn0 )
theorem saD_at (c : Bool) (l : List Bool) (nn0 : Nat) (hn0 : nn0 = l.length)  : saD_k [.agg [.val (.bool c), .list (rowA gB l) nn0]] = some (.tuple #[.agg #[.bool (smC c l), .complex .f64 0 (smL c l).length], .int .i64 (smN c l), .int .i64 (smX c l)], [(rowA gB (smL c l), 4)]) := fnP_at (p := (c, l, nn0, ())) saD_inj ⟨hn0, trivial⟩ rfl rfl
theorem srD (c : Bool) (l : List Bool) (hl : (l.length : Int) ≤ 70) : KnownR Try.prog [] 29 [.agg [.val (.bool c), .list (rowA gB l) l.length]] (.tuple #[.agg #[.bool (smC c l), .complex .f64 0 (smL c l).length], .int .i64 (smN c l), .int .i64 (smX c l)]) ([(rowA gB (smL c l), 4)]) := rslam_all c l hl
noncomputable def srD_A (p : Bool × List Bool × Nat × Unit) : List D := match p with
  | (c, l, nn0, _) => [.agg [.val (.bool c), .list (rowA gB l) nn0]]
noncomputable def srD_C (p : Bool × List Bool × Nat × Unit) : Prop := match p with
  | (c, l, nn0, _) => (nn0 = l.length) ∧ ((l.length : Int) ≤ 70) ∧ True
noncomputable def srD_R (p : Bool × List Bool × Nat × Unit) : Value × Outs := match p with
  | (c, l, nn0, _) => (.tuple #[.agg #[.bool (smC c l), .complex .f64 0 (smL c l).length], .int .i64 (smN c l), .int .i64 (smX c l)], [(rowA gB (smL c l), 4)])
theorem srD_inj : ∀ p q, srD_C p → srD_C q → srD_A p = srD_A q → srD_R p = srD_R q := by
  rintro ⟨c, l, nn0, _⟩ ⟨c', l', nn0', _⟩ _ _ e
  simp only [srD_A, List.cons.injEq, D.list.injEq, D.val.injEq, D.agg.injEq, Value.int.injEq, Value.bool.injEq, Value.string.injEq, Value.agg.injEq, Array.mk.injEq, and_true, true_and, gI_inj, gB_inj] at e
  simp_all
noncomputable def srD_k : List D → Option (Value × Outs) := fnP srD_A srD_C srD_R
theorem srD_n (c : Bool) (l : List Bool) (nn0 : Nat) (hn0 : nn0 = l.length) (hl : (l.length : Int) ≤ 70) : KnownR Try.prog [] 29 [.agg [.val (.bool c), .list (rowA gB l) nn0]] (.tuple #[.agg #[.bool (smC c l), .complex .f64 0 (smL c l).length], .int .i64 (smN c l), .int .i64 (smX c l)]) ([(rowA gB (smL c l), 4)]) := by
  subst hn0; skip
  exact srD _ _ hl
theorem srD_ok : ∀ ds v bs, srD_k ds = some (v, bs) → KnownR Try.prog [] 29 ds v bs := fnP_ok (by
  rintro ⟨c, l, nn0, _⟩ ⟨hn0, hl, _⟩
  exact srD_n _ _ _ hn0 hl)
theorem srD_at (c : Bool) (l : List Bool) (nn0 : Nat) (hn0 : nn0 = l.length) (hl : (l.length : Int) ≤ 70) : srD_k [.agg [.val (.bool c), .list (rowA gB l) nn0]] = some (.tuple #[.agg #[.bool (smC c l), .complex .f64 0 (smL c l).length], .int .i64 (smN c l), .int .i64 (smX c l)], [(rowA gB (smL c l), 4)]) := fnP_at (p := (c, l, nn0, ())) srD_inj ⟨hn0, hl, trivial⟩ rfl rfl
theorem oaD (c : Bool) (l : List Bool) (hl : (l.length : Int) ≤ 70) : KnownR Try.prog [] 22 [.agg [.val (.bool c), .list (rowA gB l) l.length]] (.agg #[.bool c, .complex .f64 0 l.length]) ([(rowA gB l, 4)]) := ocG c l hl
noncomputable def oaD_A (p : Bool × List Bool × Nat × Unit) : List D := match p with
  | (c, l, nn0, _) => [.agg [.val (.bool c), .list (rowA gB l) nn0]]
noncomputable def oaD_C (p : Bool × List Bool × Nat × Unit) : Prop := match p with
  | (c, l, nn0, _) => (nn0 = l.length) ∧ ((l.length : Int) ≤ 70) ∧ True
noncomputable def oaD_R (p : Bool × List Bool × Nat × Unit) : Value × Outs := match p with
  | (c, l, nn0, _) => (.agg #[.bool c, .complex .f64 0 l.length], [(rowA gB l, 4)])
theorem oaD_inj : ∀ p q, oaD_C p → oaD_C q → oaD_A p = oaD_A q → oaD_R p = oaD_R q := by
  rintro ⟨c, l, nn0, _⟩ ⟨c', l', nn0', _⟩ _ _ e
  simp only [oaD_A, List.cons.injEq, D.list.injEq, D.val.injEq, D.agg.injEq, Value.int.injEq, Value.bool.injEq, Value.string.injEq, Value.agg.injEq, Array.mk.injEq, and_true, true_and, gI_inj, gB_inj] at e
  simp_all
noncomputable def oaD_k : List D → Option (Value × Outs) := fnP oaD_A oaD_C oaD_R
theorem oaD_n (c : Bool) (l : List Bool) (nn0 : Nat) (hn0 : nn0 = l.length) (hl : (l.length : Int) ≤ 70) : KnownR Try.prog [] 22 [.agg [.val (.bool c), .list (rowA gB l) nn0]] (.agg #[.bool c, .complex .f64 0 l.length]) ([(rowA gB l, 4)]) := by
  subst hn0; skip
  exact oaD _ _ hl
theorem oaD_ok : ∀ ds v bs, oaD_k ds = some (v, bs) → KnownR Try.prog [] 22 ds v bs := fnP_ok (by
  rintro ⟨c, l, nn0, _⟩ ⟨hn0, hl, _⟩
  exact oaD_n _ _ _ hn0 hl)
theorem oaD_at (c : Bool) (l : List Bool) (nn0 : Nat) (hn0 : nn0 = l.length) (hl : (l.length : Int) ≤ 70) : oaD_k [.agg [.val (.bool c), .list (rowA gB l) nn0]] = some (.agg #[.bool c, .complex .f64 0 l.length], [(rowA gB l, 4)]) := fnP_at (p := (c, l, nn0, ())) oaD_inj ⟨hn0, hl, trivial⟩ rfl rfl
theorem sbD (x : List Bool) (hx : (x.length : Int) ≤ 70) : KnownR Try.prog [] 45 [.list (rowA gB x) x.length, .list (rowA gB x) x.length] (.bool true) ([]) := sb_is x hx
noncomputable def sbD_A (p : List Bool × Nat × Nat × Unit) : List D := match p with
  | (x, nn0, nn1, _) => [.list (rowA gB x) nn0, .list (rowA gB x) nn1]
noncomputable def sbD_C (p : List Bool × Nat × Nat × Unit) : Prop := match p with
  | (x, nn0, nn1, _) => (nn0 = x.length) ∧ (nn1 = x.length) ∧ ((x.length : Int) ≤ 70) ∧ True
noncomputable def sbD_R (p : List Bool × Nat × Nat × Unit) : Value × Outs := match p with
  | (x, nn0, nn1, _) => (.bool true, [])
theorem sbD_inj : ∀ p q, sbD_C p → sbD_C q → sbD_A p = sbD_A q → sbD_R p = sbD_R q := by
  rintro ⟨x, nn0, nn1, _⟩ ⟨x', nn0', nn1', _⟩ _ _ e
  simp only [sbD_A, List.cons.injEq, D.list.injEq, D.val.injEq, D.agg.injEq, Value.int.injEq, Value.bool.injEq, Value.string.injEq, Value.agg.injEq, Array.mk.injEq, and_true, true_and, gI_inj, gB_inj] at e
  simp_all
noncomputable def sbD_k : List D → Option (Value × Outs) := fnP sbD_A sbD_C sbD_R
theorem sbD_n (x : List Bool) (nn0 : Nat) (nn1 : Nat) (hn0 : nn0 = x.length) (hn1 : nn1 = x.length) (hx : (x.length : Int) ≤ 70) : KnownR Try.prog [] 45 [.list (rowA gB x) nn0, .list (rowA gB x) nn1] (.bool true) ([]) := by
  subst hn0; subst hn1; skip
  exact sbD _ hx
theorem sbD_ok : ∀ ds v bs, sbD_k ds = some (v, bs) → KnownR Try.prog [] 45 ds v bs := fnP_ok (by
  rintro ⟨x, nn0, nn1, _⟩ ⟨hn0, hn1, hx, _⟩
  exact sbD_n _ _ _ hn0 hn1 hx)
theorem sbD_at (x : List Bool) (nn0 : Nat) (nn1 : Nat) (hn0 : nn0 = x.length) (hn1 : nn1 = x.length) (hx : (x.length : Int) ≤ 70) : sbD_k [.list (rowA gB x) nn0, .list (rowA gB x) nn1] = some (.bool true, []) := fnP_at (p := (x, nn0, nn1, ())) sbD_inj ⟨hn0, hn1, hx, trivial⟩ rfl rfl
noncomputable def tabT : GTab := (GTab.fnD 25 ckD_k (GTab.fnD 17 naD_k (GTab.fnD 23 raD_k (GTab.fnD 26 rcD_k (GTab.fnD 18 uaD_k (GTab.fnD 27 urD_k (GTab.fnD 14 kaD_k (GTab.fnD 28 krD_k (GTab.fnD 13 saD_k (GTab.fnD 29 srD_k (GTab.fnD 22 oaD_k (GTab.fnD 45 sbD_k (GTab.fn1 21 (fun l => match l with | [] => some (.bool true) | _ => none) GTab.none)))))))))))))
theorem tabT_ok : GOk Try.prog [] tabT := (GOk.fnD ckD_ok (GOk.fnD naD_ok (GOk.fnD raD_ok (GOk.fnD rcD_ok (GOk.fnD uaD_ok (GOk.fnD urD_ok (GOk.fnD kaD_ok (GOk.fnD krD_ok (GOk.fnD saD_ok (GOk.fnD srD_ok (GOk.fnD oaD_ok (GOk.fnD sbD_ok (GOk.fn1 (known0 knLockKnown_e0) GOk.none)))))))))))))
theorem lawT_p0 (c : Bool) (l : List Bool) (f n : Int) (hl : (l.length : Int) ≤ 70) (h1 : ((nwL n).length : Int) ≤ 70) (h2 : ((ulA_c1 c l f).length : Int) ≤ 70) (h3 : ((lkA_c1 c l).length : Int) ≤ 70) (h4 : ((smL c l).length : Int) ≤ 70) (hq0 : (decide ((↑l.length : Int) > (70 : Int))) = false) (hq1 : (nwC n == nwC n) = true) (hq2 : (nwX n != nwX n) = false) (hq3 : (ckC c l != ckC c l) = false) (hq4 : (ulA_c2 c l f != ulA_c2 c l f) = false) (hq5 : (lkA_c0 c l == lkA_c0 c l) = true) (hq6 : (lkA_c2 c l != lkA_c2 c l) = false) (hq7 : (smC c l == smC c l) = true) (hq8 : (smN c l == smN c l) = true) (hq9 : (smX c l == smX c l) = true) (hq10 : (c == c) = true) : KnownR Try.prog [] 4 [.agg [.val (.bool c), .list (rowA gB l) l.length], .val (.int .i64 f), .val (.int .i64 n)] (.bool (true)) [] :=
  knownR_eq (v := Value.bool true) (bs := []) (open_resD mix tabT_ok (T := tabT) (fuel := 3000) (es := []) (ans := [(0, .b 0), (1, .outs (Value.agg #[Value.bool c, Value.complex FloatKind.f64 (0 : Nat) l.length]) ([(rowA gB l, (4 : TypeId))])), (2, .outs (Value.tuple #[Value.agg #[Value.bool (nwC n), Value.complex FloatKind.f64 (0 : Nat) (nwL n).length], Value.int IntKind.i64 (nwX n)]) ([(rowA gB (nwL n), (4 : TypeId))])), (3, .outs (Value.tuple #[Value.agg #[Value.bool (nwC n), Value.complex FloatKind.f64 (0 : Nat) (nwL n).length], Value.int IntKind.i64 (nwX n)]) ([(rowA gB (nwL n), (4 : TypeId))])), (4, .b 1), (9, .outs (Value.bool true) ([])), (15, .b 0), (17, .outs (Value.int IntKind.i64 (ckC c l)) ([])), (20, .outs (Value.int IntKind.i64 (ckC c l)) ([])), (23, .b 0), (24, .outs (Value.tuple #[Value.agg #[Value.bool false, Value.complex FloatKind.f64 (0 : Nat) (ulA_c1 c l f).length], Value.int IntKind.i64 (ulA_c2 c l f)]) ([(rowA gB (ulA_c1 c l f), (4 : TypeId))])), (25, .outs (Value.tuple #[Value.agg #[Value.bool false, Value.complex FloatKind.f64 (0 : Nat) (ulA_c1 c l f).length], Value.int IntKind.i64 (ulA_c2 c l f)]) ([(rowA gB (ulA_c1 c l f), (4 : TypeId))])), (31, .outs (Value.bool true) ([])), (37, .b 0), (38, .outs (Value.tuple #[Value.agg #[Value.bool (lkA_c0 c l), Value.complex FloatKind.f64 (0 : Nat) (lkA_c1 c l).length], Value.int IntKind.i64 (lkA_c2 c l)]) ([(rowA gB (lkA_c1 c l), (4 : TypeId))])), (39, .outs (Value.tuple #[Value.agg #[Value.bool (lkA_c0 c l), Value.complex FloatKind.f64 (0 : Nat) (lkA_c1 c l).length], Value.int IntKind.i64 (lkA_c2 c l)]) ([(rowA gB (lkA_c1 c l), (4 : TypeId))])), (40, .b 1), (45, .outs (Value.bool true) ([])), (51, .b 0), (52, .outs (Value.tuple #[Value.agg #[Value.bool (smC c l), Value.complex FloatKind.f64 (0 : Nat) (smL c l).length], Value.int IntKind.i64 (smN c l), Value.int IntKind.i64 (smX c l)]) ([(rowA gB (smL c l), (4 : TypeId))])), (53, .outs (Value.tuple #[Value.agg #[Value.bool (smC c l), Value.complex FloatKind.f64 (0 : Nat) (smL c l).length], Value.int IntKind.i64 (smN c l), Value.int IntKind.i64 (smX c l)]) ([(rowA gB (smL c l), (4 : TypeId))])), (54, .b 1), (59, .outs (Value.bool true) ([])), (65, .b 1), (69, .b 1), (72, .b 1), (77, .outs (Value.bool true) ([]))]) (log := [(GTab.lookD (tabT) ((45 : Nat)) ([D.list (rowA gB l) l.length, D.list (rowA gB l) l.length])) = some (Value.bool true, []), (c == c) = true, (smX c l == smX c l) = true, (smN c l == smN c l) = true, (GTab.lookD (tabT) ((45 : Nat)) ([D.list (rowA gB (smL c l)) (smL c l).length, D.list (rowA gB (smL c l)) (smL c l).length])) = some (Value.bool true, []), (smC c l == smC c l) = true, (GTab.lookD (tabT) ((29 : Nat)) ([D.agg [D.val (Value.bool c), D.list (rowA gB l) l.length]])) = some (Value.tuple #[Value.agg #[Value.bool (smC c l), Value.complex FloatKind.f64 (0 : Nat) (smL c l).length], Value.int IntKind.i64 (smN c l), Value.int IntKind.i64 (smX c l)], [(rowA gB (smL c l), (4 : TypeId))]), (GTab.lookD (tabT) ((13 : Nat)) ([D.agg [D.val (Value.bool c), D.list (rowA gB l) l.length]])) = some (Value.tuple #[Value.agg #[Value.bool (smC c l), Value.complex FloatKind.f64 (0 : Nat) (smL c l).length], Value.int IntKind.i64 (smN c l), Value.int IntKind.i64 (smX c l)], [(rowA gB (smL c l), (4 : TypeId))]), (lkA_c2 c l != lkA_c2 c l) = false, (GTab.lookD (tabT) ((45 : Nat)) ([D.list (rowA gB (lkA_c1 c l)) (lkA_c1 c l).length, D.list (rowA gB (lkA_c1 c l)) (lkA_c1 c l).length])) = some (Value.bool true, []), (lkA_c0 c l == lkA_c0 c l) = true, (GTab.lookD (tabT) ((28 : Nat)) ([D.agg [D.val (Value.bool c), D.list (rowA gB l) l.length]])) = some (Value.tuple #[Value.agg #[Value.bool (lkA_c0 c l), Value.complex FloatKind.f64 (0 : Nat) (lkA_c1 c l).length], Value.int IntKind.i64 (lkA_c2 c l)], [(rowA gB (lkA_c1 c l), (4 : TypeId))]), (GTab.lookD (tabT) ((14 : Nat)) ([D.agg [D.val (Value.bool c), D.list (rowA gB l) l.length]])) = some (Value.tuple #[Value.agg #[Value.bool (lkA_c0 c l), Value.complex FloatKind.f64 (0 : Nat) (lkA_c1 c l).length], Value.int IntKind.i64 (lkA_c2 c l)], [(rowA gB (lkA_c1 c l), (4 : TypeId))]), (ulA_c2 c l f != ulA_c2 c l f) = false, (GTab.lookD (tabT) ((45 : Nat)) ([D.list (rowA gB (ulA_c1 c l f)) (ulA_c1 c l f).length, D.list (rowA gB (ulA_c1 c l f)) (ulA_c1 c l f).length])) = some (Value.bool true, []), (GTab.lookD (tabT) ((27 : Nat)) ([D.agg [D.val (Value.bool c), D.list (rowA gB l) l.length], D.val (Value.int IntKind.i64 f)])) = some (Value.tuple #[Value.agg #[Value.bool false, Value.complex FloatKind.f64 (0 : Nat) (ulA_c1 c l f).length], Value.int IntKind.i64 (ulA_c2 c l f)], [(rowA gB (ulA_c1 c l f), (4 : TypeId))]), (GTab.lookD (tabT) ((18 : Nat)) ([D.agg [D.val (Value.bool c), D.list (rowA gB l) l.length], D.val (Value.int IntKind.i64 f)])) = some (Value.tuple #[Value.agg #[Value.bool false, Value.complex FloatKind.f64 (0 : Nat) (ulA_c1 c l f).length], Value.int IntKind.i64 (ulA_c2 c l f)], [(rowA gB (ulA_c1 c l f), (4 : TypeId))]), (ckC c l != ckC c l) = false, (GTab.lookD (tabT) ((26 : Nat)) ([D.agg [D.val (Value.bool c), D.list (rowA gB l) l.length]])) = some (Value.int IntKind.i64 (ckC c l), []), (GTab.lookD (tabT) ((25 : Nat)) ([D.agg [D.val (Value.bool c), D.list (rowA gB l) l.length]])) = some (Value.int IntKind.i64 (ckC c l), []), (nwX n != nwX n) = false, (GTab.lookD (tabT) ((45 : Nat)) ([D.list (rowA gB (nwL n)) (nwL n).length, D.list (rowA gB (nwL n)) (nwL n).length])) = some (Value.bool true, []), (nwC n == nwC n) = true, (GTab.lookD (tabT) ((23 : Nat)) ([D.val (Value.int IntKind.i64 n)])) = some (Value.tuple #[Value.agg #[Value.bool (nwC n), Value.complex FloatKind.f64 (0 : Nat) (nwL n).length], Value.int IntKind.i64 (nwX n)], [(rowA gB (nwL n), (4 : TypeId))]), (GTab.lookD (tabT) ((17 : Nat)) ([D.val (Value.int IntKind.i64 n)])) = some (Value.tuple #[Value.agg #[Value.bool (nwC n), Value.complex FloatKind.f64 (0 : Nat) (nwL n).length], Value.int IntKind.i64 (nwX n)], [(rowA gB (nwL n), (4 : TypeId))]), (GTab.lookD (tabT) ((22 : Nat)) ([D.agg [D.val (Value.bool c), D.list (rowA gB l) l.length]])) = some (Value.agg #[Value.bool c, Value.complex FloatKind.f64 (0 : Nat) l.length], [(rowA gB l, (4 : TypeId))]), (decide ((↑l.length : Int) > (70 : Int))) = false]) (by kernel_rfl) ⟨(sbD_at (l) (l.length) (l.length) (by first | rfl | assumption | omega | (simp; done) | (simp_all; done) | (simp_all; omega)) (by first | rfl | assumption | omega | (simp; done) | (simp_all; done) | (simp_all; omega)) (by first | rfl | assumption | omega | (simp; done) | (simp_all; done) | (simp_all; omega))), hq10, hq9, hq8, (sbD_at (smL c l) ((smL c l).length) ((smL c l).length) (by first | rfl | assumption | omega | (simp; done) | (simp_all; done) | (simp_all; omega)) (by first | rfl | assumption | omega | (simp; done) | (simp_all; done) | (simp_all; omega)) (by first | rfl | assumption | omega | (simp; done) | (simp_all; done) | (simp_all; omega))), hq7, (srD_at (c) (l) (l.length) (by first | rfl | assumption | omega | (simp; done) | (simp_all; done) | (simp_all; omega)) (by first | rfl | assumption | omega | (simp; done) | (simp_all; done) | (simp_all; omega))), (saD_at (c) (l) (l.length) (by first | rfl | assumption | omega | (simp; done) | (simp_all; done) | (simp_all; omega))), hq6, (sbD_at (lkA_c1 c l) ((lkA_c1 c l).length) ((lkA_c1 c l).length) (by first | rfl | assumption | omega | (simp; done) | (simp_all; done) | (simp_all; omega)) (by first | rfl | assumption | omega | (simp; done) | (simp_all; done) | (simp_all; omega)) (by first | rfl | assumption | omega | (simp; done) | (simp_all; done) | (simp_all; omega))), hq5, (krD_at (c) (l) (l.length) (by first | rfl | assumption | omega | (simp; done) | (simp_all; done) | (simp_all; omega)) (by first | rfl | assumption | omega | (simp; done) | (simp_all; done) | (simp_all; omega))), (kaD_at (c) (l) (l.length) (by first | rfl | assumption | omega | (simp; done) | (simp_all; done) | (simp_all; omega)) (by first | rfl | assumption | omega | (simp; done) | (simp_all; done) | (simp_all; omega))), hq4, (sbD_at (ulA_c1 c l f) ((ulA_c1 c l f).length) ((ulA_c1 c l f).length) (by first | rfl | assumption | omega | (simp; done) | (simp_all; done) | (simp_all; omega)) (by first | rfl | assumption | omega | (simp; done) | (simp_all; done) | (simp_all; omega)) (by first | rfl | assumption | omega | (simp; done) | (simp_all; done) | (simp_all; omega))), (urD_at (c) (l) (f) (l.length) (by first | rfl | assumption | omega | (simp; done) | (simp_all; done) | (simp_all; omega)) (by first | rfl | assumption | omega | (simp; done) | (simp_all; done) | (simp_all; omega))), (uaD_at (c) (l) (f) (l.length) (by first | rfl | assumption | omega | (simp; done) | (simp_all; done) | (simp_all; omega)) (by first | rfl | assumption | omega | (simp; done) | (simp_all; done) | (simp_all; omega))), hq3, (rcD_at (c) (l) (l.length) (by first | rfl | assumption | omega | (simp; done) | (simp_all; done) | (simp_all; omega)) (by first | rfl | assumption | omega | (simp; done) | (simp_all; done) | (simp_all; omega))), (ckD_at (c) (l) (l.length) (by first | rfl | assumption | omega | (simp; done) | (simp_all; done) | (simp_all; omega))), hq2, (sbD_at (nwL n) ((nwL n).length) ((nwL n).length) (by first | rfl | assumption | omega | (simp; done) | (simp_all; done) | (simp_all; omega)) (by first | rfl | assumption | omega | (simp; done) | (simp_all; done) | (simp_all; omega)) (by first | rfl | assumption | omega | (simp; done) | (simp_all; done) | (simp_all; omega))), hq1, (raD_at (n)), (naD_at (n)), (oaD_at (c) (l) (l.length) (by first | rfl | assumption | omega | (simp; done) | (simp_all; done) | (simp_all; omega)) (by first | rfl | assumption | omega | (simp; done) | (simp_all; done) | (simp_all; omega))), hq0, trivial⟩ (by kernel_rfl)) (by first | rfl | (simp; done) | (simp_all; done)) (by first | rfl | (simp [rowA_nil]; done) | (simp only [rowA_eq]; rfl) | (simp_all [rowA_nil]; done))
set_option maxHeartbeats 8000000 in
theorem lawT (c : Bool) (l : List Bool) (f n : Int) (hl : (l.length : Int) ≤ 70) (h1 : ((nwL n).length : Int) ≤ 70) (h2 : ((ulA_c1 c l f).length : Int) ≤ 70) (h3 : ((lkA_c1 c l).length : Int) ≤ 70) (h4 : ((smL c l).length : Int) ≤ 70) : KnownR Try.prog [] 4 [.agg [.val (.bool c), .list (rowA gB l) l.length], .val (.int .i64 f), .val (.int .i64 n)] (.bool (true)) [] := by
  have hq0 : (decide ((↑l.length : Int) > (70 : Int))) = false := by
    rcases Bool.eq_false_or_eq_true (decide ((↑l.length : Int) > (70 : Int))) with h | h
    · exfalso; (first | (simp_all only [Bool.and_eq_true, Bool.not_eq_true', Bool.false_eq_true, Bool.true_eq_false, reduceCtorEq]; done) | (simp only [sx, sy, eq_self, ne_eq, IntKind.wrap_i64, wrapU64, Int.reduceLT] at * <;> first | contradiction | omega) | omega | ((try simp only [sx, sy, eq_self, ne_eq, IntKind.wrap_i64, wrapU64, Int.reduceLT] at *) <;> omega) | (simp_all; done))
    · exact h
  have hq1 : (nwC n == nwC n) = true := by
    rcases Bool.eq_false_or_eq_true (nwC n == nwC n) with h | h
    · exact h
    · exfalso; (first | (simp_all only [Bool.and_eq_true, Bool.not_eq_true', Bool.false_eq_true, Bool.true_eq_false, reduceCtorEq]; done) | (simp only [sx, sy, eq_self, ne_eq, IntKind.wrap_i64, wrapU64, Int.reduceLT] at * <;> first | contradiction | omega) | omega | ((try simp only [sx, sy, eq_self, ne_eq, IntKind.wrap_i64, wrapU64, Int.reduceLT] at *) <;> omega) | (simp_all; done))
  have hq2 : (nwX n != nwX n) = false := by
    rcases Bool.eq_false_or_eq_true (nwX n != nwX n) with h | h
    · exfalso; (first | (simp_all only [Bool.and_eq_true, Bool.not_eq_true', Bool.false_eq_true, Bool.true_eq_false, reduceCtorEq]; done) | (simp only [sx, sy, eq_self, ne_eq, IntKind.wrap_i64, wrapU64, Int.reduceLT] at * <;> first | contradiction | omega) | omega | ((try simp only [sx, sy, eq_self, ne_eq, IntKind.wrap_i64, wrapU64, Int.reduceLT] at *) <;> omega) | (simp_all; done))
    · exact h
  have hq3 : (ckC c l != ckC c l) = false := by
    rcases Bool.eq_false_or_eq_true (ckC c l != ckC c l) with h | h
    · exfalso; (first | (simp_all only [Bool.and_eq_true, Bool.not_eq_true', Bool.false_eq_true, Bool.true_eq_false, reduceCtorEq]; done) | (simp only [sx, sy, eq_self, ne_eq, IntKind.wrap_i64, wrapU64, Int.reduceLT] at * <;> first | contradiction | omega) | omega | ((try simp only [sx, sy, eq_self, ne_eq, IntKind.wrap_i64, wrapU64, Int.reduceLT] at *) <;> omega) | (simp_all; done))
    · exact h
  have hq4 : (ulA_c2 c l f != ulA_c2 c l f) = false := by
    rcases Bool.eq_false_or_eq_true (ulA_c2 c l f != ulA_c2 c l f) with h | h
    · exfalso; (first | (simp_all only [Bool.and_eq_true, Bool.not_eq_true', Bool.false_eq_true, Bool.true_eq_false, reduceCtorEq]; done) | (simp only [sx, sy, eq_self, ne_eq, IntKind.wrap_i64, wrapU64, Int.reduceLT] at * <;> first | contradiction | omega) | omega | ((try simp only [sx, sy, eq_self, ne_eq, IntKind.wrap_i64, wrapU64, Int.reduceLT] at *) <;> omega) | (simp_all; done))
    · exact h
  have hq5 : (lkA_c0 c l == lkA_c0 c l) = true := by
    rcases Bool.eq_false_or_eq_true (lkA_c0 c l == lkA_c0 c l) with h | h
    · exact h
    · exfalso; (first | (simp_all only [Bool.and_eq_true, Bool.not_eq_true', Bool.false_eq_true, Bool.true_eq_false, reduceCtorEq]; done) | (simp only [sx, sy, eq_self, ne_eq, IntKind.wrap_i64, wrapU64, Int.reduceLT] at * <;> first | contradiction | omega) | omega | ((try simp only [sx, sy, eq_self, ne_eq, IntKind.wrap_i64, wrapU64, Int.reduceLT] at *) <;> omega) | (simp_all; done))
  have hq6 : (lkA_c2 c l != lkA_c2 c l) = false := by
    rcases Bool.eq_false_or_eq_true (lkA_c2 c l != lkA_c2 c l) with h | h
    · exfalso; (first | (simp_all only [Bool.and_eq_true, Bool.not_eq_true', Bool.false_eq_true, Bool.true_eq_false, reduceCtorEq]; done) | (simp only [sx, sy, eq_self, ne_eq, IntKind.wrap_i64, wrapU64, Int.reduceLT] at * <;> first | contradiction | omega) | omega | ((try simp only [sx, sy, eq_self, ne_eq, IntKind.wrap_i64, wrapU64, Int.reduceLT] at *) <;> omega) | (simp_all; done))
    · exact h
  have hq7 : (smC c l == smC c l) = true := by
    rcases Bool.eq_false_or_eq_true (smC c l == smC c l) with h | h
    · exact h
    · exfalso; (first | (simp_all only [Bool.and_eq_true, Bool.not_eq_true', Bool.false_eq_true, Bool.true_eq_false, reduceCtorEq]; done) | (simp only [sx, sy, eq_self, ne_eq, IntKind.wrap_i64, wrapU64, Int.reduceLT] at * <;> first | contradiction | omega) | omega | ((try simp only [sx, sy, eq_self, ne_eq, IntKind.wrap_i64, wrapU64, Int.reduceLT] at *) <;> omega) | (simp_all; done))
  have hq8 : (smN c l == smN c l) = true := by
    rcases Bool.eq_false_or_eq_true (smN c l == smN c l) with h | h
    · exact h
    · exfalso; (first | (simp_all only [Bool.and_eq_true, Bool.not_eq_true', Bool.false_eq_true, Bool.true_eq_false, reduceCtorEq]; done) | (simp only [sx, sy, eq_self, ne_eq, IntKind.wrap_i64, wrapU64, Int.reduceLT] at * <;> first | contradiction | omega) | omega | ((try simp only [sx, sy, eq_self, ne_eq, IntKind.wrap_i64, wrapU64, Int.reduceLT] at *) <;> omega) | (simp_all; done))
  have hq9 : (smX c l == smX c l) = true := by
    rcases Bool.eq_false_or_eq_true (smX c l == smX c l) with h | h
    · exact h
    · exfalso; (first | (simp_all only [Bool.and_eq_true, Bool.not_eq_true', Bool.false_eq_true, Bool.true_eq_false, reduceCtorEq]; done) | (simp only [sx, sy, eq_self, ne_eq, IntKind.wrap_i64, wrapU64, Int.reduceLT] at * <;> first | contradiction | omega) | omega | ((try simp only [sx, sy, eq_self, ne_eq, IntKind.wrap_i64, wrapU64, Int.reduceLT] at *) <;> omega) | (simp_all; done))
  have hq10 : (c == c) = true := by
    rcases Bool.eq_false_or_eq_true (c == c) with h | h
    · exact h
    · exfalso; (first | (simp_all only [Bool.and_eq_true, Bool.not_eq_true', Bool.false_eq_true, Bool.true_eq_false, reduceCtorEq]; done) | (simp only [sx, sy, eq_self, ne_eq, IntKind.wrap_i64, wrapU64, Int.reduceLT] at * <;> first | contradiction | omega) | omega | ((try simp only [sx, sy, eq_self, ne_eq, IntKind.wrap_i64, wrapU64, Int.reduceLT] at *) <;> omega) | (simp_all; done))
  exact lawT_p0 c l f n hl h1 h2 h3 h4 hq0 hq1 hq2 hq3 hq4 hq5 hq6 hq7 hq8 hq9 hq10

theorem lawTE_p0 (c : Bool) (l : List Bool) (f n : Int) (hl : ¬ (l.length : Int) ≤ 70) (hq0 : (decide ((↑l.length : Int) > (70 : Int))) = true) : KnownR Try.prog [] 4 [.agg [.val (.bool c), .list (rowA gB l) l.length], .val (.int .i64 f), .val (.int .i64 n)] (.bool (true)) [] :=
  knownR_eq (v := Value.bool true) (bs := []) (open_resD mix tabT_ok (T := tabT) (fuel := 3000) (es := []) (ans := [(0, .b 1)]) (log := [(decide ((↑l.length : Int) > (70 : Int))) = true]) (by kernel_rfl) ⟨hq0, trivial⟩ (by kernel_rfl)) (by first | rfl | (simp; done) | (simp_all; done)) (by first | rfl | (simp [rowA_nil]; done) | (simp only [rowA_eq]; rfl) | (simp_all [rowA_nil]; done))
set_option maxHeartbeats 8000000 in
theorem lawTE (c : Bool) (l : List Bool) (f n : Int) (hl : ¬ (l.length : Int) ≤ 70) : KnownR Try.prog [] 4 [.agg [.val (.bool c), .list (rowA gB l) l.length], .val (.int .i64 f), .val (.int .i64 n)] (.bool (true)) [] := by
  have hq0 : (decide ((↑l.length : Int) > (70 : Int))) = true := by
    rcases Bool.eq_false_or_eq_true (decide ((↑l.length : Int) > (70 : Int))) with h | h
    · exact h
    · exfalso; (first | (simp_all only [Bool.and_eq_true, Bool.not_eq_true', Bool.false_eq_true, Bool.true_eq_false, reduceCtorEq]; done) | (simp only [sx, sy, eq_self, ne_eq, IntKind.wrap_i64, wrapU64, Int.reduceLT] at * <;> first | contradiction | omega) | omega | ((try simp only [sx, sy, eq_self, ne_eq, IntKind.wrap_i64, wrapU64, Int.reduceLT] at *) <;> omega) | (simp_all; done))
  exact lawTE_p0 c l f n hl hq0

end Go.Proofs.Ytbcbldpppjbkhaa
