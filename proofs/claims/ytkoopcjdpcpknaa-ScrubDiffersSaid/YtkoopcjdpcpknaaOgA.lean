/- Layer 32: one car: whether it is right, what is shown of it, of both. -/
import Derived.Test.YtkoopcjdpcpknaaSW
import Derived.ProofKit
import Derived.IntWalk
namespace Go.Proofs.Ytkoopcjdpcpknaa
open Go Go.RowKit
set_option linter.unusedVariables false
set_option linter.unusedSimpArgs false
set_option linter.unnecessarySimpa false
set_option maxHeartbeats 8000000
set_option maxRecDepth 100000
abbrev Shn := Int × Bool × Bool × Bool × Int × Int
/-- what is known of a car -/
def gSh (m : Shn) : List Value := [.int .i64 m.1, .bool m.2.1, .bool m.2.2.1, .bool m.2.2.2.1, .int .i64 m.2.2.2.2.1, .int .i64 m.2.2.2.2.2]
theorem gSh_inj {l m : List Shn} : rowA gSh l = rowA gSh m ↔ l = m := ⟨row_inj (k := 6) (fun _ => rfl) (by decide) (fun a b h => by obtain ⟨_, _, _, _, _, _⟩ := a; obtain ⟨_, _, _, _, _, _⟩ := b; simpa [gSh] using h), fun h => by rw [h]⟩
abbrev Sgt := Int × Int × Bool
/-- a sight -/
def gSg (m : Sgt) : List Value := [.int .i64 m.1, .int .i64 m.2.1, .bool m.2.2]
theorem gSg_inj {l m : List Sgt} : rowA gSg l = rowA gSg m ↔ l = m := ⟨row_inj (k := 3) (fun _ => rfl) (by decide) (fun a b h => by obtain ⟨_, _, _⟩ := a; obtain ⟨_, _, _⟩ := b; simpa [gSg] using h), fun h => by rw [h]⟩
theorem phD (gs : List Int) (hx : gs.length ≤ 1000) : KnownR Try.prog [] 30 [.list (rowA gI gs) gs.length] (.tuple #[.int .i64 (htV gs), .int .i64 (ckE gs)]) ([]) := height_p gs hx
noncomputable def phD_A (p : List Int × Nat × Unit) : List D := match p with
  | (gs, nn0, _) => [.list (rowA gI gs) nn0]
noncomputable def phD_C (p : List Int × Nat × Unit) : Prop := match p with
  | (gs, nn0, _) => (nn0 = gs.length) ∧ (gs.length ≤ 1000) ∧ True
noncomputable def phD_R (p : List Int × Nat × Unit) : Value × Outs := match p with
  | (gs, nn0, _) => (.tuple #[.int .i64 (htV gs), .int .i64 (ckE gs)], [])
theorem phD_inj : ∀ p q, phD_C p → phD_C q → phD_A p = phD_A q → phD_R p = phD_R q := by
  rintro ⟨gs, nn0, _⟩ ⟨gs', nn0', _⟩ _ _ e
  simp only [phD_A, List.cons.injEq, D.list.injEq, D.val.injEq, D.agg.injEq, Value.int.injEq, Value.bool.injEq, Value.string.injEq, Value.agg.injEq, Array.mk.injEq, and_true, true_and, gI_inj, gB_inj] at e
  simp_all
noncomputable def phD_k : List D → Option (Value × Outs) := fnP phD_A phD_C phD_R
theorem phD_n (gs : List Int) (nn0 : Nat) (hn0 : nn0 = gs.length) (hx : gs.length ≤ 1000) : KnownR Try.prog [] 30 [.list (rowA gI gs) nn0] (.tuple #[.int .i64 (htV gs), .int .i64 (ckE gs)]) ([]) := by
  subst hn0; skip
  exact phD _ hx
theorem phD_ok : ∀ ds v bs, phD_k ds = some (v, bs) → KnownR Try.prog [] 30 ds v bs := fnP_ok (by
  rintro ⟨gs, nn0, _⟩ ⟨hn0, hx, _⟩
  exact phD_n _ _ hn0 hx)
theorem phD_at (gs : List Int) (nn0 : Nat) (hn0 : nn0 = gs.length) (hx : gs.length ≤ 1000) : phD_k [.list (rowA gI gs) nn0] = some (.tuple #[.int .i64 (htV gs), .int .i64 (ckE gs)], []) := fnP_at (p := (gs, nn0, ())) phD_inj ⟨hn0, hx, trivial⟩ rfl rfl
theorem rhD (gs : List Int) (hx : gs.length ≤ 1000) : KnownR Try.prog [] 31 [.list (rowA gI gs) gs.length] (.tuple #[.int .i64 (htV gs), .int .i64 (ckE gs)]) ([]) := height_r gs hx
noncomputable def rhD_A (p : List Int × Nat × Unit) : List D := match p with
  | (gs, nn0, _) => [.list (rowA gI gs) nn0]
noncomputable def rhD_C (p : List Int × Nat × Unit) : Prop := match p with
  | (gs, nn0, _) => (nn0 = gs.length) ∧ (gs.length ≤ 1000) ∧ True
noncomputable def rhD_R (p : List Int × Nat × Unit) : Value × Outs := match p with
  | (gs, nn0, _) => (.tuple #[.int .i64 (htV gs), .int .i64 (ckE gs)], [])
theorem rhD_inj : ∀ p q, rhD_C p → rhD_C q → rhD_A p = rhD_A q → rhD_R p = rhD_R q := by
  rintro ⟨gs, nn0, _⟩ ⟨gs', nn0', _⟩ _ _ e
  simp only [rhD_A, List.cons.injEq, D.list.injEq, D.val.injEq, D.agg.injEq, Value.int.injEq, Value.bool.injEq, Value.string.injEq, Value.agg.injEq, Array.mk.injEq, and_true, true_and, gI_inj, gB_inj] at e
  simp_all
noncomputable def rhD_k : List D → Option (Value × Outs) := fnP rhD_A rhD_C rhD_R
theorem rhD_n (gs : List Int) (nn0 : Nat) (hn0 : nn0 = gs.length) (hx : gs.length ≤ 1000) : KnownR Try.prog [] 31 [.list (rowA gI gs) nn0] (.tuple #[.int .i64 (htV gs), .int .i64 (ckE gs)]) ([]) := by
  subst hn0; skip
  exact rhD _ hx
theorem rhD_ok : ∀ ds v bs, rhD_k ds = some (v, bs) → KnownR Try.prog [] 31 ds v bs := fnP_ok (by
  rintro ⟨gs, nn0, _⟩ ⟨hn0, hx, _⟩
  exact rhD_n _ _ hn0 hx)
theorem rhD_at (gs : List Int) (nn0 : Nat) (hn0 : nn0 = gs.length) (hx : gs.length ≤ 1000) : rhD_k [.list (rowA gI gs) nn0] = some (.tuple #[.int .i64 (htV gs), .int .i64 (ckE gs)], []) := fnP_at (p := (gs, nn0, ())) rhD_inj ⟨hn0, hx, trivial⟩ rfl rfl
theorem pcD (gs : List Int) (hx : gs.length ≤ 1000) : KnownR Try.prog [] 25 [.list (rowA gI gs) gs.length] (.tuple #[.int .i64 (ckE gs), .int .i64 (ckI gs)]) ([]) := check_p gs hx
noncomputable def pcD_A (p : List Int × Nat × Unit) : List D := match p with
  | (gs, nn0, _) => [.list (rowA gI gs) nn0]
noncomputable def pcD_C (p : List Int × Nat × Unit) : Prop := match p with
  | (gs, nn0, _) => (nn0 = gs.length) ∧ (gs.length ≤ 1000) ∧ True
noncomputable def pcD_R (p : List Int × Nat × Unit) : Value × Outs := match p with
  | (gs, nn0, _) => (.tuple #[.int .i64 (ckE gs), .int .i64 (ckI gs)], [])
theorem pcD_inj : ∀ p q, pcD_C p → pcD_C q → pcD_A p = pcD_A q → pcD_R p = pcD_R q := by
  rintro ⟨gs, nn0, _⟩ ⟨gs', nn0', _⟩ _ _ e
  simp only [pcD_A, List.cons.injEq, D.list.injEq, D.val.injEq, D.agg.injEq, Value.int.injEq, Value.bool.injEq, Value.string.injEq, Value.agg.injEq, Array.mk.injEq, and_true, true_and, gI_inj, gB_inj] at e
  simp_all
noncomputable def pcD_k : List D → Option (Value × Outs) := fnP pcD_A pcD_C pcD_R
theorem pcD_n (gs : List Int) (nn0 : Nat) (hn0 : nn0 = gs.length) (hx : gs.length ≤ 1000) : KnownR Try.prog [] 25 [.list (rowA gI gs) nn0] (.tuple #[.int .i64 (ckE gs), .int .i64 (ckI gs)]) ([]) := by
  subst hn0; skip
  exact pcD _ hx
theorem pcD_ok : ∀ ds v bs, pcD_k ds = some (v, bs) → KnownR Try.prog [] 25 ds v bs := fnP_ok (by
  rintro ⟨gs, nn0, _⟩ ⟨hn0, hx, _⟩
  exact pcD_n _ _ hn0 hx)
theorem pcD_at (gs : List Int) (nn0 : Nat) (hn0 : nn0 = gs.length) (hx : gs.length ≤ 1000) : pcD_k [.list (rowA gI gs) nn0] = some (.tuple #[.int .i64 (ckE gs), .int .i64 (ckI gs)], []) := fnP_at (p := (gs, nn0, ())) pcD_inj ⟨hn0, hx, trivial⟩ rfl rfl
theorem rcD (gs : List Int) (hx : gs.length ≤ 1000) : KnownR Try.prog [] 28 [.list (rowA gI gs) gs.length] (.tuple #[.int .i64 (ckE gs), .int .i64 (ckI gs)]) ([]) := check_r gs hx
noncomputable def rcD_A (p : List Int × Nat × Unit) : List D := match p with
  | (gs, nn0, _) => [.list (rowA gI gs) nn0]
noncomputable def rcD_C (p : List Int × Nat × Unit) : Prop := match p with
  | (gs, nn0, _) => (nn0 = gs.length) ∧ (gs.length ≤ 1000) ∧ True
noncomputable def rcD_R (p : List Int × Nat × Unit) : Value × Outs := match p with
  | (gs, nn0, _) => (.tuple #[.int .i64 (ckE gs), .int .i64 (ckI gs)], [])
theorem rcD_inj : ∀ p q, rcD_C p → rcD_C q → rcD_A p = rcD_A q → rcD_R p = rcD_R q := by
  rintro ⟨gs, nn0, _⟩ ⟨gs', nn0', _⟩ _ _ e
  simp only [rcD_A, List.cons.injEq, D.list.injEq, D.val.injEq, D.agg.injEq, Value.int.injEq, Value.bool.injEq, Value.string.injEq, Value.agg.injEq, Array.mk.injEq, and_true, true_and, gI_inj, gB_inj] at e
  simp_all
noncomputable def rcD_k : List D → Option (Value × Outs) := fnP rcD_A rcD_C rcD_R
theorem rcD_n (gs : List Int) (nn0 : Nat) (hn0 : nn0 = gs.length) (hx : gs.length ≤ 1000) : KnownR Try.prog [] 28 [.list (rowA gI gs) nn0] (.tuple #[.int .i64 (ckE gs), .int .i64 (ckI gs)]) ([]) := by
  subst hn0; skip
  exact rcD _ hx
theorem rcD_ok : ∀ ds v bs, rcD_k ds = some (v, bs) → KnownR Try.prog [] 28 ds v bs := fnP_ok (by
  rintro ⟨gs, nn0, _⟩ ⟨hn0, hx, _⟩
  exact rcD_n _ _ hn0 hx)
theorem rcD_at (gs : List Int) (nn0 : Nat) (hn0 : nn0 = gs.length) (hx : gs.length ≤ 1000) : rcD_k [.list (rowA gI gs) nn0] = some (.tuple #[.int .i64 (ckE gs), .int .i64 (ckI gs)], []) := fnP_at (p := (gs, nn0, ())) rcD_inj ⟨hn0, hx, trivial⟩ rfl rfl
theorem pnD (gs : List Int) (p : Int) (hx : gs.length ≤ 1000) : KnownR Try.prog [] 36 [.list (rowA gI gs) gs.length, .val (.int .i64 p)] (.tuple #[.int .i64 (nV gs p), .int .i64 (lE gs p 0 0)]) ([]) := nearest_p gs hx p
noncomputable def pnD_A (p : List Int × Int × Nat × Unit) : List D := match p with
  | (gs, p, nn0, _) => [.list (rowA gI gs) nn0, .val (.int .i64 p)]
noncomputable def pnD_C (p : List Int × Int × Nat × Unit) : Prop := match p with
  | (gs, p, nn0, _) => (nn0 = gs.length) ∧ (gs.length ≤ 1000) ∧ True
noncomputable def pnD_R (p : List Int × Int × Nat × Unit) : Value × Outs := match p with
  | (gs, p, nn0, _) => (.tuple #[.int .i64 (nV gs p), .int .i64 (lE gs p 0 0)], [])
theorem pnD_inj : ∀ p q, pnD_C p → pnD_C q → pnD_A p = pnD_A q → pnD_R p = pnD_R q := by
  rintro ⟨gs, p, nn0, _⟩ ⟨gs', p', nn0', _⟩ _ _ e
  simp only [pnD_A, List.cons.injEq, D.list.injEq, D.val.injEq, D.agg.injEq, Value.int.injEq, Value.bool.injEq, Value.string.injEq, Value.agg.injEq, Array.mk.injEq, and_true, true_and, gI_inj, gB_inj] at e
  simp_all
noncomputable def pnD_k : List D → Option (Value × Outs) := fnP pnD_A pnD_C pnD_R
theorem pnD_n (gs : List Int) (p : Int) (nn0 : Nat) (hn0 : nn0 = gs.length) (hx : gs.length ≤ 1000) : KnownR Try.prog [] 36 [.list (rowA gI gs) nn0, .val (.int .i64 p)] (.tuple #[.int .i64 (nV gs p), .int .i64 (lE gs p 0 0)]) ([]) := by
  subst hn0; skip
  exact pnD _ _ hx
theorem pnD_ok : ∀ ds v bs, pnD_k ds = some (v, bs) → KnownR Try.prog [] 36 ds v bs := fnP_ok (by
  rintro ⟨gs, p, nn0, _⟩ ⟨hn0, hx, _⟩
  exact pnD_n _ _ _ hn0 hx)
theorem pnD_at (gs : List Int) (p : Int) (nn0 : Nat) (hn0 : nn0 = gs.length) (hx : gs.length ≤ 1000) : pnD_k [.list (rowA gI gs) nn0, .val (.int .i64 p)] = some (.tuple #[.int .i64 (nV gs p), .int .i64 (lE gs p 0 0)], []) := fnP_at (p := (gs, p, nn0, ())) pnD_inj ⟨hn0, hx, trivial⟩ rfl rfl
theorem rnD (gs : List Int) (p : Int) (hx : gs.length ≤ 1000) : KnownR Try.prog [] 37 [.list (rowA gI gs) gs.length, .val (.int .i64 p)] (.tuple #[.int .i64 (nV gs p), .int .i64 (lE gs p 0 0)]) ([]) := nearest_r gs hx p
noncomputable def rnD_A (p : List Int × Int × Nat × Unit) : List D := match p with
  | (gs, p, nn0, _) => [.list (rowA gI gs) nn0, .val (.int .i64 p)]
noncomputable def rnD_C (p : List Int × Int × Nat × Unit) : Prop := match p with
  | (gs, p, nn0, _) => (nn0 = gs.length) ∧ (gs.length ≤ 1000) ∧ True
noncomputable def rnD_R (p : List Int × Int × Nat × Unit) : Value × Outs := match p with
  | (gs, p, nn0, _) => (.tuple #[.int .i64 (nV gs p), .int .i64 (lE gs p 0 0)], [])
theorem rnD_inj : ∀ p q, rnD_C p → rnD_C q → rnD_A p = rnD_A q → rnD_R p = rnD_R q := by
  rintro ⟨gs, p, nn0, _⟩ ⟨gs', p', nn0', _⟩ _ _ e
  simp only [rnD_A, List.cons.injEq, D.list.injEq, D.val.injEq, D.agg.injEq, Value.int.injEq, Value.bool.injEq, Value.string.injEq, Value.agg.injEq, Array.mk.injEq, and_true, true_and, gI_inj, gB_inj] at e
  simp_all
noncomputable def rnD_k : List D → Option (Value × Outs) := fnP rnD_A rnD_C rnD_R
theorem rnD_n (gs : List Int) (p : Int) (nn0 : Nat) (hn0 : nn0 = gs.length) (hx : gs.length ≤ 1000) : KnownR Try.prog [] 37 [.list (rowA gI gs) nn0, .val (.int .i64 p)] (.tuple #[.int .i64 (nV gs p), .int .i64 (lE gs p 0 0)]) ([]) := by
  subst hn0; skip
  exact rnD _ _ hx
theorem rnD_ok : ∀ ds v bs, rnD_k ds = some (v, bs) → KnownR Try.prog [] 37 ds v bs := fnP_ok (by
  rintro ⟨gs, p, nn0, _⟩ ⟨hn0, hx, _⟩
  exact rnD_n _ _ _ hn0 hx)
theorem rnD_at (gs : List Int) (p : Int) (nn0 : Nat) (hn0 : nn0 = gs.length) (hx : gs.length ≤ 1000) : rnD_k [.list (rowA gI gs) nn0, .val (.int .i64 p)] = some (.tuple #[.int .i64 (nV gs p), .int .i64 (lE gs p 0 0)], []) := fnP_at (p := (gs, p, nn0, ())) rnD_inj ⟨hn0, hx, trivial⟩ rfl rfl
noncomputable def tabA : GTab := (GTab.fnD 30 phD_k (GTab.fnD 31 rhD_k (GTab.fnD 25 pcD_k (GTab.fnD 28 rcD_k (GTab.fnD 36 pnD_k (GTab.fnD 37 rnD_k GTab.none))))))
theorem tabA_ok : GOk Try.prog [] tabA := (GOk.fnD phD_ok (GOk.fnD rhD_ok (GOk.fnD pcD_ok (GOk.fnD rcD_ok (GOk.fnD pnD_ok (GOk.fnD rnD_ok GOk.none))))))
noncomputable def psc_c0 (gs : List Int) (a : Int) (b c d : Bool) (p q : Int) : Int := (bif (ckE gs != (0 : Int)) then (ckE gs) else (bif (decide (a ≥ (0 : Int))) then (bif (!decide (a ≤ (3 : Int))) then ((2 : Int)) else (bif (decide (p ≥ (0 : Int))) then (bif (!decide (p ≤ htV gs)) then ((2 : Int)) else (bif (decide (q ≥ (0 : Int))) then (bif (!decide (q ≤ (20 : Int))) then ((2 : Int)) else ((0 : Int))) else ((2 : Int)))) else ((2 : Int)))) else ((2 : Int))))
theorem psc_p0 (gs : List Int) (a : Int) (b c d : Bool) (p q : Int) (hx : gs.length ≤ 70) (hq0 : (ckE gs != (0 : Int)) = true) : KnownR Try.prog [] 14 [.list (rowA gI gs) gs.length, .val (.agg #[.int .i64 a, .bool b, .bool c, .bool d, .int .i64 p, .int .i64 q])] (.int .i64 (ckE gs)) [] :=
  knownR_eq (v := Value.int IntKind.i64 (ckE gs)) (bs := []) (open_resD mix tabA_ok (T := tabA) (fuel := 3000) (es := []) (ans := [(0, .outs (Value.tuple #[Value.int IntKind.i64 (htV gs), Value.int IntKind.i64 (ckE gs)]) ([])), (1, .b 1)]) (log := [(ckE gs != (0 : Int)) = true, (GTab.lookD (tabA) ((30 : Nat)) ([D.list (rowA gI gs) gs.length])) = some (Value.tuple #[Value.int IntKind.i64 (htV gs), Value.int IntKind.i64 (ckE gs)], [])]) (by kernel_rfl) ⟨hq0, (phD_at (gs) (gs.length) (by first | rfl | assumption | omega | (simp; done) | (simp_all; done) | (simp_all; omega)) (by first | rfl | assumption | omega | (simp; done) | (simp_all; done) | (simp_all; omega))), trivial⟩ (by kernel_rfl)) (by first | rfl | (simp; done) | (simp_all; done)) (by first | rfl | (simp [rowA_nil]; done) | (simp only [rowA_eq]; rfl) | (simp_all [rowA_nil]; done))
theorem psc_p1 (gs : List Int) (a : Int) (b c d : Bool) (p q : Int) (hx : gs.length ≤ 70) (hq0 : (ckE gs != (0 : Int)) = false) (hq1 : (decide (a ≥ (0 : Int))) = true) (hq2 : (!decide (a ≤ (3 : Int))) = true) : KnownR Try.prog [] 14 [.list (rowA gI gs) gs.length, .val (.agg #[.int .i64 a, .bool b, .bool c, .bool d, .int .i64 p, .int .i64 q])] (.int .i64 ((2 : Int))) [] :=
  knownR_eq (v := Value.int IntKind.i64 (2 : Int)) (bs := []) (open_resD mix tabA_ok (T := tabA) (fuel := 3000) (es := []) (ans := [(0, .outs (Value.tuple #[Value.int IntKind.i64 (htV gs), Value.int IntKind.i64 (ckE gs)]) ([])), (1, .b 0), (2, .b 1), (6, .b 1)]) (log := [(!decide (a ≤ (3 : Int))) = true, (decide (a ≥ (0 : Int))) = true, (ckE gs != (0 : Int)) = false, (GTab.lookD (tabA) ((30 : Nat)) ([D.list (rowA gI gs) gs.length])) = some (Value.tuple #[Value.int IntKind.i64 (htV gs), Value.int IntKind.i64 (ckE gs)], [])]) (by kernel_rfl) ⟨hq2, hq1, hq0, (phD_at (gs) (gs.length) (by first | rfl | assumption | omega | (simp; done) | (simp_all; done) | (simp_all; omega)) (by first | rfl | assumption | omega | (simp; done) | (simp_all; done) | (simp_all; omega))), trivial⟩ (by kernel_rfl)) (by first | rfl | (simp; done) | (simp_all; done)) (by first | rfl | (simp [rowA_nil]; done) | (simp only [rowA_eq]; rfl) | (simp_all [rowA_nil]; done))
theorem psc_p2 (gs : List Int) (a : Int) (b c d : Bool) (p q : Int) (hx : gs.length ≤ 70) (hq0 : (ckE gs != (0 : Int)) = false) (hq1 : (decide (a ≥ (0 : Int))) = true) (hq2 : (!decide (a ≤ (3 : Int))) = false) (hq3 : (decide (p ≥ (0 : Int))) = true) (hq4 : (!decide (p ≤ htV gs)) = true) : KnownR Try.prog [] 14 [.list (rowA gI gs) gs.length, .val (.agg #[.int .i64 a, .bool b, .bool c, .bool d, .int .i64 p, .int .i64 q])] (.int .i64 ((2 : Int))) [] :=
  knownR_eq (v := Value.int IntKind.i64 (2 : Int)) (bs := []) (open_resD mix tabA_ok (T := tabA) (fuel := 3000) (es := []) (ans := [(0, .outs (Value.tuple #[Value.int IntKind.i64 (htV gs), Value.int IntKind.i64 (ckE gs)]) ([])), (1, .b 0), (2, .b 1), (6, .b 0), (10, .b 1), (16, .b 1)]) (log := [(!decide (p ≤ htV gs)) = true, (decide (p ≥ (0 : Int))) = true, (!decide (a ≤ (3 : Int))) = false, (decide (a ≥ (0 : Int))) = true, (ckE gs != (0 : Int)) = false, (GTab.lookD (tabA) ((30 : Nat)) ([D.list (rowA gI gs) gs.length])) = some (Value.tuple #[Value.int IntKind.i64 (htV gs), Value.int IntKind.i64 (ckE gs)], [])]) (by kernel_rfl) ⟨hq4, hq3, hq2, hq1, hq0, (phD_at (gs) (gs.length) (by first | rfl | assumption | omega | (simp; done) | (simp_all; done) | (simp_all; omega)) (by first | rfl | assumption | omega | (simp; done) | (simp_all; done) | (simp_all; omega))), trivial⟩ (by kernel_rfl)) (by first | rfl | (simp; done) | (simp_all; done)) (by first | rfl | (simp [rowA_nil]; done) | (simp only [rowA_eq]; rfl) | (simp_all [rowA_nil]; done))
theorem psc_p3 (gs : List Int) (a : Int) (b c d : Bool) (p q : Int) (hx : gs.length ≤ 70) (hq0 : (ckE gs != (0 : Int)) = false) (hq1 : (decide (a ≥ (0 : Int))) = true) (hq2 : (!decide (a ≤ (3 : Int))) = false) (hq3 : (decide (p ≥ (0 : Int))) = true) (hq4 : (!decide (p ≤ htV gs)) = false) (hq5 : (decide (q ≥ (0 : Int))) = true) (hq6 : (!decide (q ≤ (20 : Int))) = true) : KnownR Try.prog [] 14 [.list (rowA gI gs) gs.length, .val (.agg #[.int .i64 a, .bool b, .bool c, .bool d, .int .i64 p, .int .i64 q])] (.int .i64 ((2 : Int))) [] :=
  knownR_eq (v := Value.int IntKind.i64 (2 : Int)) (bs := []) (open_resD mix tabA_ok (T := tabA) (fuel := 3000) (es := []) (ans := [(0, .outs (Value.tuple #[Value.int IntKind.i64 (htV gs), Value.int IntKind.i64 (ckE gs)]) ([])), (1, .b 0), (2, .b 1), (6, .b 0), (10, .b 1), (16, .b 0), (19, .b 1), (25, .b 1)]) (log := [(!decide (q ≤ (20 : Int))) = true, (decide (q ≥ (0 : Int))) = true, (!decide (p ≤ htV gs)) = false, (decide (p ≥ (0 : Int))) = true, (!decide (a ≤ (3 : Int))) = false, (decide (a ≥ (0 : Int))) = true, (ckE gs != (0 : Int)) = false, (GTab.lookD (tabA) ((30 : Nat)) ([D.list (rowA gI gs) gs.length])) = some (Value.tuple #[Value.int IntKind.i64 (htV gs), Value.int IntKind.i64 (ckE gs)], [])]) (by kernel_rfl) ⟨hq6, hq5, hq4, hq3, hq2, hq1, hq0, (phD_at (gs) (gs.length) (by first | rfl | assumption | omega | (simp; done) | (simp_all; done) | (simp_all; omega)) (by first | rfl | assumption | omega | (simp; done) | (simp_all; done) | (simp_all; omega))), trivial⟩ (by kernel_rfl)) (by first | rfl | (simp; done) | (simp_all; done)) (by first | rfl | (simp [rowA_nil]; done) | (simp only [rowA_eq]; rfl) | (simp_all [rowA_nil]; done))
theorem psc_p4 (gs : List Int) (a : Int) (b c d : Bool) (p q : Int) (hx : gs.length ≤ 70) (hq0 : (ckE gs != (0 : Int)) = false) (hq1 : (decide (a ≥ (0 : Int))) = true) (hq2 : (!decide (a ≤ (3 : Int))) = false) (hq3 : (decide (p ≥ (0 : Int))) = true) (hq4 : (!decide (p ≤ htV gs)) = false) (hq5 : (decide (q ≥ (0 : Int))) = true) (hq6 : (!decide (q ≤ (20 : Int))) = false) : KnownR Try.prog [] 14 [.list (rowA gI gs) gs.length, .val (.agg #[.int .i64 a, .bool b, .bool c, .bool d, .int .i64 p, .int .i64 q])] (.int .i64 ((0 : Int))) [] :=
  knownR_eq (v := Value.int IntKind.i64 (0 : Int)) (bs := []) (open_resD mix tabA_ok (T := tabA) (fuel := 3000) (es := []) (ans := [(0, .outs (Value.tuple #[Value.int IntKind.i64 (htV gs), Value.int IntKind.i64 (ckE gs)]) ([])), (1, .b 0), (2, .b 1), (6, .b 0), (10, .b 1), (16, .b 0), (19, .b 1), (25, .b 0)]) (log := [(!decide (q ≤ (20 : Int))) = false, (decide (q ≥ (0 : Int))) = true, (!decide (p ≤ htV gs)) = false, (decide (p ≥ (0 : Int))) = true, (!decide (a ≤ (3 : Int))) = false, (decide (a ≥ (0 : Int))) = true, (ckE gs != (0 : Int)) = false, (GTab.lookD (tabA) ((30 : Nat)) ([D.list (rowA gI gs) gs.length])) = some (Value.tuple #[Value.int IntKind.i64 (htV gs), Value.int IntKind.i64 (ckE gs)], [])]) (by kernel_rfl) ⟨hq6, hq5, hq4, hq3, hq2, hq1, hq0, (phD_at (gs) (gs.length) (by first | rfl | assumption | omega | (simp; done) | (simp_all; done) | (simp_all; omega)) (by first | rfl | assumption | omega | (simp; done) | (simp_all; done) | (simp_all; omega))), trivial⟩ (by kernel_rfl)) (by first | rfl | (simp; done) | (simp_all; done)) (by first | rfl | (simp [rowA_nil]; done) | (simp only [rowA_eq]; rfl) | (simp_all [rowA_nil]; done))
theorem psc_p5 (gs : List Int) (a : Int) (b c d : Bool) (p q : Int) (hx : gs.length ≤ 70) (hq0 : (ckE gs != (0 : Int)) = false) (hq1 : (decide (a ≥ (0 : Int))) = true) (hq2 : (!decide (a ≤ (3 : Int))) = false) (hq3 : (decide (p ≥ (0 : Int))) = true) (hq4 : (!decide (p ≤ htV gs)) = false) (hq5 : (decide (q ≥ (0 : Int))) = false) : KnownR Try.prog [] 14 [.list (rowA gI gs) gs.length, .val (.agg #[.int .i64 a, .bool b, .bool c, .bool d, .int .i64 p, .int .i64 q])] (.int .i64 ((2 : Int))) [] :=
  knownR_eq (v := Value.int IntKind.i64 (2 : Int)) (bs := []) (open_resD mix tabA_ok (T := tabA) (fuel := 3000) (es := []) (ans := [(0, .outs (Value.tuple #[Value.int IntKind.i64 (htV gs), Value.int IntKind.i64 (ckE gs)]) ([])), (1, .b 0), (2, .b 1), (6, .b 0), (10, .b 1), (16, .b 0), (19, .b 0)]) (log := [(decide (q ≥ (0 : Int))) = false, (!decide (p ≤ htV gs)) = false, (decide (p ≥ (0 : Int))) = true, (!decide (a ≤ (3 : Int))) = false, (decide (a ≥ (0 : Int))) = true, (ckE gs != (0 : Int)) = false, (GTab.lookD (tabA) ((30 : Nat)) ([D.list (rowA gI gs) gs.length])) = some (Value.tuple #[Value.int IntKind.i64 (htV gs), Value.int IntKind.i64 (ckE gs)], [])]) (by kernel_rfl) ⟨hq5, hq4, hq3, hq2, hq1, hq0, (phD_at (gs) (gs.length) (by first | rfl | assumption | omega | (simp; done) | (simp_all; done) | (simp_all; omega)) (by first | rfl | assumption | omega | (simp; done) | (simp_all; done) | (simp_all; omega))), trivial⟩ (by kernel_rfl)) (by first | rfl | (simp; done) | (simp_all; done)) (by first | rfl | (simp [rowA_nil]; done) | (simp only [rowA_eq]; rfl) | (simp_all [rowA_nil]; done))
theorem psc_p6 (gs : List Int) (a : Int) (b c d : Bool) (p q : Int) (hx : gs.length ≤ 70) (hq0 : (ckE gs != (0 : Int)) = false) (hq1 : (decide (a ≥ (0 : Int))) = true) (hq2 : (!decide (a ≤ (3 : Int))) = false) (hq3 : (decide (p ≥ (0 : Int))) = false) : KnownR Try.prog [] 14 [.list (rowA gI gs) gs.length, .val (.agg #[.int .i64 a, .bool b, .bool c, .bool d, .int .i64 p, .int .i64 q])] (.int .i64 ((2 : Int))) [] :=
  knownR_eq (v := Value.int IntKind.i64 (2 : Int)) (bs := []) (open_resD mix tabA_ok (T := tabA) (fuel := 3000) (es := []) (ans := [(0, .outs (Value.tuple #[Value.int IntKind.i64 (htV gs), Value.int IntKind.i64 (ckE gs)]) ([])), (1, .b 0), (2, .b 1), (6, .b 0), (10, .b 0)]) (log := [(decide (p ≥ (0 : Int))) = false, (!decide (a ≤ (3 : Int))) = false, (decide (a ≥ (0 : Int))) = true, (ckE gs != (0 : Int)) = false, (GTab.lookD (tabA) ((30 : Nat)) ([D.list (rowA gI gs) gs.length])) = some (Value.tuple #[Value.int IntKind.i64 (htV gs), Value.int IntKind.i64 (ckE gs)], [])]) (by kernel_rfl) ⟨hq3, hq2, hq1, hq0, (phD_at (gs) (gs.length) (by first | rfl | assumption | omega | (simp; done) | (simp_all; done) | (simp_all; omega)) (by first | rfl | assumption | omega | (simp; done) | (simp_all; done) | (simp_all; omega))), trivial⟩ (by kernel_rfl)) (by first | rfl | (simp; done) | (simp_all; done)) (by first | rfl | (simp [rowA_nil]; done) | (simp only [rowA_eq]; rfl) | (simp_all [rowA_nil]; done))
theorem psc_p7 (gs : List Int) (a : Int) (b c d : Bool) (p q : Int) (hx : gs.length ≤ 70) (hq0 : (ckE gs != (0 : Int)) = false) (hq1 : (decide (a ≥ (0 : Int))) = false) : KnownR Try.prog [] 14 [.list (rowA gI gs) gs.length, .val (.agg #[.int .i64 a, .bool b, .bool c, .bool d, .int .i64 p, .int .i64 q])] (.int .i64 ((2 : Int))) [] :=
  knownR_eq (v := Value.int IntKind.i64 (2 : Int)) (bs := []) (open_resD mix tabA_ok (T := tabA) (fuel := 3000) (es := []) (ans := [(0, .outs (Value.tuple #[Value.int IntKind.i64 (htV gs), Value.int IntKind.i64 (ckE gs)]) ([])), (1, .b 0), (2, .b 0)]) (log := [(decide (a ≥ (0 : Int))) = false, (ckE gs != (0 : Int)) = false, (GTab.lookD (tabA) ((30 : Nat)) ([D.list (rowA gI gs) gs.length])) = some (Value.tuple #[Value.int IntKind.i64 (htV gs), Value.int IntKind.i64 (ckE gs)], [])]) (by kernel_rfl) ⟨hq1, hq0, (phD_at (gs) (gs.length) (by first | rfl | assumption | omega | (simp; done) | (simp_all; done) | (simp_all; omega)) (by first | rfl | assumption | omega | (simp; done) | (simp_all; done) | (simp_all; omega))), trivial⟩ (by kernel_rfl)) (by first | rfl | (simp; done) | (simp_all; done)) (by first | rfl | (simp [rowA_nil]; done) | (simp only [rowA_eq]; rfl) | (simp_all [rowA_nil]; done))
set_option maxHeartbeats 8000000 in
theorem psc (gs : List Int) (a : Int) (b c d : Bool) (p q : Int) (hx : gs.length ≤ 70) : KnownR Try.prog [] 14 [.list (rowA gI gs) gs.length, .val (.agg #[.int .i64 a, .bool b, .bool c, .bool d, .int .i64 p, .int .i64 q])] (.int .i64 (psc_c0 gs a b c d p q)) [] := by
  rcases Bool.eq_false_or_eq_true (ckE gs != (0 : Int)) with hq0 | hq0
  ·
    have e0 : psc_c0 gs a b c d p q = (ckE gs) := ((bif_t hq0 _ _).trans rfl); rw [e0]; exact psc_p0 gs a b c d p q hx hq0
  ·
    rcases Bool.eq_false_or_eq_true (decide (a ≥ (0 : Int))) with hq1 | hq1
    ·
      rcases Bool.eq_false_or_eq_true (!decide (a ≤ (3 : Int))) with hq2 | hq2
      ·
        have e0 : psc_c0 gs a b c d p q = ((2 : Int)) := ((bif_f hq0 _ _).trans ((bif_t hq1 _ _).trans ((bif_t hq2 _ _).trans rfl))); rw [e0]; exact psc_p1 gs a b c d p q hx hq0 hq1 hq2
      ·
        rcases Bool.eq_false_or_eq_true (decide (p ≥ (0 : Int))) with hq3 | hq3
        ·
          rcases Bool.eq_false_or_eq_true (!decide (p ≤ htV gs)) with hq4 | hq4
          ·
            have e0 : psc_c0 gs a b c d p q = ((2 : Int)) := ((bif_f hq0 _ _).trans ((bif_t hq1 _ _).trans ((bif_f hq2 _ _).trans ((bif_t hq3 _ _).trans ((bif_t hq4 _ _).trans rfl))))); rw [e0]; exact psc_p2 gs a b c d p q hx hq0 hq1 hq2 hq3 hq4
          ·
            rcases Bool.eq_false_or_eq_true (decide (q ≥ (0 : Int))) with hq5 | hq5
            ·
              rcases Bool.eq_false_or_eq_true (!decide (q ≤ (20 : Int))) with hq6 | hq6
              ·
                have e0 : psc_c0 gs a b c d p q = ((2 : Int)) := ((bif_f hq0 _ _).trans ((bif_t hq1 _ _).trans ((bif_f hq2 _ _).trans ((bif_t hq3 _ _).trans ((bif_f hq4 _ _).trans ((bif_t hq5 _ _).trans ((bif_t hq6 _ _).trans rfl))))))); rw [e0]; exact psc_p3 gs a b c d p q hx hq0 hq1 hq2 hq3 hq4 hq5 hq6
              ·
                have e0 : psc_c0 gs a b c d p q = ((0 : Int)) := ((bif_f hq0 _ _).trans ((bif_t hq1 _ _).trans ((bif_f hq2 _ _).trans ((bif_t hq3 _ _).trans ((bif_f hq4 _ _).trans ((bif_t hq5 _ _).trans ((bif_f hq6 _ _).trans rfl))))))); rw [e0]; exact psc_p4 gs a b c d p q hx hq0 hq1 hq2 hq3 hq4 hq5 hq6
            ·
              have e0 : psc_c0 gs a b c d p q = ((2 : Int)) := ((bif_f hq0 _ _).trans ((bif_t hq1 _ _).trans ((bif_f hq2 _ _).trans ((bif_t hq3 _ _).trans ((bif_f hq4 _ _).trans ((bif_f hq5 _ _).trans rfl)))))); rw [e0]; exact psc_p5 gs a b c d p q hx hq0 hq1 hq2 hq3 hq4 hq5
        ·
          have e0 : psc_c0 gs a b c d p q = ((2 : Int)) := ((bif_f hq0 _ _).trans ((bif_t hq1 _ _).trans ((bif_f hq2 _ _).trans ((bif_f hq3 _ _).trans rfl)))); rw [e0]; exact psc_p6 gs a b c d p q hx hq0 hq1 hq2 hq3
    ·
      have e0 : psc_c0 gs a b c d p q = ((2 : Int)) := ((bif_f hq0 _ _).trans ((bif_f hq1 _ _).trans rfl)); rw [e0]; exact psc_p7 gs a b c d p q hx hq0 hq1

noncomputable def rsc_c0 (gs : List Int) (a : Int) (b c d : Bool) (p q : Int) : Int := (bif (ckE gs != (0 : Int)) then (ckE gs) else (bif (decide (a < (0 : Int))) then ((2 : Int)) else (bif (decide (a > (3 : Int))) then ((2 : Int)) else (bif (decide (p < (0 : Int))) then ((2 : Int)) else (bif (decide (p > htV gs)) then ((2 : Int)) else (bif (decide (q < (0 : Int))) then ((2 : Int)) else (bif (decide (q > (20 : Int))) then ((2 : Int)) else ((0 : Int)))))))))
theorem rsc_p0 (gs : List Int) (a : Int) (b c d : Bool) (p q : Int) (hx : gs.length ≤ 70) (hq0 : (ckE gs != (0 : Int)) = true) : KnownR Try.prog [] 15 [.list (rowA gI gs) gs.length, .val (.agg #[.int .i64 a, .bool b, .bool c, .bool d, .int .i64 p, .int .i64 q])] (.int .i64 (ckE gs)) [] :=
  knownR_eq (v := Value.int IntKind.i64 (ckE gs)) (bs := []) (open_resD mix tabA_ok (T := tabA) (fuel := 3000) (es := []) (ans := [(0, .outs (Value.tuple #[Value.int IntKind.i64 (htV gs), Value.int IntKind.i64 (ckE gs)]) ([])), (1, .b 1)]) (log := [(ckE gs != (0 : Int)) = true, (GTab.lookD (tabA) ((31 : Nat)) ([D.list (rowA gI gs) gs.length])) = some (Value.tuple #[Value.int IntKind.i64 (htV gs), Value.int IntKind.i64 (ckE gs)], [])]) (by kernel_rfl) ⟨hq0, (rhD_at (gs) (gs.length) (by first | rfl | assumption | omega | (simp; done) | (simp_all; done) | (simp_all; omega)) (by first | rfl | assumption | omega | (simp; done) | (simp_all; done) | (simp_all; omega))), trivial⟩ (by kernel_rfl)) (by first | rfl | (simp; done) | (simp_all; done)) (by first | rfl | (simp [rowA_nil]; done) | (simp only [rowA_eq]; rfl) | (simp_all [rowA_nil]; done))
theorem rsc_p1 (gs : List Int) (a : Int) (b c d : Bool) (p q : Int) (hx : gs.length ≤ 70) (hq0 : (ckE gs != (0 : Int)) = false) (hq1 : (decide (a < (0 : Int))) = true) : KnownR Try.prog [] 15 [.list (rowA gI gs) gs.length, .val (.agg #[.int .i64 a, .bool b, .bool c, .bool d, .int .i64 p, .int .i64 q])] (.int .i64 ((2 : Int))) [] :=
  knownR_eq (v := Value.int IntKind.i64 (2 : Int)) (bs := []) (open_resD mix tabA_ok (T := tabA) (fuel := 3000) (es := []) (ans := [(0, .outs (Value.tuple #[Value.int IntKind.i64 (htV gs), Value.int IntKind.i64 (ckE gs)]) ([])), (1, .b 0), (2, .b 1)]) (log := [(decide (a < (0 : Int))) = true, (ckE gs != (0 : Int)) = false, (GTab.lookD (tabA) ((31 : Nat)) ([D.list (rowA gI gs) gs.length])) = some (Value.tuple #[Value.int IntKind.i64 (htV gs), Value.int IntKind.i64 (ckE gs)], [])]) (by kernel_rfl) ⟨hq1, hq0, (rhD_at (gs) (gs.length) (by first | rfl | assumption | omega | (simp; done) | (simp_all; done) | (simp_all; omega)) (by first | rfl | assumption | omega | (simp; done) | (simp_all; done) | (simp_all; omega))), trivial⟩ (by kernel_rfl)) (by first | rfl | (simp; done) | (simp_all; done)) (by first | rfl | (simp [rowA_nil]; done) | (simp only [rowA_eq]; rfl) | (simp_all [rowA_nil]; done))
theorem rsc_p2 (gs : List Int) (a : Int) (b c d : Bool) (p q : Int) (hx : gs.length ≤ 70) (hq0 : (ckE gs != (0 : Int)) = false) (hq1 : (decide (a < (0 : Int))) = false) (hq2 : (decide (a > (3 : Int))) = true) : KnownR Try.prog [] 15 [.list (rowA gI gs) gs.length, .val (.agg #[.int .i64 a, .bool b, .bool c, .bool d, .int .i64 p, .int .i64 q])] (.int .i64 ((2 : Int))) [] :=
  knownR_eq (v := Value.int IntKind.i64 (2 : Int)) (bs := []) (open_resD mix tabA_ok (T := tabA) (fuel := 3000) (es := []) (ans := [(0, .outs (Value.tuple #[Value.int IntKind.i64 (htV gs), Value.int IntKind.i64 (ckE gs)]) ([])), (1, .b 0), (2, .b 0), (6, .b 1)]) (log := [(decide (a > (3 : Int))) = true, (decide (a < (0 : Int))) = false, (ckE gs != (0 : Int)) = false, (GTab.lookD (tabA) ((31 : Nat)) ([D.list (rowA gI gs) gs.length])) = some (Value.tuple #[Value.int IntKind.i64 (htV gs), Value.int IntKind.i64 (ckE gs)], [])]) (by kernel_rfl) ⟨hq2, hq1, hq0, (rhD_at (gs) (gs.length) (by first | rfl | assumption | omega | (simp; done) | (simp_all; done) | (simp_all; omega)) (by first | rfl | assumption | omega | (simp; done) | (simp_all; done) | (simp_all; omega))), trivial⟩ (by kernel_rfl)) (by first | rfl | (simp; done) | (simp_all; done)) (by first | rfl | (simp [rowA_nil]; done) | (simp only [rowA_eq]; rfl) | (simp_all [rowA_nil]; done))
theorem rsc_p3 (gs : List Int) (a : Int) (b c d : Bool) (p q : Int) (hx : gs.length ≤ 70) (hq0 : (ckE gs != (0 : Int)) = false) (hq1 : (decide (a < (0 : Int))) = false) (hq2 : (decide (a > (3 : Int))) = false) (hq3 : (decide (p < (0 : Int))) = true) : KnownR Try.prog [] 15 [.list (rowA gI gs) gs.length, .val (.agg #[.int .i64 a, .bool b, .bool c, .bool d, .int .i64 p, .int .i64 q])] (.int .i64 ((2 : Int))) [] :=
  knownR_eq (v := Value.int IntKind.i64 (2 : Int)) (bs := []) (open_resD mix tabA_ok (T := tabA) (fuel := 3000) (es := []) (ans := [(0, .outs (Value.tuple #[Value.int IntKind.i64 (htV gs), Value.int IntKind.i64 (ckE gs)]) ([])), (1, .b 0), (2, .b 0), (6, .b 0), (10, .b 1)]) (log := [(decide (p < (0 : Int))) = true, (decide (a > (3 : Int))) = false, (decide (a < (0 : Int))) = false, (ckE gs != (0 : Int)) = false, (GTab.lookD (tabA) ((31 : Nat)) ([D.list (rowA gI gs) gs.length])) = some (Value.tuple #[Value.int IntKind.i64 (htV gs), Value.int IntKind.i64 (ckE gs)], [])]) (by kernel_rfl) ⟨hq3, hq2, hq1, hq0, (rhD_at (gs) (gs.length) (by first | rfl | assumption | omega | (simp; done) | (simp_all; done) | (simp_all; omega)) (by first | rfl | assumption | omega | (simp; done) | (simp_all; done) | (simp_all; omega))), trivial⟩ (by kernel_rfl)) (by first | rfl | (simp; done) | (simp_all; done)) (by first | rfl | (simp [rowA_nil]; done) | (simp only [rowA_eq]; rfl) | (simp_all [rowA_nil]; done))
theorem rsc_p4 (gs : List Int) (a : Int) (b c d : Bool) (p q : Int) (hx : gs.length ≤ 70) (hq0 : (ckE gs != (0 : Int)) = false) (hq1 : (decide (a < (0 : Int))) = false) (hq2 : (decide (a > (3 : Int))) = false) (hq3 : (decide (p < (0 : Int))) = false) (hq4 : (decide (p > htV gs)) = true) : KnownR Try.prog [] 15 [.list (rowA gI gs) gs.length, .val (.agg #[.int .i64 a, .bool b, .bool c, .bool d, .int .i64 p, .int .i64 q])] (.int .i64 ((2 : Int))) [] :=
  knownR_eq (v := Value.int IntKind.i64 (2 : Int)) (bs := []) (open_resD mix tabA_ok (T := tabA) (fuel := 3000) (es := []) (ans := [(0, .outs (Value.tuple #[Value.int IntKind.i64 (htV gs), Value.int IntKind.i64 (ckE gs)]) ([])), (1, .b 0), (2, .b 0), (6, .b 0), (10, .b 0), (15, .b 1)]) (log := [(decide (p > htV gs)) = true, (decide (p < (0 : Int))) = false, (decide (a > (3 : Int))) = false, (decide (a < (0 : Int))) = false, (ckE gs != (0 : Int)) = false, (GTab.lookD (tabA) ((31 : Nat)) ([D.list (rowA gI gs) gs.length])) = some (Value.tuple #[Value.int IntKind.i64 (htV gs), Value.int IntKind.i64 (ckE gs)], [])]) (by kernel_rfl) ⟨hq4, hq3, hq2, hq1, hq0, (rhD_at (gs) (gs.length) (by first | rfl | assumption | omega | (simp; done) | (simp_all; done) | (simp_all; omega)) (by first | rfl | assumption | omega | (simp; done) | (simp_all; done) | (simp_all; omega))), trivial⟩ (by kernel_rfl)) (by first | rfl | (simp; done) | (simp_all; done)) (by first | rfl | (simp [rowA_nil]; done) | (simp only [rowA_eq]; rfl) | (simp_all [rowA_nil]; done))
theorem rsc_p5 (gs : List Int) (a : Int) (b c d : Bool) (p q : Int) (hx : gs.length ≤ 70) (hq0 : (ckE gs != (0 : Int)) = false) (hq1 : (decide (a < (0 : Int))) = false) (hq2 : (decide (a > (3 : Int))) = false) (hq3 : (decide (p < (0 : Int))) = false) (hq4 : (decide (p > htV gs)) = false) (hq5 : (decide (q < (0 : Int))) = true) : KnownR Try.prog [] 15 [.list (rowA gI gs) gs.length, .val (.agg #[.int .i64 a, .bool b, .bool c, .bool d, .int .i64 p, .int .i64 q])] (.int .i64 ((2 : Int))) [] :=
  knownR_eq (v := Value.int IntKind.i64 (2 : Int)) (bs := []) (open_resD mix tabA_ok (T := tabA) (fuel := 3000) (es := []) (ans := [(0, .outs (Value.tuple #[Value.int IntKind.i64 (htV gs), Value.int IntKind.i64 (ckE gs)]) ([])), (1, .b 0), (2, .b 0), (6, .b 0), (10, .b 0), (15, .b 0), (19, .b 1)]) (log := [(decide (q < (0 : Int))) = true, (decide (p > htV gs)) = false, (decide (p < (0 : Int))) = false, (decide (a > (3 : Int))) = false, (decide (a < (0 : Int))) = false, (ckE gs != (0 : Int)) = false, (GTab.lookD (tabA) ((31 : Nat)) ([D.list (rowA gI gs) gs.length])) = some (Value.tuple #[Value.int IntKind.i64 (htV gs), Value.int IntKind.i64 (ckE gs)], [])]) (by kernel_rfl) ⟨hq5, hq4, hq3, hq2, hq1, hq0, (rhD_at (gs) (gs.length) (by first | rfl | assumption | omega | (simp; done) | (simp_all; done) | (simp_all; omega)) (by first | rfl | assumption | omega | (simp; done) | (simp_all; done) | (simp_all; omega))), trivial⟩ (by kernel_rfl)) (by first | rfl | (simp; done) | (simp_all; done)) (by first | rfl | (simp [rowA_nil]; done) | (simp only [rowA_eq]; rfl) | (simp_all [rowA_nil]; done))
theorem rsc_p6 (gs : List Int) (a : Int) (b c d : Bool) (p q : Int) (hx : gs.length ≤ 70) (hq0 : (ckE gs != (0 : Int)) = false) (hq1 : (decide (a < (0 : Int))) = false) (hq2 : (decide (a > (3 : Int))) = false) (hq3 : (decide (p < (0 : Int))) = false) (hq4 : (decide (p > htV gs)) = false) (hq5 : (decide (q < (0 : Int))) = false) (hq6 : (decide (q > (20 : Int))) = true) : KnownR Try.prog [] 15 [.list (rowA gI gs) gs.length, .val (.agg #[.int .i64 a, .bool b, .bool c, .bool d, .int .i64 p, .int .i64 q])] (.int .i64 ((2 : Int))) [] :=
  knownR_eq (v := Value.int IntKind.i64 (2 : Int)) (bs := []) (open_resD mix tabA_ok (T := tabA) (fuel := 3000) (es := []) (ans := [(0, .outs (Value.tuple #[Value.int IntKind.i64 (htV gs), Value.int IntKind.i64 (ckE gs)]) ([])), (1, .b 0), (2, .b 0), (6, .b 0), (10, .b 0), (15, .b 0), (19, .b 0), (23, .b 1)]) (log := [(decide (q > (20 : Int))) = true, (decide (q < (0 : Int))) = false, (decide (p > htV gs)) = false, (decide (p < (0 : Int))) = false, (decide (a > (3 : Int))) = false, (decide (a < (0 : Int))) = false, (ckE gs != (0 : Int)) = false, (GTab.lookD (tabA) ((31 : Nat)) ([D.list (rowA gI gs) gs.length])) = some (Value.tuple #[Value.int IntKind.i64 (htV gs), Value.int IntKind.i64 (ckE gs)], [])]) (by kernel_rfl) ⟨hq6, hq5, hq4, hq3, hq2, hq1, hq0, (rhD_at (gs) (gs.length) (by first | rfl | assumption | omega | (simp; done) | (simp_all; done) | (simp_all; omega)) (by first | rfl | assumption | omega | (simp; done) | (simp_all; done) | (simp_all; omega))), trivial⟩ (by kernel_rfl)) (by first | rfl | (simp; done) | (simp_all; done)) (by first | rfl | (simp [rowA_nil]; done) | (simp only [rowA_eq]; rfl) | (simp_all [rowA_nil]; done))
theorem rsc_p7 (gs : List Int) (a : Int) (b c d : Bool) (p q : Int) (hx : gs.length ≤ 70) (hq0 : (ckE gs != (0 : Int)) = false) (hq1 : (decide (a < (0 : Int))) = false) (hq2 : (decide (a > (3 : Int))) = false) (hq3 : (decide (p < (0 : Int))) = false) (hq4 : (decide (p > htV gs)) = false) (hq5 : (decide (q < (0 : Int))) = false) (hq6 : (decide (q > (20 : Int))) = false) : KnownR Try.prog [] 15 [.list (rowA gI gs) gs.length, .val (.agg #[.int .i64 a, .bool b, .bool c, .bool d, .int .i64 p, .int .i64 q])] (.int .i64 ((0 : Int))) [] :=
  knownR_eq (v := Value.int IntKind.i64 (0 : Int)) (bs := []) (open_resD mix tabA_ok (T := tabA) (fuel := 3000) (es := []) (ans := [(0, .outs (Value.tuple #[Value.int IntKind.i64 (htV gs), Value.int IntKind.i64 (ckE gs)]) ([])), (1, .b 0), (2, .b 0), (6, .b 0), (10, .b 0), (15, .b 0), (19, .b 0), (23, .b 0)]) (log := [(decide (q > (20 : Int))) = false, (decide (q < (0 : Int))) = false, (decide (p > htV gs)) = false, (decide (p < (0 : Int))) = false, (decide (a > (3 : Int))) = false, (decide (a < (0 : Int))) = false, (ckE gs != (0 : Int)) = false, (GTab.lookD (tabA) ((31 : Nat)) ([D.list (rowA gI gs) gs.length])) = some (Value.tuple #[Value.int IntKind.i64 (htV gs), Value.int IntKind.i64 (ckE gs)], [])]) (by kernel_rfl) ⟨hq6, hq5, hq4, hq3, hq2, hq1, hq0, (rhD_at (gs) (gs.length) (by first | rfl | assumption | omega | (simp; done) | (simp_all; done) | (simp_all; omega)) (by first | rfl | assumption | omega | (simp; done) | (simp_all; done) | (simp_all; omega))), trivial⟩ (by kernel_rfl)) (by first | rfl | (simp; done) | (simp_all; done)) (by first | rfl | (simp [rowA_nil]; done) | (simp only [rowA_eq]; rfl) | (simp_all [rowA_nil]; done))
set_option maxHeartbeats 8000000 in
theorem rsc (gs : List Int) (a : Int) (b c d : Bool) (p q : Int) (hx : gs.length ≤ 70) : KnownR Try.prog [] 15 [.list (rowA gI gs) gs.length, .val (.agg #[.int .i64 a, .bool b, .bool c, .bool d, .int .i64 p, .int .i64 q])] (.int .i64 (rsc_c0 gs a b c d p q)) [] := by
  rcases Bool.eq_false_or_eq_true (ckE gs != (0 : Int)) with hq0 | hq0
  ·
    have e0 : rsc_c0 gs a b c d p q = (ckE gs) := ((bif_t hq0 _ _).trans rfl); rw [e0]; exact rsc_p0 gs a b c d p q hx hq0
  ·
    rcases Bool.eq_false_or_eq_true (decide (a < (0 : Int))) with hq1 | hq1
    ·
      have e0 : rsc_c0 gs a b c d p q = ((2 : Int)) := ((bif_f hq0 _ _).trans ((bif_t hq1 _ _).trans rfl)); rw [e0]; exact rsc_p1 gs a b c d p q hx hq0 hq1
    ·
      rcases Bool.eq_false_or_eq_true (decide (a > (3 : Int))) with hq2 | hq2
      ·
        have e0 : rsc_c0 gs a b c d p q = ((2 : Int)) := ((bif_f hq0 _ _).trans ((bif_f hq1 _ _).trans ((bif_t hq2 _ _).trans rfl))); rw [e0]; exact rsc_p2 gs a b c d p q hx hq0 hq1 hq2
      ·
        rcases Bool.eq_false_or_eq_true (decide (p < (0 : Int))) with hq3 | hq3
        ·
          have e0 : rsc_c0 gs a b c d p q = ((2 : Int)) := ((bif_f hq0 _ _).trans ((bif_f hq1 _ _).trans ((bif_f hq2 _ _).trans ((bif_t hq3 _ _).trans rfl)))); rw [e0]; exact rsc_p3 gs a b c d p q hx hq0 hq1 hq2 hq3
        ·
          rcases Bool.eq_false_or_eq_true (decide (p > htV gs)) with hq4 | hq4
          ·
            have e0 : rsc_c0 gs a b c d p q = ((2 : Int)) := ((bif_f hq0 _ _).trans ((bif_f hq1 _ _).trans ((bif_f hq2 _ _).trans ((bif_f hq3 _ _).trans ((bif_t hq4 _ _).trans rfl))))); rw [e0]; exact rsc_p4 gs a b c d p q hx hq0 hq1 hq2 hq3 hq4
          ·
            rcases Bool.eq_false_or_eq_true (decide (q < (0 : Int))) with hq5 | hq5
            ·
              have e0 : rsc_c0 gs a b c d p q = ((2 : Int)) := ((bif_f hq0 _ _).trans ((bif_f hq1 _ _).trans ((bif_f hq2 _ _).trans ((bif_f hq3 _ _).trans ((bif_f hq4 _ _).trans ((bif_t hq5 _ _).trans rfl)))))); rw [e0]; exact rsc_p5 gs a b c d p q hx hq0 hq1 hq2 hq3 hq4 hq5
            ·
              rcases Bool.eq_false_or_eq_true (decide (q > (20 : Int))) with hq6 | hq6
              ·
                have e0 : rsc_c0 gs a b c d p q = ((2 : Int)) := ((bif_f hq0 _ _).trans ((bif_f hq1 _ _).trans ((bif_f hq2 _ _).trans ((bif_f hq3 _ _).trans ((bif_f hq4 _ _).trans ((bif_f hq5 _ _).trans ((bif_t hq6 _ _).trans rfl))))))); rw [e0]; exact rsc_p6 gs a b c d p q hx hq0 hq1 hq2 hq3 hq4 hq5 hq6
              ·
                have e0 : rsc_c0 gs a b c d p q = ((0 : Int)) := ((bif_f hq0 _ _).trans ((bif_f hq1 _ _).trans ((bif_f hq2 _ _).trans ((bif_f hq3 _ _).trans ((bif_f hq4 _ _).trans ((bif_f hq5 _ _).trans ((bif_f hq6 _ _).trans rfl))))))); rw [e0]; exact rsc_p7 gs a b c d p q hx hq0 hq1 hq2 hq3 hq4 hq5 hq6

noncomputable def psh_c0 (gs : List Int) (m : Int) (a : Int) (b c d : Bool) (p q : Int) : Int := (bif (!a != m) then (bif (!!b) then (bif (!c) then (bif (!d) then (nV gs p) else ((-1 : Int))) else ((-1 : Int))) else ((-1 : Int))) else ((-1 : Int)))
noncomputable def psh_c1 (gs : List Int) (m : Int) (a : Int) (b c d : Bool) (p q : Int) : Int := (bif (!a != m) then (bif (!!b) then (bif (!c) then (bif (!d) then (q) else ((0 : Int))) else (q)) else ((0 : Int))) else ((0 : Int)))
noncomputable def psh_c2 (gs : List Int) (m : Int) (a : Int) (b c d : Bool) (p q : Int) : Bool := (bif (!a != m) then (bif (!!b) then (bif (!c) then (false) else (true)) else (true)) else (false))
theorem psh_p0 (gs : List Int) (m : Int) (a : Int) (b c d : Bool) (p q : Int) (hx : gs.length ≤ 70) (hq0 : (!a != m) = true) (hq1 : (!!b) = true) (hq2 : (!c) = true) (hq3 : (!d) = true) : KnownR Try.prog [] 27 [.list (rowA gI gs) gs.length, .val (.int .i64 m), .val (.agg #[.int .i64 a, .bool b, .bool c, .bool d, .int .i64 p, .int .i64 q])] (.agg #[(.int .i64 (nV gs p)), (.int .i64 (q)), (.bool (false))]) [] :=
  knownR_eq (v := Value.agg { toList := [Value.int IntKind.i64 (nV gs p), Value.int IntKind.i64 q, Value.bool false] }) (bs := []) (open_resD mix tabA_ok (T := tabA) (fuel := 3000) (es := []) (ans := [(3, .b 1), (7, .b 1), (11, .b 1), (15, .b 1), (21, .outs (Value.tuple #[Value.int IntKind.i64 (nV gs p), Value.int IntKind.i64 (lE gs p (0 : Int) (0 : Int))]) ([]))]) (log := [(GTab.lookD (tabA) ((36 : Nat)) ([D.list (rowA gI gs) gs.length, D.val (Value.int IntKind.i64 p)])) = some (Value.tuple #[Value.int IntKind.i64 (nV gs p), Value.int IntKind.i64 (lE gs p (0 : Int) (0 : Int))], []), (!d) = true, (!c) = true, (!!b) = true, (!a != m) = true]) (by kernel_rfl) ⟨(pnD_at (gs) (p) (gs.length) (by first | rfl | assumption | omega | (simp; done) | (simp_all; done) | (simp_all; omega)) (by first | rfl | assumption | omega | (simp; done) | (simp_all; done) | (simp_all; omega))), hq3, hq2, hq1, hq0, trivial⟩ (by kernel_rfl)) (by first | rfl | (simp; done) | (simp_all; done)) (by first | rfl | (simp [rowA_nil]; done) | (simp only [rowA_eq]; rfl) | (simp_all [rowA_nil]; done))
theorem psh_p1 (gs : List Int) (m : Int) (a : Int) (b c d : Bool) (p q : Int) (hx : gs.length ≤ 70) (hq0 : (!a != m) = true) (hq1 : (!!b) = true) (hq2 : (!c) = true) (hq3 : (!d) = false) : KnownR Try.prog [] 27 [.list (rowA gI gs) gs.length, .val (.int .i64 m), .val (.agg #[.int .i64 a, .bool b, .bool c, .bool d, .int .i64 p, .int .i64 q])] (.agg #[(.int .i64 ((-1 : Int))), (.int .i64 ((0 : Int))), (.bool (false))]) [] :=
  knownR_eq (v := Value.agg { toList := [Value.int IntKind.i64 (-1 : Int), Value.int IntKind.i64 (0 : Int), Value.bool false] }) (bs := []) (open_resD mix tabA_ok (T := tabA) (fuel := 3000) (es := []) (ans := [(3, .b 1), (7, .b 1), (11, .b 1), (15, .b 0)]) (log := [(!d) = false, (!c) = true, (!!b) = true, (!a != m) = true]) (by kernel_rfl) ⟨hq3, hq2, hq1, hq0, trivial⟩ (by kernel_rfl)) (by first | rfl | (simp; done) | (simp_all; done)) (by first | rfl | (simp [rowA_nil]; done) | (simp only [rowA_eq]; rfl) | (simp_all [rowA_nil]; done))
theorem psh_p2 (gs : List Int) (m : Int) (a : Int) (b c d : Bool) (p q : Int) (hx : gs.length ≤ 70) (hq0 : (!a != m) = true) (hq1 : (!!b) = true) (hq2 : (!c) = false) : KnownR Try.prog [] 27 [.list (rowA gI gs) gs.length, .val (.int .i64 m), .val (.agg #[.int .i64 a, .bool b, .bool c, .bool d, .int .i64 p, .int .i64 q])] (.agg #[(.int .i64 ((-1 : Int))), (.int .i64 (q)), (.bool (true))]) [] :=
  knownR_eq (v := Value.agg { toList := [Value.int IntKind.i64 (-1 : Int), Value.int IntKind.i64 q, Value.bool true] }) (bs := []) (open_resD mix tabA_ok (T := tabA) (fuel := 3000) (es := []) (ans := [(3, .b 1), (7, .b 1), (11, .b 0)]) (log := [(!c) = false, (!!b) = true, (!a != m) = true]) (by kernel_rfl) ⟨hq2, hq1, hq0, trivial⟩ (by kernel_rfl)) (by first | rfl | (simp; done) | (simp_all; done)) (by first | rfl | (simp [rowA_nil]; done) | (simp only [rowA_eq]; rfl) | (simp_all [rowA_nil]; done))
theorem psh_p3 (gs : List Int) (m : Int) (a : Int) (b c d : Bool) (p q : Int) (hx : gs.length ≤ 70) (hq0 : (!a != m) = true) (hq1 : (!!b) = false) : KnownR Try.prog [] 27 [.list (rowA gI gs) gs.length, .val (.int .i64 m), .val (.agg #[.int .i64 a, .bool b, .bool c, .bool d, .int .i64 p, .int .i64 q])] (.agg #[(.int .i64 ((-1 : Int))), (.int .i64 ((0 : Int))), (.bool (true))]) [] :=
  knownR_eq (v := Value.agg { toList := [Value.int IntKind.i64 (-1 : Int), Value.int IntKind.i64 (0 : Int), Value.bool true] }) (bs := []) (open_resD mix tabA_ok (T := tabA) (fuel := 3000) (es := []) (ans := [(3, .b 1), (7, .b 0)]) (log := [(!!b) = false, (!a != m) = true]) (by kernel_rfl) ⟨hq1, hq0, trivial⟩ (by kernel_rfl)) (by first | rfl | (simp; done) | (simp_all; done)) (by first | rfl | (simp [rowA_nil]; done) | (simp only [rowA_eq]; rfl) | (simp_all [rowA_nil]; done))
theorem psh_p4 (gs : List Int) (m : Int) (a : Int) (b c d : Bool) (p q : Int) (hx : gs.length ≤ 70) (hq0 : (!a != m) = false) : KnownR Try.prog [] 27 [.list (rowA gI gs) gs.length, .val (.int .i64 m), .val (.agg #[.int .i64 a, .bool b, .bool c, .bool d, .int .i64 p, .int .i64 q])] (.agg #[(.int .i64 ((-1 : Int))), (.int .i64 ((0 : Int))), (.bool (false))]) [] :=
  knownR_eq (v := Value.agg { toList := [Value.int IntKind.i64 (-1 : Int), Value.int IntKind.i64 (0 : Int), Value.bool false] }) (bs := []) (open_resD mix tabA_ok (T := tabA) (fuel := 3000) (es := []) (ans := [(3, .b 0)]) (log := [(!a != m) = false]) (by kernel_rfl) ⟨hq0, trivial⟩ (by kernel_rfl)) (by first | rfl | (simp; done) | (simp_all; done)) (by first | rfl | (simp [rowA_nil]; done) | (simp only [rowA_eq]; rfl) | (simp_all [rowA_nil]; done))
set_option maxHeartbeats 8000000 in
theorem psh (gs : List Int) (m : Int) (a : Int) (b c d : Bool) (p q : Int) (hx : gs.length ≤ 70) : KnownR Try.prog [] 27 [.list (rowA gI gs) gs.length, .val (.int .i64 m), .val (.agg #[.int .i64 a, .bool b, .bool c, .bool d, .int .i64 p, .int .i64 q])] (.agg #[(.int .i64 (psh_c0 gs m a b c d p q)), (.int .i64 (psh_c1 gs m a b c d p q)), (.bool (psh_c2 gs m a b c d p q))]) [] := by
  rcases Bool.eq_false_or_eq_true (!a != m) with hq0 | hq0
  ·
    rcases Bool.eq_false_or_eq_true (!!b) with hq1 | hq1
    ·
      rcases Bool.eq_false_or_eq_true (!c) with hq2 | hq2
      ·
        rcases Bool.eq_false_or_eq_true (!d) with hq3 | hq3
        ·
          have e0 : psh_c0 gs m a b c d p q = (nV gs p) := ((bif_t hq0 _ _).trans ((bif_t hq1 _ _).trans ((bif_t hq2 _ _).trans ((bif_t hq3 _ _).trans rfl)))); rw [e0]; have e1 : psh_c1 gs m a b c d p q = (q) := ((bif_t hq0 _ _).trans ((bif_t hq1 _ _).trans ((bif_t hq2 _ _).trans ((bif_t hq3 _ _).trans rfl)))); rw [e1]; have e2 : psh_c2 gs m a b c d p q = (false) := ((bif_t hq0 _ _).trans ((bif_t hq1 _ _).trans ((bif_t hq2 _ _).trans rfl))); rw [e2]; exact psh_p0 gs m a b c d p q hx hq0 hq1 hq2 hq3
        ·
          have e0 : psh_c0 gs m a b c d p q = ((-1 : Int)) := ((bif_t hq0 _ _).trans ((bif_t hq1 _ _).trans ((bif_t hq2 _ _).trans ((bif_f hq3 _ _).trans rfl)))); rw [e0]; have e1 : psh_c1 gs m a b c d p q = ((0 : Int)) := ((bif_t hq0 _ _).trans ((bif_t hq1 _ _).trans ((bif_t hq2 _ _).trans ((bif_f hq3 _ _).trans rfl)))); rw [e1]; have e2 : psh_c2 gs m a b c d p q = (false) := ((bif_t hq0 _ _).trans ((bif_t hq1 _ _).trans ((bif_t hq2 _ _).trans rfl))); rw [e2]; exact psh_p1 gs m a b c d p q hx hq0 hq1 hq2 hq3
      ·
        have e0 : psh_c0 gs m a b c d p q = ((-1 : Int)) := ((bif_t hq0 _ _).trans ((bif_t hq1 _ _).trans ((bif_f hq2 _ _).trans rfl))); rw [e0]; have e1 : psh_c1 gs m a b c d p q = (q) := ((bif_t hq0 _ _).trans ((bif_t hq1 _ _).trans ((bif_f hq2 _ _).trans rfl))); rw [e1]; have e2 : psh_c2 gs m a b c d p q = (true) := ((bif_t hq0 _ _).trans ((bif_t hq1 _ _).trans ((bif_f hq2 _ _).trans rfl))); rw [e2]; exact psh_p2 gs m a b c d p q hx hq0 hq1 hq2
    ·
      have e0 : psh_c0 gs m a b c d p q = ((-1 : Int)) := ((bif_t hq0 _ _).trans ((bif_f hq1 _ _).trans rfl)); rw [e0]; have e1 : psh_c1 gs m a b c d p q = ((0 : Int)) := ((bif_t hq0 _ _).trans ((bif_f hq1 _ _).trans rfl)); rw [e1]; have e2 : psh_c2 gs m a b c d p q = (true) := ((bif_t hq0 _ _).trans ((bif_f hq1 _ _).trans rfl)); rw [e2]; exact psh_p3 gs m a b c d p q hx hq0 hq1
  ·
    have e0 : psh_c0 gs m a b c d p q = ((-1 : Int)) := ((bif_f hq0 _ _).trans rfl); rw [e0]; have e1 : psh_c1 gs m a b c d p q = ((0 : Int)) := ((bif_f hq0 _ _).trans rfl); rw [e1]; have e2 : psh_c2 gs m a b c d p q = (false) := ((bif_f hq0 _ _).trans rfl); rw [e2]; exact psh_p4 gs m a b c d p q hx hq0

noncomputable def rsh_c0 (gs : List Int) (m : Int) (a : Int) (b c d : Bool) (p q : Int) : Int := (bif (a != m) then ((-1 : Int)) else (bif (!b) then ((-1 : Int)) else (bif (c) then ((-1 : Int)) else (bif (d) then ((-1 : Int)) else (nV gs p)))))
noncomputable def rsh_c1 (gs : List Int) (m : Int) (a : Int) (b c d : Bool) (p q : Int) : Int := (bif (a != m) then ((0 : Int)) else (bif (!b) then ((0 : Int)) else (bif (c) then (q) else (bif (d) then ((0 : Int)) else (q)))))
noncomputable def rsh_c2 (gs : List Int) (m : Int) (a : Int) (b c d : Bool) (p q : Int) : Bool := (bif (a != m) then (false) else (bif (!b) then (true) else (bif (c) then (true) else (false))))
theorem rsh_p0 (gs : List Int) (m : Int) (a : Int) (b c d : Bool) (p q : Int) (hx : gs.length ≤ 70) (hq0 : (a != m) = true) : KnownR Try.prog [] 29 [.list (rowA gI gs) gs.length, .val (.int .i64 m), .val (.agg #[.int .i64 a, .bool b, .bool c, .bool d, .int .i64 p, .int .i64 q])] (.agg #[(.int .i64 ((-1 : Int))), (.int .i64 ((0 : Int))), (.bool (false))]) [] :=
  knownR_eq (v := Value.agg { toList := [Value.int IntKind.i64 (-1 : Int), Value.int IntKind.i64 (0 : Int), Value.bool false] }) (bs := []) (open_resD mix tabA_ok (T := tabA) (fuel := 3000) (es := []) (ans := [(0, .b 1)]) (log := [(a != m) = true]) (by kernel_rfl) ⟨hq0, trivial⟩ (by kernel_rfl)) (by first | rfl | (simp; done) | (simp_all; done)) (by first | rfl | (simp [rowA_nil]; done) | (simp only [rowA_eq]; rfl) | (simp_all [rowA_nil]; done))
theorem rsh_p1 (gs : List Int) (m : Int) (a : Int) (b c d : Bool) (p q : Int) (hx : gs.length ≤ 70) (hq0 : (a != m) = false) (hq1 : (!b) = true) : KnownR Try.prog [] 29 [.list (rowA gI gs) gs.length, .val (.int .i64 m), .val (.agg #[.int .i64 a, .bool b, .bool c, .bool d, .int .i64 p, .int .i64 q])] (.agg #[(.int .i64 ((-1 : Int))), (.int .i64 ((0 : Int))), (.bool (true))]) [] :=
  knownR_eq (v := Value.agg { toList := [Value.int IntKind.i64 (-1 : Int), Value.int IntKind.i64 (0 : Int), Value.bool true] }) (bs := []) (open_resD mix tabA_ok (T := tabA) (fuel := 3000) (es := []) (ans := [(0, .b 0), (1, .b 1)]) (log := [(!b) = true, (a != m) = false]) (by kernel_rfl) ⟨hq1, hq0, trivial⟩ (by kernel_rfl)) (by first | rfl | (simp; done) | (simp_all; done)) (by first | rfl | (simp [rowA_nil]; done) | (simp only [rowA_eq]; rfl) | (simp_all [rowA_nil]; done))
theorem rsh_p2 (gs : List Int) (m : Int) (a : Int) (b c d : Bool) (p q : Int) (hx : gs.length ≤ 70) (hq0 : (a != m) = false) (hq1 : (!b) = false) (hq2 : (c) = true) : KnownR Try.prog [] 29 [.list (rowA gI gs) gs.length, .val (.int .i64 m), .val (.agg #[.int .i64 a, .bool b, .bool c, .bool d, .int .i64 p, .int .i64 q])] (.agg #[(.int .i64 ((-1 : Int))), (.int .i64 (q)), (.bool (true))]) [] :=
  knownR_eq (v := Value.agg { toList := [Value.int IntKind.i64 (-1 : Int), Value.int IntKind.i64 q, Value.bool true] }) (bs := []) (open_resD mix tabA_ok (T := tabA) (fuel := 3000) (es := []) (ans := [(0, .b 0), (1, .b 0), (2, .b 1)]) (log := [(c) = true, (!b) = false, (a != m) = false]) (by kernel_rfl) ⟨hq2, hq1, hq0, trivial⟩ (by kernel_rfl)) (by first | rfl | (simp; done) | (simp_all; done)) (by first | rfl | (simp [rowA_nil]; done) | (simp only [rowA_eq]; rfl) | (simp_all [rowA_nil]; done))
theorem rsh_p3 (gs : List Int) (m : Int) (a : Int) (b c d : Bool) (p q : Int) (hx : gs.length ≤ 70) (hq0 : (a != m) = false) (hq1 : (!b) = false) (hq2 : (c) = false) (hq3 : (d) = true) : KnownR Try.prog [] 29 [.list (rowA gI gs) gs.length, .val (.int .i64 m), .val (.agg #[.int .i64 a, .bool b, .bool c, .bool d, .int .i64 p, .int .i64 q])] (.agg #[(.int .i64 ((-1 : Int))), (.int .i64 ((0 : Int))), (.bool (false))]) [] :=
  knownR_eq (v := Value.agg { toList := [Value.int IntKind.i64 (-1 : Int), Value.int IntKind.i64 (0 : Int), Value.bool false] }) (bs := []) (open_resD mix tabA_ok (T := tabA) (fuel := 3000) (es := []) (ans := [(0, .b 0), (1, .b 0), (2, .b 0), (3, .b 1)]) (log := [(d) = true, (c) = false, (!b) = false, (a != m) = false]) (by kernel_rfl) ⟨hq3, hq2, hq1, hq0, trivial⟩ (by kernel_rfl)) (by first | rfl | (simp; done) | (simp_all; done)) (by first | rfl | (simp [rowA_nil]; done) | (simp only [rowA_eq]; rfl) | (simp_all [rowA_nil]; done))
theorem rsh_p4 (gs : List Int) (m : Int) (a : Int) (b c d : Bool) (p q : Int) (hx : gs.length ≤ 70) (hq0 : (a != m) = false) (hq1 : (!b) = false) (hq2 : (c) = false) (hq3 : (d) = false) : KnownR Try.prog [] 29 [.list (rowA gI gs) gs.length, .val (.int .i64 m), .val (.agg #[.int .i64 a, .bool b, .bool c, .bool d, .int .i64 p, .int .i64 q])] (.agg #[(.int .i64 (nV gs p)), (.int .i64 (q)), (.bool (false))]) [] :=
  knownR_eq (v := Value.agg { toList := [Value.int IntKind.i64 (nV gs p), Value.int IntKind.i64 q, Value.bool false] }) (bs := []) (open_resD mix tabA_ok (T := tabA) (fuel := 3000) (es := []) (ans := [(0, .b 0), (1, .b 0), (2, .b 0), (3, .b 0), (4, .outs (Value.tuple #[Value.int IntKind.i64 (nV gs p), Value.int IntKind.i64 (lE gs p (0 : Int) (0 : Int))]) ([]))]) (log := [(GTab.lookD (tabA) ((37 : Nat)) ([D.list (rowA gI gs) gs.length, D.val (Value.int IntKind.i64 p)])) = some (Value.tuple #[Value.int IntKind.i64 (nV gs p), Value.int IntKind.i64 (lE gs p (0 : Int) (0 : Int))], []), (d) = false, (c) = false, (!b) = false, (a != m) = false]) (by kernel_rfl) ⟨(rnD_at (gs) (p) (gs.length) (by first | rfl | assumption | omega | (simp; done) | (simp_all; done) | (simp_all; omega)) (by first | rfl | assumption | omega | (simp; done) | (simp_all; done) | (simp_all; omega))), hq3, hq2, hq1, hq0, trivial⟩ (by kernel_rfl)) (by first | rfl | (simp; done) | (simp_all; done)) (by first | rfl | (simp [rowA_nil]; done) | (simp only [rowA_eq]; rfl) | (simp_all [rowA_nil]; done))
set_option maxHeartbeats 8000000 in
theorem rsh (gs : List Int) (m : Int) (a : Int) (b c d : Bool) (p q : Int) (hx : gs.length ≤ 70) : KnownR Try.prog [] 29 [.list (rowA gI gs) gs.length, .val (.int .i64 m), .val (.agg #[.int .i64 a, .bool b, .bool c, .bool d, .int .i64 p, .int .i64 q])] (.agg #[(.int .i64 (rsh_c0 gs m a b c d p q)), (.int .i64 (rsh_c1 gs m a b c d p q)), (.bool (rsh_c2 gs m a b c d p q))]) [] := by
  rcases Bool.eq_false_or_eq_true (a != m) with hq0 | hq0
  ·
    have e0 : rsh_c0 gs m a b c d p q = ((-1 : Int)) := ((bif_t hq0 _ _).trans rfl); rw [e0]; have e1 : rsh_c1 gs m a b c d p q = ((0 : Int)) := ((bif_t hq0 _ _).trans rfl); rw [e1]; have e2 : rsh_c2 gs m a b c d p q = (false) := ((bif_t hq0 _ _).trans rfl); rw [e2]; exact rsh_p0 gs m a b c d p q hx hq0
  ·
    rcases Bool.eq_false_or_eq_true (!b) with hq1 | hq1
    ·
      have e0 : rsh_c0 gs m a b c d p q = ((-1 : Int)) := ((bif_f hq0 _ _).trans ((bif_t hq1 _ _).trans rfl)); rw [e0]; have e1 : rsh_c1 gs m a b c d p q = ((0 : Int)) := ((bif_f hq0 _ _).trans ((bif_t hq1 _ _).trans rfl)); rw [e1]; have e2 : rsh_c2 gs m a b c d p q = (true) := ((bif_f hq0 _ _).trans ((bif_t hq1 _ _).trans rfl)); rw [e2]; exact rsh_p1 gs m a b c d p q hx hq0 hq1
    ·
      rcases Bool.eq_false_or_eq_true (c) with hq2 | hq2
      ·
        have e0 : rsh_c0 gs m a b c d p q = ((-1 : Int)) := ((bif_f hq0 _ _).trans ((bif_f hq1 _ _).trans ((bif_t hq2 _ _).trans rfl))); rw [e0]; have e1 : rsh_c1 gs m a b c d p q = (q) := ((bif_f hq0 _ _).trans ((bif_f hq1 _ _).trans ((bif_t hq2 _ _).trans rfl))); rw [e1]; have e2 : rsh_c2 gs m a b c d p q = (true) := ((bif_f hq0 _ _).trans ((bif_f hq1 _ _).trans ((bif_t hq2 _ _).trans rfl))); rw [e2]; exact rsh_p2 gs m a b c d p q hx hq0 hq1 hq2
      ·
        rcases Bool.eq_false_or_eq_true (d) with hq3 | hq3
        ·
          have e0 : rsh_c0 gs m a b c d p q = ((-1 : Int)) := ((bif_f hq0 _ _).trans ((bif_f hq1 _ _).trans ((bif_f hq2 _ _).trans ((bif_t hq3 _ _).trans rfl)))); rw [e0]; have e1 : rsh_c1 gs m a b c d p q = ((0 : Int)) := ((bif_f hq0 _ _).trans ((bif_f hq1 _ _).trans ((bif_f hq2 _ _).trans ((bif_t hq3 _ _).trans rfl)))); rw [e1]; have e2 : rsh_c2 gs m a b c d p q = (false) := ((bif_f hq0 _ _).trans ((bif_f hq1 _ _).trans ((bif_f hq2 _ _).trans rfl))); rw [e2]; exact rsh_p3 gs m a b c d p q hx hq0 hq1 hq2 hq3
        ·
          have e0 : rsh_c0 gs m a b c d p q = (nV gs p) := ((bif_f hq0 _ _).trans ((bif_f hq1 _ _).trans ((bif_f hq2 _ _).trans ((bif_f hq3 _ _).trans rfl)))); rw [e0]; have e1 : rsh_c1 gs m a b c d p q = (q) := ((bif_f hq0 _ _).trans ((bif_f hq1 _ _).trans ((bif_f hq2 _ _).trans ((bif_f hq3 _ _).trans rfl)))); rw [e1]; have e2 : rsh_c2 gs m a b c d p q = (false) := ((bif_f hq0 _ _).trans ((bif_f hq1 _ _).trans ((bif_f hq2 _ _).trans rfl))); rw [e2]; exact rsh_p4 gs m a b c d p q hx hq0 hq1 hq2 hq3

noncomputable def pdf_c0 (a p : Int) (b : Bool) (c q : Int) (d : Bool) : List Int := (bif (a == c) then (bif (p == q) then (bif (b == d) then (([] : List Int)) else ([(3 : Int)])) else (bif (b == d) then ([(2 : Int)]) else ([(2 : Int), (3 : Int)]))) else (bif (p == q) then (bif (b == d) then ([(1 : Int)]) else ([(1 : Int), (3 : Int)])) else (bif (b == d) then ([(1 : Int), (2 : Int)]) else ([(1 : Int), (2 : Int), (3 : Int)]))))
theorem pdf_p0 (a p : Int) (b : Bool) (c q : Int) (d : Bool)  (hq0 : (a == c) = true) (hq1 : (p == q) = true) (hq2 : (b == d) = true) : KnownR Try.prog [] 19 [.val (.agg #[.int .i64 a, .int .i64 p, .bool b]), .val (.agg #[.int .i64 c, .int .i64 q, .bool d])] (.complex .f64 0 ((([] : List Int))).length) [(rowA gI ((([] : List Int))), 3)] :=
  knownR_eq (v := Value.complex FloatKind.f64 (nat_lit 0) (nat_lit 0)) (bs := [({ toList := [] }, nat_lit 3)]) (open_resD mix GOk.none (T := GTab.none) (fuel := 3000) (es := [3]) (ans := [(0, .b 1), (1, .b 1), (2, .b 1)]) (log := [(b == d) = true, (p == q) = true, (a == c) = true]) (by kernel_rfl) ⟨hq2, hq1, hq0, trivial⟩ (by kernel_rfl)) (by first | rfl | (simp; done) | (simp_all; done)) (by first | rfl | (simp [rowA_nil]; done) | (simp only [rowA_eq]; rfl) | (simp_all [rowA_nil]; done))
theorem pdf_p1 (a p : Int) (b : Bool) (c q : Int) (d : Bool)  (hq0 : (a == c) = true) (hq1 : (p == q) = true) (hq2 : (b == d) = false) : KnownR Try.prog [] 19 [.val (.agg #[.int .i64 a, .int .i64 p, .bool b]), .val (.agg #[.int .i64 c, .int .i64 q, .bool d])] (.complex .f64 0 (([(3 : Int)])).length) [(rowA gI (([(3 : Int)])), 3)] :=
  knownR_eq (v := Value.complex FloatKind.f64 (nat_lit 0) (nat_lit 1)) (bs := [({ toList := [Value.int IntKind.i64 (3 : Int)] }, nat_lit 3)]) (open_resD mix GOk.none (T := GTab.none) (fuel := 3000) (es := [3]) (ans := [(0, .b 1), (1, .b 1), (2, .b 0)]) (log := [(b == d) = false, (p == q) = true, (a == c) = true]) (by kernel_rfl) ⟨hq2, hq1, hq0, trivial⟩ (by kernel_rfl)) (by first | rfl | (simp; done) | (simp_all; done)) (by first | rfl | (simp [rowA_nil]; done) | (simp only [rowA_eq]; rfl) | (simp_all [rowA_nil]; done))
theorem pdf_p2 (a p : Int) (b : Bool) (c q : Int) (d : Bool)  (hq0 : (a == c) = true) (hq1 : (p == q) = false) (hq2 : (b == d) = true) : KnownR Try.prog [] 19 [.val (.agg #[.int .i64 a, .int .i64 p, .bool b]), .val (.agg #[.int .i64 c, .int .i64 q, .bool d])] (.complex .f64 0 (([(2 : Int)])).length) [(rowA gI (([(2 : Int)])), 3)] :=
  knownR_eq (v := Value.complex FloatKind.f64 (nat_lit 0) (nat_lit 1)) (bs := [({ toList := [Value.int IntKind.i64 (2 : Int)] }, nat_lit 3)]) (open_resD mix GOk.none (T := GTab.none) (fuel := 3000) (es := [3]) (ans := [(0, .b 1), (1, .b 0), (2, .b 1)]) (log := [(b == d) = true, (p == q) = false, (a == c) = true]) (by kernel_rfl) ⟨hq2, hq1, hq0, trivial⟩ (by kernel_rfl)) (by first | rfl | (simp; done) | (simp_all; done)) (by first | rfl | (simp [rowA_nil]; done) | (simp only [rowA_eq]; rfl) | (simp_all [rowA_nil]; done))
theorem pdf_p3 (a p : Int) (b : Bool) (c q : Int) (d : Bool)  (hq0 : (a == c) = true) (hq1 : (p == q) = false) (hq2 : (b == d) = false) : KnownR Try.prog [] 19 [.val (.agg #[.int .i64 a, .int .i64 p, .bool b]), .val (.agg #[.int .i64 c, .int .i64 q, .bool d])] (.complex .f64 0 (([(2 : Int), (3 : Int)])).length) [(rowA gI (([(2 : Int), (3 : Int)])), 3)] :=
  knownR_eq (v := Value.complex FloatKind.f64 (nat_lit 0) (nat_lit 2)) (bs := [({ toList := [Value.int IntKind.i64 (2 : Int), Value.int IntKind.i64 (3 : Int)] }, nat_lit 3)]) (open_resD mix GOk.none (T := GTab.none) (fuel := 3000) (es := [3]) (ans := [(0, .b 1), (1, .b 0), (2, .b 0)]) (log := [(b == d) = false, (p == q) = false, (a == c) = true]) (by kernel_rfl) ⟨hq2, hq1, hq0, trivial⟩ (by kernel_rfl)) (by first | rfl | (simp; done) | (simp_all; done)) (by first | rfl | (simp [rowA_nil]; done) | (simp only [rowA_eq]; rfl) | (simp_all [rowA_nil]; done))
theorem pdf_p4 (a p : Int) (b : Bool) (c q : Int) (d : Bool)  (hq0 : (a == c) = false) (hq1 : (p == q) = true) (hq2 : (b == d) = true) : KnownR Try.prog [] 19 [.val (.agg #[.int .i64 a, .int .i64 p, .bool b]), .val (.agg #[.int .i64 c, .int .i64 q, .bool d])] (.complex .f64 0 (([(1 : Int)])).length) [(rowA gI (([(1 : Int)])), 3)] :=
  knownR_eq (v := Value.complex FloatKind.f64 (nat_lit 0) (nat_lit 1)) (bs := [({ toList := [Value.int IntKind.i64 (1 : Int)] }, nat_lit 3)]) (open_resD mix GOk.none (T := GTab.none) (fuel := 3000) (es := [3]) (ans := [(0, .b 0), (1, .b 1), (2, .b 1)]) (log := [(b == d) = true, (p == q) = true, (a == c) = false]) (by kernel_rfl) ⟨hq2, hq1, hq0, trivial⟩ (by kernel_rfl)) (by first | rfl | (simp; done) | (simp_all; done)) (by first | rfl | (simp [rowA_nil]; done) | (simp only [rowA_eq]; rfl) | (simp_all [rowA_nil]; done))
theorem pdf_p5 (a p : Int) (b : Bool) (c q : Int) (d : Bool)  (hq0 : (a == c) = false) (hq1 : (p == q) = true) (hq2 : (b == d) = false) : KnownR Try.prog [] 19 [.val (.agg #[.int .i64 a, .int .i64 p, .bool b]), .val (.agg #[.int .i64 c, .int .i64 q, .bool d])] (.complex .f64 0 (([(1 : Int), (3 : Int)])).length) [(rowA gI (([(1 : Int), (3 : Int)])), 3)] :=
  knownR_eq (v := Value.complex FloatKind.f64 (nat_lit 0) (nat_lit 2)) (bs := [({ toList := [Value.int IntKind.i64 (1 : Int), Value.int IntKind.i64 (3 : Int)] }, nat_lit 3)]) (open_resD mix GOk.none (T := GTab.none) (fuel := 3000) (es := [3]) (ans := [(0, .b 0), (1, .b 1), (2, .b 0)]) (log := [(b == d) = false, (p == q) = true, (a == c) = false]) (by kernel_rfl) ⟨hq2, hq1, hq0, trivial⟩ (by kernel_rfl)) (by first | rfl | (simp; done) | (simp_all; done)) (by first | rfl | (simp [rowA_nil]; done) | (simp only [rowA_eq]; rfl) | (simp_all [rowA_nil]; done))
theorem pdf_p6 (a p : Int) (b : Bool) (c q : Int) (d : Bool)  (hq0 : (a == c) = false) (hq1 : (p == q) = false) (hq2 : (b == d) = true) : KnownR Try.prog [] 19 [.val (.agg #[.int .i64 a, .int .i64 p, .bool b]), .val (.agg #[.int .i64 c, .int .i64 q, .bool d])] (.complex .f64 0 (([(1 : Int), (2 : Int)])).length) [(rowA gI (([(1 : Int), (2 : Int)])), 3)] :=
  knownR_eq (v := Value.complex FloatKind.f64 (nat_lit 0) (nat_lit 2)) (bs := [({ toList := [Value.int IntKind.i64 (1 : Int), Value.int IntKind.i64 (2 : Int)] }, nat_lit 3)]) (open_resD mix GOk.none (T := GTab.none) (fuel := 3000) (es := [3]) (ans := [(0, .b 0), (1, .b 0), (2, .b 1)]) (log := [(b == d) = true, (p == q) = false, (a == c) = false]) (by kernel_rfl) ⟨hq2, hq1, hq0, trivial⟩ (by kernel_rfl)) (by first | rfl | (simp; done) | (simp_all; done)) (by first | rfl | (simp [rowA_nil]; done) | (simp only [rowA_eq]; rfl) | (simp_all [rowA_nil]; done))
theorem pdf_p7 (a p : Int) (b : Bool) (c q : Int) (d : Bool)  (hq0 : (a == c) = false) (hq1 : (p == q) = false) (hq2 : (b == d) = false) : KnownR Try.prog [] 19 [.val (.agg #[.int .i64 a, .int .i64 p, .bool b]), .val (.agg #[.int .i64 c, .int .i64 q, .bool d])] (.complex .f64 0 (([(1 : Int), (2 : Int), (3 : Int)])).length) [(rowA gI (([(1 : Int), (2 : Int), (3 : Int)])), 3)] :=
  knownR_eq (v := Value.complex FloatKind.f64 (nat_lit 0) (nat_lit 3)) (bs := [({ toList := [Value.int IntKind.i64 (1 : Int), Value.int IntKind.i64 (2 : Int), Value.int IntKind.i64 (3 : Int)] }, nat_lit 3)]) (open_resD mix GOk.none (T := GTab.none) (fuel := 3000) (es := [3]) (ans := [(0, .b 0), (1, .b 0), (2, .b 0)]) (log := [(b == d) = false, (p == q) = false, (a == c) = false]) (by kernel_rfl) ⟨hq2, hq1, hq0, trivial⟩ (by kernel_rfl)) (by first | rfl | (simp; done) | (simp_all; done)) (by first | rfl | (simp [rowA_nil]; done) | (simp only [rowA_eq]; rfl) | (simp_all [rowA_nil]; done))
set_option maxHeartbeats 8000000 in
theorem pdf (a p : Int) (b : Bool) (c q : Int) (d : Bool)  : KnownR Try.prog [] 19 [.val (.agg #[.int .i64 a, .int .i64 p, .bool b]), .val (.agg #[.int .i64 c, .int .i64 q, .bool d])] (.complex .f64 0 ((pdf_c0 a p b c q d)).length) [(rowA gI ((pdf_c0 a p b c q d)), 3)] := by
  rcases Bool.eq_false_or_eq_true (a == c) with hq0 | hq0
  ·
    rcases Bool.eq_false_or_eq_true (p == q) with hq1 | hq1
    ·
      rcases Bool.eq_false_or_eq_true (b == d) with hq2 | hq2
      ·
        have e0 : pdf_c0 a p b c q d = (([] : List Int)) := ((bif_t hq0 _ _).trans ((bif_t hq1 _ _).trans ((bif_t hq2 _ _).trans rfl))); rw [e0]; exact pdf_p0 a p b c q d hq0 hq1 hq2
      ·
        have e0 : pdf_c0 a p b c q d = ([(3 : Int)]) := ((bif_t hq0 _ _).trans ((bif_t hq1 _ _).trans ((bif_f hq2 _ _).trans rfl))); rw [e0]; exact pdf_p1 a p b c q d hq0 hq1 hq2
    ·
      rcases Bool.eq_false_or_eq_true (b == d) with hq2 | hq2
      ·
        have e0 : pdf_c0 a p b c q d = ([(2 : Int)]) := ((bif_t hq0 _ _).trans ((bif_f hq1 _ _).trans ((bif_t hq2 _ _).trans rfl))); rw [e0]; exact pdf_p2 a p b c q d hq0 hq1 hq2
      ·
        have e0 : pdf_c0 a p b c q d = ([(2 : Int), (3 : Int)]) := ((bif_t hq0 _ _).trans ((bif_f hq1 _ _).trans ((bif_f hq2 _ _).trans rfl))); rw [e0]; exact pdf_p3 a p b c q d hq0 hq1 hq2
  ·
    rcases Bool.eq_false_or_eq_true (p == q) with hq1 | hq1
    ·
      rcases Bool.eq_false_or_eq_true (b == d) with hq2 | hq2
      ·
        have e0 : pdf_c0 a p b c q d = ([(1 : Int)]) := ((bif_f hq0 _ _).trans ((bif_t hq1 _ _).trans ((bif_t hq2 _ _).trans rfl))); rw [e0]; exact pdf_p4 a p b c q d hq0 hq1 hq2
      ·
        have e0 : pdf_c0 a p b c q d = ([(1 : Int), (3 : Int)]) := ((bif_f hq0 _ _).trans ((bif_t hq1 _ _).trans ((bif_f hq2 _ _).trans rfl))); rw [e0]; exact pdf_p5 a p b c q d hq0 hq1 hq2
    ·
      rcases Bool.eq_false_or_eq_true (b == d) with hq2 | hq2
      ·
        have e0 : pdf_c0 a p b c q d = ([(1 : Int), (2 : Int)]) := ((bif_f hq0 _ _).trans ((bif_f hq1 _ _).trans ((bif_t hq2 _ _).trans rfl))); rw [e0]; exact pdf_p6 a p b c q d hq0 hq1 hq2
      ·
        have e0 : pdf_c0 a p b c q d = ([(1 : Int), (2 : Int), (3 : Int)]) := ((bif_f hq0 _ _).trans ((bif_f hq1 _ _).trans ((bif_f hq2 _ _).trans rfl))); rw [e0]; exact pdf_p7 a p b c q d hq0 hq1 hq2

noncomputable def rdf_c0 (a p : Int) (b : Bool) (c q : Int) (d : Bool) : List Int := (bif (a != c) then (bif (p != q) then (bif (!b == d) then ([(1 : Int), (2 : Int), (3 : Int)]) else ([(1 : Int), (2 : Int)])) else (bif (!b == d) then ([(1 : Int), (3 : Int)]) else ([(1 : Int)]))) else (bif (p != q) then (bif (!b == d) then ([(2 : Int), (3 : Int)]) else ([(2 : Int)])) else (bif (!b == d) then ([(3 : Int)]) else (([] : List Int)))))
theorem rdf_p0 (a p : Int) (b : Bool) (c q : Int) (d : Bool)  (hq0 : (a != c) = true) (hq1 : (p != q) = true) (hq2 : (!b == d) = true) : KnownR Try.prog [] 20 [.val (.agg #[.int .i64 a, .int .i64 p, .bool b]), .val (.agg #[.int .i64 c, .int .i64 q, .bool d])] (.complex .f64 0 (([(1 : Int), (2 : Int), (3 : Int)])).length) [(rowA gI (([(1 : Int), (2 : Int), (3 : Int)])), 3)] :=
  knownR_eq (v := Value.complex FloatKind.f64 (nat_lit 0) (nat_lit 3)) (bs := [({ toList := [Value.int IntKind.i64 (1 : Int), Value.int IntKind.i64 (2 : Int), Value.int IntKind.i64 (3 : Int)] }, nat_lit 3)]) (open_resD mix GOk.none (T := GTab.none) (fuel := 3000) (es := [3]) (ans := [(0, .b 1), (1, .b 1), (2, .b 1)]) (log := [(!b == d) = true, (p != q) = true, (a != c) = true]) (by kernel_rfl) ⟨hq2, hq1, hq0, trivial⟩ (by kernel_rfl)) (by first | rfl | (simp; done) | (simp_all; done)) (by first | rfl | (simp [rowA_nil]; done) | (simp only [rowA_eq]; rfl) | (simp_all [rowA_nil]; done))
theorem rdf_p1 (a p : Int) (b : Bool) (c q : Int) (d : Bool)  (hq0 : (a != c) = true) (hq1 : (p != q) = true) (hq2 : (!b == d) = false) : KnownR Try.prog [] 20 [.val (.agg #[.int .i64 a, .int .i64 p, .bool b]), .val (.agg #[.int .i64 c, .int .i64 q, .bool d])] (.complex .f64 0 (([(1 : Int), (2 : Int)])).length) [(rowA gI (([(1 : Int), (2 : Int)])), 3)] :=
  knownR_eq (v := Value.complex FloatKind.f64 (nat_lit 0) (nat_lit 2)) (bs := [({ toList := [Value.int IntKind.i64 (1 : Int), Value.int IntKind.i64 (2 : Int)] }, nat_lit 3)]) (open_resD mix GOk.none (T := GTab.none) (fuel := 3000) (es := [3]) (ans := [(0, .b 1), (1, .b 1), (2, .b 0)]) (log := [(!b == d) = false, (p != q) = true, (a != c) = true]) (by kernel_rfl) ⟨hq2, hq1, hq0, trivial⟩ (by kernel_rfl)) (by first | rfl | (simp; done) | (simp_all; done)) (by first | rfl | (simp [rowA_nil]; done) | (simp only [rowA_eq]; rfl) | (simp_all [rowA_nil]; done))
theorem rdf_p2 (a p : Int) (b : Bool) (c q : Int) (d : Bool)  (hq0 : (a != c) = true) (hq1 : (p != q) = false) (hq2 : (!b == d) = true) : KnownR Try.prog [] 20 [.val (.agg #[.int .i64 a, .int .i64 p, .bool b]), .val (.agg #[.int .i64 c, .int .i64 q, .bool d])] (.complex .f64 0 (([(1 : Int), (3 : Int)])).length) [(rowA gI (([(1 : Int), (3 : Int)])), 3)] :=
  knownR_eq (v := Value.complex FloatKind.f64 (nat_lit 0) (nat_lit 2)) (bs := [({ toList := [Value.int IntKind.i64 (1 : Int), Value.int IntKind.i64 (3 : Int)] }, nat_lit 3)]) (open_resD mix GOk.none (T := GTab.none) (fuel := 3000) (es := [3]) (ans := [(0, .b 1), (1, .b 0), (2, .b 1)]) (log := [(!b == d) = true, (p != q) = false, (a != c) = true]) (by kernel_rfl) ⟨hq2, hq1, hq0, trivial⟩ (by kernel_rfl)) (by first | rfl | (simp; done) | (simp_all; done)) (by first | rfl | (simp [rowA_nil]; done) | (simp only [rowA_eq]; rfl) | (simp_all [rowA_nil]; done))
theorem rdf_p3 (a p : Int) (b : Bool) (c q : Int) (d : Bool)  (hq0 : (a != c) = true) (hq1 : (p != q) = false) (hq2 : (!b == d) = false) : KnownR Try.prog [] 20 [.val (.agg #[.int .i64 a, .int .i64 p, .bool b]), .val (.agg #[.int .i64 c, .int .i64 q, .bool d])] (.complex .f64 0 (([(1 : Int)])).length) [(rowA gI (([(1 : Int)])), 3)] :=
  knownR_eq (v := Value.complex FloatKind.f64 (nat_lit 0) (nat_lit 1)) (bs := [({ toList := [Value.int IntKind.i64 (1 : Int)] }, nat_lit 3)]) (open_resD mix GOk.none (T := GTab.none) (fuel := 3000) (es := [3]) (ans := [(0, .b 1), (1, .b 0), (2, .b 0)]) (log := [(!b == d) = false, (p != q) = false, (a != c) = true]) (by kernel_rfl) ⟨hq2, hq1, hq0, trivial⟩ (by kernel_rfl)) (by first | rfl | (simp; done) | (simp_all; done)) (by first | rfl | (simp [rowA_nil]; done) | (simp only [rowA_eq]; rfl) | (simp_all [rowA_nil]; done))
theorem rdf_p4 (a p : Int) (b : Bool) (c q : Int) (d : Bool)  (hq0 : (a != c) = false) (hq1 : (p != q) = true) (hq2 : (!b == d) = true) : KnownR Try.prog [] 20 [.val (.agg #[.int .i64 a, .int .i64 p, .bool b]), .val (.agg #[.int .i64 c, .int .i64 q, .bool d])] (.complex .f64 0 (([(2 : Int), (3 : Int)])).length) [(rowA gI (([(2 : Int), (3 : Int)])), 3)] :=
  knownR_eq (v := Value.complex FloatKind.f64 (nat_lit 0) (nat_lit 2)) (bs := [({ toList := [Value.int IntKind.i64 (2 : Int), Value.int IntKind.i64 (3 : Int)] }, nat_lit 3)]) (open_resD mix GOk.none (T := GTab.none) (fuel := 3000) (es := [3]) (ans := [(0, .b 0), (1, .b 1), (2, .b 1)]) (log := [(!b == d) = true, (p != q) = true, (a != c) = false]) (by kernel_rfl) ⟨hq2, hq1, hq0, trivial⟩ (by kernel_rfl)) (by first | rfl | (simp; done) | (simp_all; done)) (by first | rfl | (simp [rowA_nil]; done) | (simp only [rowA_eq]; rfl) | (simp_all [rowA_nil]; done))
theorem rdf_p5 (a p : Int) (b : Bool) (c q : Int) (d : Bool)  (hq0 : (a != c) = false) (hq1 : (p != q) = true) (hq2 : (!b == d) = false) : KnownR Try.prog [] 20 [.val (.agg #[.int .i64 a, .int .i64 p, .bool b]), .val (.agg #[.int .i64 c, .int .i64 q, .bool d])] (.complex .f64 0 (([(2 : Int)])).length) [(rowA gI (([(2 : Int)])), 3)] :=
  knownR_eq (v := Value.complex FloatKind.f64 (nat_lit 0) (nat_lit 1)) (bs := [({ toList := [Value.int IntKind.i64 (2 : Int)] }, nat_lit 3)]) (open_resD mix GOk.none (T := GTab.none) (fuel := 3000) (es := [3]) (ans := [(0, .b 0), (1, .b 1), (2, .b 0)]) (log := [(!b == d) = false, (p != q) = true, (a != c) = false]) (by kernel_rfl) ⟨hq2, hq1, hq0, trivial⟩ (by kernel_rfl)) (by first | rfl | (simp; done) | (simp_all; done)) (by first | rfl | (simp [rowA_nil]; done) | (simp only [rowA_eq]; rfl) | (simp_all [rowA_nil]; done))
theorem rdf_p6 (a p : Int) (b : Bool) (c q : Int) (d : Bool)  (hq0 : (a != c) = false) (hq1 : (p != q) = false) (hq2 : (!b == d) = true) : KnownR Try.prog [] 20 [.val (.agg #[.int .i64 a, .int .i64 p, .bool b]), .val (.agg #[.int .i64 c, .int .i64 q, .bool d])] (.complex .f64 0 (([(3 : Int)])).length) [(rowA gI (([(3 : Int)])), 3)] :=
  knownR_eq (v := Value.complex FloatKind.f64 (nat_lit 0) (nat_lit 1)) (bs := [({ toList := [Value.int IntKind.i64 (3 : Int)] }, nat_lit 3)]) (open_resD mix GOk.none (T := GTab.none) (fuel := 3000) (es := [3]) (ans := [(0, .b 0), (1, .b 0), (2, .b 1)]) (log := [(!b == d) = true, (p != q) = false, (a != c) = false]) (by kernel_rfl) ⟨hq2, hq1, hq0, trivial⟩ (by kernel_rfl)) (by first | rfl | (simp; done) | (simp_all; done)) (by first | rfl | (simp [rowA_nil]; done) | (simp only [rowA_eq]; rfl) | (simp_all [rowA_nil]; done))
theorem rdf_p7 (a p : Int) (b : Bool) (c q : Int) (d : Bool)  (hq0 : (a != c) = false) (hq1 : (p != q) = false) (hq2 : (!b == d) = false) : KnownR Try.prog [] 20 [.val (.agg #[.int .i64 a, .int .i64 p, .bool b]), .val (.agg #[.int .i64 c, .int .i64 q, .bool d])] (.complex .f64 0 ((([] : List Int))).length) [(rowA gI ((([] : List Int))), 3)] :=
  knownR_eq (v := Value.complex FloatKind.f64 (nat_lit 0) (nat_lit 0)) (bs := [({ toList := [] }, nat_lit 3)]) (open_resD mix GOk.none (T := GTab.none) (fuel := 3000) (es := [3]) (ans := [(0, .b 0), (1, .b 0), (2, .b 0)]) (log := [(!b == d) = false, (p != q) = false, (a != c) = false]) (by kernel_rfl) ⟨hq2, hq1, hq0, trivial⟩ (by kernel_rfl)) (by first | rfl | (simp; done) | (simp_all; done)) (by first | rfl | (simp [rowA_nil]; done) | (simp only [rowA_eq]; rfl) | (simp_all [rowA_nil]; done))
set_option maxHeartbeats 8000000 in
theorem rdf (a p : Int) (b : Bool) (c q : Int) (d : Bool)  : KnownR Try.prog [] 20 [.val (.agg #[.int .i64 a, .int .i64 p, .bool b]), .val (.agg #[.int .i64 c, .int .i64 q, .bool d])] (.complex .f64 0 ((rdf_c0 a p b c q d)).length) [(rowA gI ((rdf_c0 a p b c q d)), 3)] := by
  rcases Bool.eq_false_or_eq_true (a != c) with hq0 | hq0
  ·
    rcases Bool.eq_false_or_eq_true (p != q) with hq1 | hq1
    ·
      rcases Bool.eq_false_or_eq_true (!b == d) with hq2 | hq2
      ·
        have e0 : rdf_c0 a p b c q d = ([(1 : Int), (2 : Int), (3 : Int)]) := ((bif_t hq0 _ _).trans ((bif_t hq1 _ _).trans ((bif_t hq2 _ _).trans rfl))); rw [e0]; exact rdf_p0 a p b c q d hq0 hq1 hq2
      ·
        have e0 : rdf_c0 a p b c q d = ([(1 : Int), (2 : Int)]) := ((bif_t hq0 _ _).trans ((bif_t hq1 _ _).trans ((bif_f hq2 _ _).trans rfl))); rw [e0]; exact rdf_p1 a p b c q d hq0 hq1 hq2
    ·
      rcases Bool.eq_false_or_eq_true (!b == d) with hq2 | hq2
      ·
        have e0 : rdf_c0 a p b c q d = ([(1 : Int), (3 : Int)]) := ((bif_t hq0 _ _).trans ((bif_f hq1 _ _).trans ((bif_t hq2 _ _).trans rfl))); rw [e0]; exact rdf_p2 a p b c q d hq0 hq1 hq2
      ·
        have e0 : rdf_c0 a p b c q d = ([(1 : Int)]) := ((bif_t hq0 _ _).trans ((bif_f hq1 _ _).trans ((bif_f hq2 _ _).trans rfl))); rw [e0]; exact rdf_p3 a p b c q d hq0 hq1 hq2
  ·
    rcases Bool.eq_false_or_eq_true (p != q) with hq1 | hq1
    ·
      rcases Bool.eq_false_or_eq_true (!b == d) with hq2 | hq2
      ·
        have e0 : rdf_c0 a p b c q d = ([(2 : Int), (3 : Int)]) := ((bif_f hq0 _ _).trans ((bif_t hq1 _ _).trans ((bif_t hq2 _ _).trans rfl))); rw [e0]; exact rdf_p4 a p b c q d hq0 hq1 hq2
      ·
        have e0 : rdf_c0 a p b c q d = ([(2 : Int)]) := ((bif_f hq0 _ _).trans ((bif_t hq1 _ _).trans ((bif_f hq2 _ _).trans rfl))); rw [e0]; exact rdf_p5 a p b c q d hq0 hq1 hq2
    ·
      rcases Bool.eq_false_or_eq_true (!b == d) with hq2 | hq2
      ·
        have e0 : rdf_c0 a p b c q d = ([(3 : Int)]) := ((bif_f hq0 _ _).trans ((bif_f hq1 _ _).trans ((bif_t hq2 _ _).trans rfl))); rw [e0]; exact rdf_p6 a p b c q d hq0 hq1 hq2
      ·
        have e0 : rdf_c0 a p b c q d = (([] : List Int)) := ((bif_f hq0 _ _).trans ((bif_f hq1 _ _).trans ((bif_f hq2 _ _).trans rfl))); rw [e0]; exact rdf_p7 a p b c q d hq0 hq1 hq2

end Go.Proofs.Ytkoopcjdpcpknaa
