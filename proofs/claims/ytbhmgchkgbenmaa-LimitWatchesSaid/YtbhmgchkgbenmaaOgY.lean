import Derived.Test.YtbhmgchkgbenmaaLX
import Derived.Test.YtbhmgchkgbenmaaOgK
set_option linter.unnecessarySimpa false
set_option linter.unusedSimpArgs false
set_option linter.unusedVariables false
namespace Go.Proofs.Ytbhmgchkgbenmaa
open Go Go.RowKit IntKind FloatKind
set_option maxHeartbeats 8000000
set_option maxRecDepth 100000
attribute [local irreducible] cAll wX cL tW
theorem wpD (xs : List Mv) (u v : Int)  : KnownR Try.prog [] 13 [.list (rowA gM xs) xs.length, .val (.int .i64 u), .val (.int .i64 v)] (.tuple #[.agg #[.int .i64 (tW xs u v).1, .int .i64 (tW xs u v).2], .int .i64 (wX xs u v)]) ([]) := watch_p xs u v
noncomputable def wpD_A (p : List Mv × Int × Int × Nat × Unit) : List D := match p with
 | (xs, u, v, nn0, _) => [.list (rowA gM xs) nn0, .val (.int .i64 u), .val (.int .i64 v)]
noncomputable def wpD_C (p : List Mv × Int × Int × Nat × Unit) : Prop := match p with
 | (xs, u, v, nn0, _) => (nn0 = xs.length) ∧ True
noncomputable def wpD_R (p : List Mv × Int × Int × Nat × Unit) : Value × Outs := match p with
 | (xs, u, v, nn0, _) => (.tuple #[.agg #[.int .i64 (tW xs u v).1, .int .i64 (tW xs u v).2], .int .i64 (wX xs u v)], [])
theorem wpD_inj : ∀ p q, wpD_C p → wpD_C q → wpD_A p = wpD_A q → wpD_R p = wpD_R q := by
 rintro ⟨xs, u, v, nn0, _⟩ ⟨xs', u', v', nn0', _⟩ _ _ e
 simp only [wpD_A, List.cons.injEq, D.list.injEq, D.val.injEq, D.agg.injEq, Value.int.injEq, Value.bool.injEq, Value.string.injEq, Value.agg.injEq, Array.mk.injEq, and_true, true_and, gI_inj, gB_inj, gM_inj] at e
 simp_all
noncomputable def wpD_k : List D → Option (Value × Outs) := fnP wpD_A wpD_C wpD_R
theorem wpD_n (xs : List Mv) (u v : Int) (nn0 : Nat) (hn0 : nn0 = xs.length)  : KnownR Try.prog [] 13 [.list (rowA gM xs) nn0, .val (.int .i64 u), .val (.int .i64 v)] (.tuple #[.agg #[.int .i64 (tW xs u v).1, .int .i64 (tW xs u v).2], .int .i64 (wX xs u v)]) ([]) := by
 subst hn0; skip
 exact wpD _ _ _ 
theorem wpD_ok : ∀ ds v bs, wpD_k ds = some (v, bs) → KnownR Try.prog [] 13 ds v bs := fnP_ok (by
 rintro ⟨xs, u, v, nn0, _⟩ ⟨hn0, _⟩
 exact wpD_n _ _ _ _ hn0 )
theorem wpD_at (xs : List Mv) (u v : Int) (nn0 : Nat) (hn0 : nn0 = xs.length)  : wpD_k [.list (rowA gM xs) nn0, .val (.int .i64 u), .val (.int .i64 v)] = some (.tuple #[.agg #[.int .i64 (tW xs u v).1, .int .i64 (tW xs u v).2], .int .i64 (wX xs u v)], []) := fnP_at (p := (xs, u, v, nn0, ())) wpD_inj ⟨hn0, trivial⟩ rfl rfl
theorem wrD (xs : List Mv) (u v : Int)  : KnownR Try.prog [] 14 [.list (rowA gM xs) xs.length, .val (.int .i64 u), .val (.int .i64 v)] (.tuple #[.agg #[.int .i64 (tW xs u v).1, .int .i64 (tW xs u v).2], .int .i64 (wX xs u v)]) ([]) := watch_r xs u v
noncomputable def wrD_A (p : List Mv × Int × Int × Nat × Unit) : List D := match p with
 | (xs, u, v, nn0, _) => [.list (rowA gM xs) nn0, .val (.int .i64 u), .val (.int .i64 v)]
noncomputable def wrD_C (p : List Mv × Int × Int × Nat × Unit) : Prop := match p with
 | (xs, u, v, nn0, _) => (nn0 = xs.length) ∧ True
noncomputable def wrD_R (p : List Mv × Int × Int × Nat × Unit) : Value × Outs := match p with
 | (xs, u, v, nn0, _) => (.tuple #[.agg #[.int .i64 (tW xs u v).1, .int .i64 (tW xs u v).2], .int .i64 (wX xs u v)], [])
theorem wrD_inj : ∀ p q, wrD_C p → wrD_C q → wrD_A p = wrD_A q → wrD_R p = wrD_R q := by
 rintro ⟨xs, u, v, nn0, _⟩ ⟨xs', u', v', nn0', _⟩ _ _ e
 simp only [wrD_A, List.cons.injEq, D.list.injEq, D.val.injEq, D.agg.injEq, Value.int.injEq, Value.bool.injEq, Value.string.injEq, Value.agg.injEq, Array.mk.injEq, and_true, true_and, gI_inj, gB_inj, gM_inj] at e
 simp_all
noncomputable def wrD_k : List D → Option (Value × Outs) := fnP wrD_A wrD_C wrD_R
theorem wrD_n (xs : List Mv) (u v : Int) (nn0 : Nat) (hn0 : nn0 = xs.length)  : KnownR Try.prog [] 14 [.list (rowA gM xs) nn0, .val (.int .i64 u), .val (.int .i64 v)] (.tuple #[.agg #[.int .i64 (tW xs u v).1, .int .i64 (tW xs u v).2], .int .i64 (wX xs u v)]) ([]) := by
 subst hn0; skip
 exact wrD _ _ _ 
theorem wrD_ok : ∀ ds v bs, wrD_k ds = some (v, bs) → KnownR Try.prog [] 14 ds v bs := fnP_ok (by
 rintro ⟨xs, u, v, nn0, _⟩ ⟨hn0, _⟩
 exact wrD_n _ _ _ _ hn0 )
theorem wrD_at (xs : List Mv) (u v : Int) (nn0 : Nat) (hn0 : nn0 = xs.length)  : wrD_k [.list (rowA gM xs) nn0, .val (.int .i64 u), .val (.int .i64 v)] = some (.tuple #[.agg #[.int .i64 (tW xs u v).1, .int .i64 (tW xs u v).2], .int .i64 (wX xs u v)], []) := fnP_at (p := (xs, u, v, nn0, ())) wrD_inj ⟨hn0, trivial⟩ rfl rfl
theorem cpD (xs : List Mv) (u v : Int)  : KnownR Try.prog [] 15 [.list (rowA gM xs) xs.length, .val (.int .i64 u), .val (.int .i64 v)] (.tuple #[.complex .f64 0 (cL xs u v).length, .int .i64 (wX xs u v)]) ([(rowA gI (cL xs u v), 3)]) := counts_p xs u v
noncomputable def cpD_A (p : List Mv × Int × Int × Nat × Unit) : List D := match p with
 | (xs, u, v, nn0, _) => [.list (rowA gM xs) nn0, .val (.int .i64 u), .val (.int .i64 v)]
noncomputable def cpD_C (p : List Mv × Int × Int × Nat × Unit) : Prop := match p with
 | (xs, u, v, nn0, _) => (nn0 = xs.length) ∧ True
noncomputable def cpD_R (p : List Mv × Int × Int × Nat × Unit) : Value × Outs := match p with
 | (xs, u, v, nn0, _) => (.tuple #[.complex .f64 0 (cL xs u v).length, .int .i64 (wX xs u v)], [(rowA gI (cL xs u v), 3)])
theorem cpD_inj : ∀ p q, cpD_C p → cpD_C q → cpD_A p = cpD_A q → cpD_R p = cpD_R q := by
 rintro ⟨xs, u, v, nn0, _⟩ ⟨xs', u', v', nn0', _⟩ _ _ e
 simp only [cpD_A, List.cons.injEq, D.list.injEq, D.val.injEq, D.agg.injEq, Value.int.injEq, Value.bool.injEq, Value.string.injEq, Value.agg.injEq, Array.mk.injEq, and_true, true_and, gI_inj, gB_inj, gM_inj] at e
 simp_all
noncomputable def cpD_k : List D → Option (Value × Outs) := fnP cpD_A cpD_C cpD_R
theorem cpD_n (xs : List Mv) (u v : Int) (nn0 : Nat) (hn0 : nn0 = xs.length)  : KnownR Try.prog [] 15 [.list (rowA gM xs) nn0, .val (.int .i64 u), .val (.int .i64 v)] (.tuple #[.complex .f64 0 (cL xs u v).length, .int .i64 (wX xs u v)]) ([(rowA gI (cL xs u v), 3)]) := by
 subst hn0; skip
 exact cpD _ _ _ 
theorem cpD_ok : ∀ ds v bs, cpD_k ds = some (v, bs) → KnownR Try.prog [] 15 ds v bs := fnP_ok (by
 rintro ⟨xs, u, v, nn0, _⟩ ⟨hn0, _⟩
 exact cpD_n _ _ _ _ hn0 )
theorem cpD_at (xs : List Mv) (u v : Int) (nn0 : Nat) (hn0 : nn0 = xs.length)  : cpD_k [.list (rowA gM xs) nn0, .val (.int .i64 u), .val (.int .i64 v)] = some (.tuple #[.complex .f64 0 (cL xs u v).length, .int .i64 (wX xs u v)], [(rowA gI (cL xs u v), 3)]) := fnP_at (p := (xs, u, v, nn0, ())) cpD_inj ⟨hn0, trivial⟩ rfl rfl
theorem crD (xs : List Mv) (u v : Int)  : KnownR Try.prog [] 16 [.list (rowA gM xs) xs.length, .val (.int .i64 u), .val (.int .i64 v)] (.tuple #[.complex .f64 0 (cL xs u v).length, .int .i64 (wX xs u v)]) ([(rowA gI (cL xs u v), 3)]) := counts_r xs u v
noncomputable def crD_A (p : List Mv × Int × Int × Nat × Unit) : List D := match p with
 | (xs, u, v, nn0, _) => [.list (rowA gM xs) nn0, .val (.int .i64 u), .val (.int .i64 v)]
noncomputable def crD_C (p : List Mv × Int × Int × Nat × Unit) : Prop := match p with
 | (xs, u, v, nn0, _) => (nn0 = xs.length) ∧ True
noncomputable def crD_R (p : List Mv × Int × Int × Nat × Unit) : Value × Outs := match p with
 | (xs, u, v, nn0, _) => (.tuple #[.complex .f64 0 (cL xs u v).length, .int .i64 (wX xs u v)], [(rowA gI (cL xs u v), 3)])
theorem crD_inj : ∀ p q, crD_C p → crD_C q → crD_A p = crD_A q → crD_R p = crD_R q := by
 rintro ⟨xs, u, v, nn0, _⟩ ⟨xs', u', v', nn0', _⟩ _ _ e
 simp only [crD_A, List.cons.injEq, D.list.injEq, D.val.injEq, D.agg.injEq, Value.int.injEq, Value.bool.injEq, Value.string.injEq, Value.agg.injEq, Array.mk.injEq, and_true, true_and, gI_inj, gB_inj, gM_inj] at e
 simp_all
noncomputable def crD_k : List D → Option (Value × Outs) := fnP crD_A crD_C crD_R
theorem crD_n (xs : List Mv) (u v : Int) (nn0 : Nat) (hn0 : nn0 = xs.length)  : KnownR Try.prog [] 16 [.list (rowA gM xs) nn0, .val (.int .i64 u), .val (.int .i64 v)] (.tuple #[.complex .f64 0 (cL xs u v).length, .int .i64 (wX xs u v)]) ([(rowA gI (cL xs u v), 3)]) := by
 subst hn0; skip
 exact crD _ _ _ 
theorem crD_ok : ∀ ds v bs, crD_k ds = some (v, bs) → KnownR Try.prog [] 16 ds v bs := fnP_ok (by
 rintro ⟨xs, u, v, nn0, _⟩ ⟨hn0, _⟩
 exact crD_n _ _ _ _ hn0 )
theorem crD_at (xs : List Mv) (u v : Int) (nn0 : Nat) (hn0 : nn0 = xs.length)  : crD_k [.list (rowA gM xs) nn0, .val (.int .i64 u), .val (.int .i64 v)] = some (.tuple #[.complex .f64 0 (cL xs u v).length, .int .i64 (wX xs u v)], [(rowA gI (cL xs u v), 3)]) := fnP_at (p := (xs, u, v, nn0, ())) crD_inj ⟨hn0, trivial⟩ rfl rfl
noncomputable def tabY : GTab := (GTab.fnD 12 ownD_k (GTab.fnD 13 wpD_k (GTab.fnD 14 wrD_k (GTab.fnD 15 cpD_k (GTab.fnD 16 crD_k (GTab.fnD 18 smD_k (GTab.fnD 17 siD_k (GTab.fn1 11 (fun l => match l with | [] => some (.bool true) | _ => none) GTab.none))))))))
theorem tabY_ok : GOk Try.prog [] tabY := (GOk.fnD ownD_ok (GOk.fnD wpD_ok (GOk.fnD wrD_ok (GOk.fnD cpD_ok (GOk.fnD crD_ok (GOk.fnD smD_ok (GOk.fnD siD_ok (GOk.fn1 (known0 knLimitKnown_e0) GOk.none))))))))
noncomputable def lawW_b1 (xs : List Mv) (u v : Int) : Bool := (tW xs u v).fst == (tW xs u v).fst && (tW xs u v).snd == (tW xs u v).snd
theorem lawW_p0 (xs : List Mv) (u v : Int) (hcl : (cL xs u v).length ≤ 20000) (hq0 : (decide ((↑xs.length : Int) ≤ (200 : Int))) = true) (hq1 : (lawW_b1 xs u v) = true) (hq2 : (wX xs u v == wX xs u v) = true) : KnownR Try.prog [] 3 [.list (rowA gM xs) xs.length, .val (.int .i64 u), .val (.int .i64 v)] (.bool (true)) [] :=
 knownR_eq (v := Value.bool true) (bs := []) (open_resD mix tabY_ok (T := tabY) (fuel := 3000) (es := []) (ans := [(0, .b 1), (7, .outs (Value.complex f64 (0 : Nat) xs.length) ([(rowA gM xs, (38 : TypeId))])), (8, .outs (Value.tuple #[Value.agg #[Value.int i64 (tW xs u v).fst, Value.int i64 (tW xs u v).snd], Value.int i64 (wX xs u v)]) ([])), (9, .outs (Value.tuple #[Value.agg #[Value.int i64 (tW xs u v).fst, Value.int i64 (tW xs u v).snd], Value.int i64 (wX xs u v)]) ([])), (10, .outs (Value.tuple #[Value.complex f64 (0 : Nat) (cL xs u v).length, Value.int i64 (wX xs u v)]) ([(rowA gI (cL xs u v), (3 : TypeId))])), (11, .outs (Value.tuple #[Value.complex f64 (0 : Nat) (cL xs u v).length, Value.int i64 (wX xs u v)]) ([(rowA gI (cL xs u v), (3 : TypeId))])), (12, .b 1), (16, .b 1), (19, .outs (Value.bool true) ([])), (25, .b 1), (28, .outs (Value.bool true) ([]))]) (log := [(GTab.lookD (tabY) ((18 : Nat)) ([D.list (rowA gM xs) xs.length, D.list (rowA gM xs) xs.length])) = some (Value.bool true, []), (wX xs u v == wX xs u v) = true, (GTab.lookD (tabY) ((17 : Nat)) ([D.list (rowA gI (cL xs u v)) (cL xs u v).length, D.list (rowA gI (cL xs u v)) (cL xs u v).length])) = some (Value.bool true, []), (wX xs u v == wX xs u v) = true, (lawW_b1 xs u v) = true, (GTab.lookD (tabY) ((16 : Nat)) ([D.list (rowA gM xs) xs.length, D.val (Value.int i64 u), D.val (Value.int i64 v)])) = some (Value.tuple #[Value.complex f64 (0 : Nat) (cL xs u v).length, Value.int i64 (wX xs u v)], [(rowA gI (cL xs u v), (3 : TypeId))]), (GTab.lookD (tabY) ((15 : Nat)) ([D.list (rowA gM xs) xs.length, D.val (Value.int i64 u), D.val (Value.int i64 v)])) = some (Value.tuple #[Value.complex f64 (0 : Nat) (cL xs u v).length, Value.int i64 (wX xs u v)], [(rowA gI (cL xs u v), (3 : TypeId))]), (GTab.lookD (tabY) ((14 : Nat)) ([D.list (rowA gM xs) xs.length, D.val (Value.int i64 u), D.val (Value.int i64 v)])) = some (Value.tuple #[Value.agg #[Value.int i64 (tW xs u v).fst, Value.int i64 (tW xs u v).snd], Value.int i64 (wX xs u v)], []), (GTab.lookD (tabY) ((13 : Nat)) ([D.list (rowA gM xs) xs.length, D.val (Value.int i64 u), D.val (Value.int i64 v)])) = some (Value.tuple #[Value.agg #[Value.int i64 (tW xs u v).fst, Value.int i64 (tW xs u v).snd], Value.int i64 (wX xs u v)], []), (GTab.lookD (tabY) ((12 : Nat)) ([D.list (rowA gM xs) xs.length])) = some (Value.complex f64 (0 : Nat) xs.length, [(rowA gM xs, (38 : TypeId))]), (decide ((↑xs.length : Int) ≤ (200 : Int))) = true]) (by kernel_rfl) ⟨(smD_at (xs) (xs.length) (xs.length) (by first | rfl | assumption | omega | (simp; done) | (simp_all; done) | (simp_all; omega)) (by first | rfl | assumption | omega | (simp; done) | (simp_all; done) | (simp_all; omega)) (by first | rfl | assumption | omega | (simp; done) | (simp_all; done) | (simp_all; omega))), hq2, (siD_at (cL xs u v) ((cL xs u v).length) ((cL xs u v).length) (by first | rfl | assumption | omega | (simp; done) | (simp_all; done) | (simp_all; omega)) (by first | rfl | assumption | omega | (simp; done) | (simp_all; done) | (simp_all; omega)) (by first | rfl | assumption | omega | (simp; done) | (simp_all; done) | (simp_all; omega))), hq2, hq1, (crD_at (xs) (u) (v) (xs.length) (by first | rfl | assumption | omega | (simp; done) | (simp_all; done) | (simp_all; omega))), (cpD_at (xs) (u) (v) (xs.length) (by first | rfl | assumption | omega | (simp; done) | (simp_all; done) | (simp_all; omega))), (wrD_at (xs) (u) (v) (xs.length) (by first | rfl | assumption | omega | (simp; done) | (simp_all; done) | (simp_all; omega))), (wpD_at (xs) (u) (v) (xs.length) (by first | rfl | assumption | omega | (simp; done) | (simp_all; done) | (simp_all; omega))), (ownD_at (xs) (xs.length) (by first | rfl | assumption | omega | (simp; done) | (simp_all; done) | (simp_all; omega)) (by first | rfl | assumption | omega | (simp; done) | (simp_all; done) | (simp_all; omega))), hq0, trivial⟩ (by kernel_rfl)) (by first | rfl | (simp; done) | (simp_all; done)) (by first | rfl | (simp [rowA_nil]; done) | (simp only [rowA_eq]; rfl) | (simp_all [rowA_nil]; done))
theorem lawW_p1 (xs : List Mv) (u v : Int) (hcl : (cL xs u v).length ≤ 20000) (hq0 : (decide ((↑xs.length : Int) ≤ (200 : Int))) = false) (hq3 : (decide ((↑xs.length : Int) ≥ (9990 : Int))) = true) (hq4 : (!decide ((↑xs.length : Int) ≤ (10010 : Int))) = true) : KnownR Try.prog [] 3 [.list (rowA gM xs) xs.length, .val (.int .i64 u), .val (.int .i64 v)] (.bool (true)) [] :=
 knownR_eq (v := Value.bool true) (bs := []) (open_resD mix tabY_ok (T := tabY) (fuel := 3000) (es := []) (ans := [(0, .b 0), (4, .b 1), (10, .b 1)]) (log := [(!decide ((↑xs.length : Int) ≤ (10010 : Int))) = true, (decide ((↑xs.length : Int) ≥ (9990 : Int))) = true, (decide ((↑xs.length : Int) ≤ (200 : Int))) = false]) (by kernel_rfl) ⟨hq4, hq3, hq0, trivial⟩ (by kernel_rfl)) (by first | rfl | (simp; done) | (simp_all; done)) (by first | rfl | (simp [rowA_nil]; done) | (simp only [rowA_eq]; rfl) | (simp_all [rowA_nil]; done))
theorem lawW_p2 (xs : List Mv) (u v : Int) (hcl : (cL xs u v).length ≤ 20000) (hq0 : (decide ((↑xs.length : Int) ≤ (200 : Int))) = false) (hq3 : (decide ((↑xs.length : Int) ≥ (9990 : Int))) = true) (hq4 : (!decide ((↑xs.length : Int) ≤ (10010 : Int))) = false) (hq1 : (lawW_b1 xs u v) = true) (hq2 : (wX xs u v == wX xs u v) = true) : KnownR Try.prog [] 3 [.list (rowA gM xs) xs.length, .val (.int .i64 u), .val (.int .i64 v)] (.bool (true)) [] :=
 knownR_eq (v := Value.bool true) (bs := []) (open_resD mix tabY_ok (T := tabY) (fuel := 3000) (es := []) (ans := [(0, .b 0), (4, .b 1), (10, .b 0), (11, .outs (Value.complex f64 (0 : Nat) xs.length) ([(rowA gM xs, (38 : TypeId))])), (12, .outs (Value.tuple #[Value.agg #[Value.int i64 (tW xs u v).fst, Value.int i64 (tW xs u v).snd], Value.int i64 (wX xs u v)]) ([])), (13, .outs (Value.tuple #[Value.agg #[Value.int i64 (tW xs u v).fst, Value.int i64 (tW xs u v).snd], Value.int i64 (wX xs u v)]) ([])), (14, .outs (Value.tuple #[Value.complex f64 (0 : Nat) (cL xs u v).length, Value.int i64 (wX xs u v)]) ([(rowA gI (cL xs u v), (3 : TypeId))])), (15, .outs (Value.tuple #[Value.complex f64 (0 : Nat) (cL xs u v).length, Value.int i64 (wX xs u v)]) ([(rowA gI (cL xs u v), (3 : TypeId))])), (16, .b 1), (20, .b 1), (23, .outs (Value.bool true) ([])), (29, .b 1), (32, .outs (Value.bool true) ([]))]) (log := [(GTab.lookD (tabY) ((18 : Nat)) ([D.list (rowA gM xs) xs.length, D.list (rowA gM xs) xs.length])) = some (Value.bool true, []), (wX xs u v == wX xs u v) = true, (GTab.lookD (tabY) ((17 : Nat)) ([D.list (rowA gI (cL xs u v)) (cL xs u v).length, D.list (rowA gI (cL xs u v)) (cL xs u v).length])) = some (Value.bool true, []), (wX xs u v == wX xs u v) = true, (lawW_b1 xs u v) = true, (GTab.lookD (tabY) ((16 : Nat)) ([D.list (rowA gM xs) xs.length, D.val (Value.int i64 u), D.val (Value.int i64 v)])) = some (Value.tuple #[Value.complex f64 (0 : Nat) (cL xs u v).length, Value.int i64 (wX xs u v)], [(rowA gI (cL xs u v), (3 : TypeId))]), (GTab.lookD (tabY) ((15 : Nat)) ([D.list (rowA gM xs) xs.length, D.val (Value.int i64 u), D.val (Value.int i64 v)])) = some (Value.tuple #[Value.complex f64 (0 : Nat) (cL xs u v).length, Value.int i64 (wX xs u v)], [(rowA gI (cL xs u v), (3 : TypeId))]), (GTab.lookD (tabY) ((14 : Nat)) ([D.list (rowA gM xs) xs.length, D.val (Value.int i64 u), D.val (Value.int i64 v)])) = some (Value.tuple #[Value.agg #[Value.int i64 (tW xs u v).fst, Value.int i64 (tW xs u v).snd], Value.int i64 (wX xs u v)], []), (GTab.lookD (tabY) ((13 : Nat)) ([D.list (rowA gM xs) xs.length, D.val (Value.int i64 u), D.val (Value.int i64 v)])) = some (Value.tuple #[Value.agg #[Value.int i64 (tW xs u v).fst, Value.int i64 (tW xs u v).snd], Value.int i64 (wX xs u v)], []), (GTab.lookD (tabY) ((12 : Nat)) ([D.list (rowA gM xs) xs.length])) = some (Value.complex f64 (0 : Nat) xs.length, [(rowA gM xs, (38 : TypeId))]), (!decide ((↑xs.length : Int) ≤ (10010 : Int))) = false, (decide ((↑xs.length : Int) ≥ (9990 : Int))) = true, (decide ((↑xs.length : Int) ≤ (200 : Int))) = false]) (by kernel_rfl) ⟨(smD_at (xs) (xs.length) (xs.length) (by first | rfl | assumption | omega | (simp; done) | (simp_all; done) | (simp_all; omega)) (by first | rfl | assumption | omega | (simp; done) | (simp_all; done) | (simp_all; omega)) (by first | rfl | assumption | omega | (simp; done) | (simp_all; done) | (simp_all; omega))), hq2, (siD_at (cL xs u v) ((cL xs u v).length) ((cL xs u v).length) (by first | rfl | assumption | omega | (simp; done) | (simp_all; done) | (simp_all; omega)) (by first | rfl | assumption | omega | (simp; done) | (simp_all; done) | (simp_all; omega)) (by first | rfl | assumption | omega | (simp; done) | (simp_all; done) | (simp_all; omega))), hq2, hq1, (crD_at (xs) (u) (v) (xs.length) (by first | rfl | assumption | omega | (simp; done) | (simp_all; done) | (simp_all; omega))), (cpD_at (xs) (u) (v) (xs.length) (by first | rfl | assumption | omega | (simp; done) | (simp_all; done) | (simp_all; omega))), (wrD_at (xs) (u) (v) (xs.length) (by first | rfl | assumption | omega | (simp; done) | (simp_all; done) | (simp_all; omega))), (wpD_at (xs) (u) (v) (xs.length) (by first | rfl | assumption | omega | (simp; done) | (simp_all; done) | (simp_all; omega))), (ownD_at (xs) (xs.length) (by first | rfl | assumption | omega | (simp; done) | (simp_all; done) | (simp_all; omega)) (by first | rfl | assumption | omega | (simp; done) | (simp_all; done) | (simp_all; omega))), hq4, hq3, hq0, trivial⟩ (by kernel_rfl)) (by first | rfl | (simp; done) | (simp_all; done)) (by first | rfl | (simp [rowA_nil]; done) | (simp only [rowA_eq]; rfl) | (simp_all [rowA_nil]; done))
theorem lawW_p3 (xs : List Mv) (u v : Int) (hcl : (cL xs u v).length ≤ 20000) (hq0 : (decide ((↑xs.length : Int) ≤ (200 : Int))) = false) (hq3 : (decide ((↑xs.length : Int) ≥ (9990 : Int))) = false) : KnownR Try.prog [] 3 [.list (rowA gM xs) xs.length, .val (.int .i64 u), .val (.int .i64 v)] (.bool (true)) [] :=
 knownR_eq (v := Value.bool true) (bs := []) (open_resD mix tabY_ok (T := tabY) (fuel := 3000) (es := []) (ans := [(0, .b 0), (4, .b 0)]) (log := [(decide ((↑xs.length : Int) ≥ (9990 : Int))) = false, (decide ((↑xs.length : Int) ≤ (200 : Int))) = false]) (by kernel_rfl) ⟨hq3, hq0, trivial⟩ (by kernel_rfl)) (by first | rfl | (simp; done) | (simp_all; done)) (by first | rfl | (simp [rowA_nil]; done) | (simp only [rowA_eq]; rfl) | (simp_all [rowA_nil]; done))
set_option maxHeartbeats 8000000 in
theorem lawW (xs : List Mv) (u v : Int) (hcl : (cL xs u v).length ≤ 20000) : KnownR Try.prog [] 3 [.list (rowA gM xs) xs.length, .val (.int .i64 u), .val (.int .i64 v)] (.bool (true)) [] := by
 rcases Bool.eq_false_or_eq_true (decide ((↑xs.length : Int) ≤ (200 : Int))) with hq0 | hq0
 ·
  have hq1 : (lawW_b1 xs u v) = true := by
   rcases Bool.eq_false_or_eq_true (lawW_b1 xs u v) with h | h
   ·exact h
   ·exfalso; (try simp only [lawW_b1] at *); (first | (simp_all only [Bool.and_eq_true, Bool.not_eq_true', Bool.false_eq_true, Bool.true_eq_false, reduceCtorEq]; done) | (simp only [sx, sy, eq_self, ne_eq, IntKind.wrap_i64, wrapU64, Int.reduceLT] at * <;> first | contradiction | omega) | omega | ((try simp only [sx, sy, eq_self, ne_eq, IntKind.wrap_i64, wrapU64, Int.reduceLT] at *) <;> omega) | (simp_all; done))
  have hq2 : (wX xs u v == wX xs u v) = true := by
   rcases Bool.eq_false_or_eq_true (wX xs u v == wX xs u v) with h | h
   ·exact h
   ·exfalso; (try simp only [lawW_b1] at *); (first | (simp_all only [Bool.and_eq_true, Bool.not_eq_true', Bool.false_eq_true, Bool.true_eq_false, reduceCtorEq]; done) | (simp only [sx, sy, eq_self, ne_eq, IntKind.wrap_i64, wrapU64, Int.reduceLT] at * <;> first | contradiction | omega) | omega | ((try simp only [sx, sy, eq_self, ne_eq, IntKind.wrap_i64, wrapU64, Int.reduceLT] at *) <;> omega) | (simp_all; done))
  exact lawW_p0 xs u v hcl hq0 hq1 hq2
 ·
  rcases Bool.eq_false_or_eq_true (decide ((↑xs.length : Int) ≥ (9990 : Int))) with hq3 | hq3
  ·
   rcases Bool.eq_false_or_eq_true (!decide ((↑xs.length : Int) ≤ (10010 : Int))) with hq4 | hq4
   ·
    exact lawW_p1 xs u v hcl hq0 hq3 hq4
   ·
    have hq1 : (lawW_b1 xs u v) = true := by
     rcases Bool.eq_false_or_eq_true (lawW_b1 xs u v) with h | h
     ·exact h
     ·exfalso; (try simp only [lawW_b1] at *); (first | (simp_all only [Bool.and_eq_true, Bool.not_eq_true', Bool.false_eq_true, Bool.true_eq_false, reduceCtorEq]; done) | (simp only [sx, sy, eq_self, ne_eq, IntKind.wrap_i64, wrapU64, Int.reduceLT] at * <;> first | contradiction | omega) | omega | ((try simp only [sx, sy, eq_self, ne_eq, IntKind.wrap_i64, wrapU64, Int.reduceLT] at *) <;> omega) | (simp_all; done))
    have hq2 : (wX xs u v == wX xs u v) = true := by
     rcases Bool.eq_false_or_eq_true (wX xs u v == wX xs u v) with h | h
     ·exact h
     ·exfalso; (try simp only [lawW_b1] at *); (first | (simp_all only [Bool.and_eq_true, Bool.not_eq_true', Bool.false_eq_true, Bool.true_eq_false, reduceCtorEq]; done) | (simp only [sx, sy, eq_self, ne_eq, IntKind.wrap_i64, wrapU64, Int.reduceLT] at * <;> first | contradiction | omega) | omega | ((try simp only [sx, sy, eq_self, ne_eq, IntKind.wrap_i64, wrapU64, Int.reduceLT] at *) <;> omega) | (simp_all; done))
    exact lawW_p2 xs u v hcl hq0 hq3 hq4 hq1 hq2
  ·
   exact lawW_p3 xs u v hcl hq0 hq3
end Go.Proofs.Ytbhmgchkgbenmaa
