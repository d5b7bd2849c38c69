/- Layer 17: chains are changed. -/
import Derived.Test.YtbcbldpppjbkhaaQA
import Derived.ProofKit
import Derived.IntWalk
namespace Go.Proofs.Ytbcbldpppjbkhaa
open Go Go.RowKit
set_option linter.unusedVariables false
set_option linter.unusedSimpArgs false
set_option linter.unnecessarySimpa false
set_option maxHeartbeats 8000000
set_option maxRecDepth 100000
theorem ckD (c : Bool) (l : List Bool)  : KnownR Try.prog [] 25 [.agg [.val (.bool c), .list (rowA gB l) l.length]] (.int .i64 (ckC c l)) ([]) := check_is c l
noncomputable def ckD_A (p : Bool × List Bool × Nat × Unit) : List D := match p with
  | (c, l, nn0, _) => [.agg [.val (.bool c), .list (rowA gB l) nn0]]
noncomputable def ckD_C (p : Bool × List Bool × Nat × Unit) : Prop := match p with
  | (c, l, nn0, _) => (nn0 = l.length) ∧ True
noncomputable def ckD_R (p : Bool × List Bool × Nat × Unit) : Value × Outs := match p with
  | (c, l, nn0, _) => (.int .i64 (ckC c l), [])
theorem ckD_inj : ∀ p q, ckD_C p → ckD_C q → ckD_A p = ckD_A q → ckD_R p = ckD_R q := by
  rintro ⟨c, l, nn0, _⟩ ⟨c', l', nn0', _⟩ _ _ e
  simp only [ckD_A, List.cons.injEq, D.list.injEq, D.val.injEq, D.agg.injEq, Value.int.injEq, Value.bool.injEq, Value.string.injEq, Value.agg.injEq, Array.mk.injEq, and_true, true_and, gI_inj, gB_inj] at e
  simp_all
noncomputable def ckD_k : List D → Option (Value × Outs) := fnP ckD_A ckD_C ckD_R
theorem ckD_n (c : Bool) (l : List Bool) (nn0 : Nat) (hn0 : nn0 = l.length)  : KnownR Try.prog [] 25 [.agg [.val (.bool c), .list (rowA gB l) nn0]] (.int .i64 (ckC c l)) ([]) := by
  subst hn0; skip
  exact ckD _ _ 
theorem ckD_ok : ∀ ds v bs, ckD_k ds = some (v, bs) → KnownR Try.prog [] 25 ds v bs := fnP_ok (by
  rintro ⟨c, l, nn0, _⟩ ⟨hn0, _⟩
  exact ckD_n _ _ _ hn0 )
theorem ckD_at (c : Bool) (l : List Bool) (nn0 : Nat) (hn0 : nn0 = l.length)  : ckD_k [.agg [.val (.bool c), .list (rowA gB l) nn0]] = some (.int .i64 (ckC c l), []) := fnP_at (p := (c, l, nn0, ())) ckD_inj ⟨hn0, trivial⟩ rfl rfl
theorem msD (c : Bool) (l : List Bool) (hl : 2 ≤ (l.length : Int) ∧ (l.length : Int) ≤ 64) : KnownR Try.prog [] 41 [.agg [.list (rowA gB l) l.length, .val (.bool c)]] (.complex .f64 0 (mis c l).length) ([(rowA gI (mis c l), 3)]) := missing_is c l hl
noncomputable def msD_A (p : Bool × List Bool × Nat × Unit) : List D := match p with
  | (c, l, nn0, _) => [.agg [.list (rowA gB l) nn0, .val (.bool c)]]
noncomputable def msD_C (p : Bool × List Bool × Nat × Unit) : Prop := match p with
  | (c, l, nn0, _) => (nn0 = l.length) ∧ (2 ≤ (l.length : Int) ∧ (l.length : Int) ≤ 64) ∧ True
noncomputable def msD_R (p : Bool × List Bool × Nat × Unit) : Value × Outs := match p with
  | (c, l, nn0, _) => (.complex .f64 0 (mis c l).length, [(rowA gI (mis c l), 3)])
theorem msD_inj : ∀ p q, msD_C p → msD_C q → msD_A p = msD_A q → msD_R p = msD_R q := by
  rintro ⟨c, l, nn0, _⟩ ⟨c', l', nn0', _⟩ _ _ e
  simp only [msD_A, List.cons.injEq, D.list.injEq, D.val.injEq, D.agg.injEq, Value.int.injEq, Value.bool.injEq, Value.string.injEq, Value.agg.injEq, Array.mk.injEq, and_true, true_and, gI_inj, gB_inj] at e
  simp_all
noncomputable def msD_k : List D → Option (Value × Outs) := fnP msD_A msD_C msD_R
theorem msD_n (c : Bool) (l : List Bool) (nn0 : Nat) (hn0 : nn0 = l.length) (hl : 2 ≤ (l.length : Int) ∧ (l.length : Int) ≤ 64) : KnownR Try.prog [] 41 [.agg [.list (rowA gB l) nn0, .val (.bool c)]] (.complex .f64 0 (mis c l).length) ([(rowA gI (mis c l), 3)]) := by
  subst hn0; skip
  exact msD _ _ hl
theorem msD_ok : ∀ ds v bs, msD_k ds = some (v, bs) → KnownR Try.prog [] 41 ds v bs := fnP_ok (by
  rintro ⟨c, l, nn0, _⟩ ⟨hn0, hl, _⟩
  exact msD_n _ _ _ hn0 hl)
theorem msD_at (c : Bool) (l : List Bool) (nn0 : Nat) (hn0 : nn0 = l.length) (hl : 2 ≤ (l.length : Int) ∧ (l.length : Int) ≤ 64) : msD_k [.agg [.list (rowA gB l) nn0, .val (.bool c)]] = some (.complex .f64 0 (mis c l).length, [(rowA gI (mis c l), 3)]) := fnP_at (p := (c, l, nn0, ())) msD_inj ⟨hn0, hl, trivial⟩ rfl rfl
theorem nwD (n : Int) (hn : 2 ≤ n ∧ n ≤ 64) : KnownR Try.prog [] 17 [.val (.int .i64 n)] (.tuple #[.agg #[.bool true, .complex .f64 0 (List.replicate n.toNat true).length], .int .i64 0]) ([(rowA gB (List.replicate n.toNat true), 4)]) := new_is n hn
noncomputable def nwD_A (p : Int × Unit) : List D := match p with
  | (n, _) => [.val (.int .i64 n)]
noncomputable def nwD_C (p : Int × Unit) : Prop := match p with
  | (n, _) => (2 ≤ n ∧ n ≤ 64) ∧ True
noncomputable def nwD_R (p : Int × Unit) : Value × Outs := match p with
  | (n, _) => (.tuple #[.agg #[.bool true, .complex .f64 0 (List.replicate n.toNat true).length], .int .i64 0], [(rowA gB (List.replicate n.toNat true), 4)])
theorem nwD_inj : ∀ p q, nwD_C p → nwD_C q → nwD_A p = nwD_A q → nwD_R p = nwD_R q := by
  rintro ⟨n, _⟩ ⟨n', _⟩ _ _ e
  simp only [nwD_A, List.cons.injEq, D.list.injEq, D.val.injEq, D.agg.injEq, Value.int.injEq, Value.bool.injEq, Value.string.injEq, Value.agg.injEq, Array.mk.injEq, and_true, true_and, gI_inj, gB_inj] at e
  simp_all
noncomputable def nwD_k : List D → Option (Value × Outs) := fnP nwD_A nwD_C nwD_R
theorem nwD_n (n : Int)   (hn : 2 ≤ n ∧ n ≤ 64) : KnownR Try.prog [] 17 [.val (.int .i64 n)] (.tuple #[.agg #[.bool true, .complex .f64 0 (List.replicate n.toNat true).length], .int .i64 0]) ([(rowA gB (List.replicate n.toNat true), 4)]) := by
  skip
  exact nwD _ hn
theorem nwD_ok : ∀ ds v bs, nwD_k ds = some (v, bs) → KnownR Try.prog [] 17 ds v bs := fnP_ok (by
  rintro ⟨n, _⟩ ⟨hn, _⟩
  exact nwD_n _  hn)
theorem nwD_at (n : Int)   (hn : 2 ≤ n ∧ n ≤ 64) : nwD_k [.val (.int .i64 n)] = some (.tuple #[.agg #[.bool true, .complex .f64 0 (List.replicate n.toNat true).length], .int .i64 0], [(rowA gB (List.replicate n.toNat true), 4)]) := fnP_at (p := (n, ())) nwD_inj ⟨hn, trivial⟩ rfl rfl
noncomputable def tabA : GTab := (GTab.fnD 25 ckD_k (GTab.fnD 41 msD_k (GTab.fnD 17 nwD_k GTab.none)))
theorem tabA_ok : GOk Try.prog [] tabA := (GOk.fnD ckD_ok (GOk.fnD msD_ok (GOk.fnD nwD_ok GOk.none)))
noncomputable def ulG_c1 (c : Bool) (l : List Bool) (f : Int) : List Bool := (l.set f.toNat false)
theorem ulG_p0 (c : Bool) (l : List Bool) (f : Int) (hl : 2 ≤ (l.length : Int) ∧ (l.length : Int) ≤ 64) (hc : ckC c l = 0) (hf1 : 0 ≤ f ∧ f < (l.length : Int)) (hm : (mis c l).length = 0) (hq0 : (ckC c l != (0 : Int)) = false) (hq1 : (decide (f < (0 : Int))) = false) (hq2 : (decide (f ≥ (↑l.length : Int))) = false) (hq3 : (decide ((↑(mis c l).length : Int) > (0 : Int))) = false) (hq4 : (decide (l.length * (1 : Nat) < (1000000000 : Nat))) = true) (hq5 : (f != (-1 : Int)) = true) (hq6 : (decide ((0 : Int) ≤ f)) = true) (hq7 : (decide (f < (↑l.length : Int))) = true) : KnownR Try.prog [] 18 [.agg [.val (.bool c), .list (rowA gB l) l.length], .val (.int .i64 f)] (.tuple #[(.agg #[(.bool (false)), (.complex .f64 0 ((l.set f.toNat false)).length)]), (.int .i64 ((0 : Int)))]) [(rowA gB ((l.set f.toNat false)), 4)] :=
  knownR_eq (v := Value.tuple { toList := [Value.agg { toList := [Value.bool false, Value.complex FloatKind.f64 (nat_lit 0) l.length] }, Value.int IntKind.i64 (0 : Int)] }) (bs := [(rowA gB (l.set f.toNat false), nat_lit 4)]) (open_resD mix tabA_ok (T := tabA) (fuel := 3000) (es := [4]) (ans := [(0, .outs (Value.int IntKind.i64 (ckC c l)) ([])), (1, .b 0), (2, .b 0), (8, .b 0), (9, .outs (Value.complex FloatKind.f64 (0 : Nat) (mis c l).length) ([(rowA gI (mis c l), (3 : TypeId))])), (10, .b 0), (11, .vals (List.flatMap (gB) (l))), (12, .b 1), (13, .arr (rowA (gB) (l))), (14, .b 1), (15, .b 1), (16, .b 1), (17, .yes), (18, .arr (rowA (gB) (l.set f.toNat false)))]) (log := [spliceC (rowA (gB) (l)) (((f).toNat) * 1 + 0) ([Value.bool false]) = rowA (gB) (l.set f.toNat false), (Nat.ble (Nat.add (((f).toNat) * 1 + 0) 1) (rowA (gB) (l)).size) = true, (decide (f < (↑l.length : Int))) = true, (decide ((0 : Int) ≤ f)) = true, (f != (-1 : Int)) = true, (List.flatMap (gB) (l)).toArray = rowA (gB) (l), (decide (l.length * (1 : Nat) < (1000000000 : Nat))) = true, segC (rowA (gB) (l)) 0 ((l.length) * 1) = some (List.flatMap (gB) (l)), (decide ((↑(mis c l).length : Int) > (0 : Int))) = false, (GTab.lookD (tabA) ((41 : Nat)) ([D.agg [D.list (rowA gB l) l.length, D.val (Value.bool c)]])) = some (Value.complex FloatKind.f64 (0 : Nat) (mis c l).length, [(rowA gI (mis c l), (3 : TypeId))]), (decide (f ≥ (↑l.length : Int))) = false, (decide (f < (0 : Int))) = false, (ckC c l != (0 : Int)) = false, (GTab.lookD (tabA) ((25 : Nat)) ([D.agg [D.val (Value.bool c), D.list (rowA gB l) l.length]])) = some (Value.int IntKind.i64 (ckC c l), [])]) (by kernel_rfl) ⟨(row_set (g := (gB)) (k := 1) (fun _ => rfl) (by first | exact of_decide_eq_true hq6 | simpa using of_decide_eq_true hq6) (by first | exact of_decide_eq_true hq7 | (simpa using of_decide_eq_true hq7; done) | (have hx1 := of_decide_eq_true hq7; have hx2 := of_decide_eq_true hi; simp only [List.length_reverse, List.length_set] at *; omega)) (by decide) rfl), (fact_room (g := (gB)) (fun _ => rfl) (by first | exact of_decide_eq_true hq6 | simpa using of_decide_eq_true hq6) (by first | exact of_decide_eq_true hq7 | (simpa using of_decide_eq_true hq7; done) | (have hx1 := of_decide_eq_true hq7; have hx2 := of_decide_eq_true hi; simp only [List.length_reverse, List.length_set] at *; omega)) (by decide)), hq7, hq6, hq5, (row_new (g := (gB)) rfl), hq4, (seg_all2 (g := (gB)) (k := 1) (fun _ => rfl) (by first | rfl | simp)), hq3, (msD_at (c) (l) (l.length) (by first | rfl | assumption | omega | (simp; done) | (simp_all; done) | (simp_all; omega)) (by first | rfl | assumption | omega | (simp; done) | (simp_all; done) | (simp_all; omega))), hq2, hq1, hq0, (ckD_at (c) (l) (l.length) (by first | rfl | assumption | omega | (simp; done) | (simp_all; done) | (simp_all; omega))), trivial⟩ (by kernel_rfl)) (by first | rfl | (simp; done) | (simp_all; done)) (by first | rfl | (simp [rowA_nil]; done) | (simp only [rowA_eq]; rfl) | (simp_all [rowA_nil]; done))
set_option maxHeartbeats 8000000 in
theorem ulG (c : Bool) (l : List Bool) (f : Int) (hl : 2 ≤ (l.length : Int) ∧ (l.length : Int) ≤ 64) (hc : ckC c l = 0) (hf1 : 0 ≤ f ∧ f < (l.length : Int)) (hm : (mis c l).length = 0) : KnownR Try.prog [] 18 [.agg [.val (.bool c), .list (rowA gB l) l.length], .val (.int .i64 f)] (.tuple #[(.agg #[(.bool (false)), (.complex .f64 0 ((ulG_c1 c l f)).length)]), (.int .i64 ((0 : Int)))]) [(rowA gB ((ulG_c1 c l f)), 4)] := by
  have hq0 : (ckC c l != (0 : Int)) = false := by
    rcases Bool.eq_false_or_eq_true (ckC c l != (0 : Int)) with h | h
    · exfalso; (first | (simp_all only [Bool.and_eq_true, Bool.not_eq_true', Bool.false_eq_true, Bool.true_eq_false, reduceCtorEq]; done) | (simp only [sx, sy, eq_self, ne_eq, IntKind.wrap_i64, wrapU64, Int.reduceLT] at * <;> first | contradiction | omega) | (simp_all; done))
    · exact h
  have hq1 : (decide (f < (0 : Int))) = false := by
    rcases Bool.eq_false_or_eq_true (decide (f < (0 : Int))) with h | h
    · exfalso; (first | (simp_all only [Bool.and_eq_true, Bool.not_eq_true', Bool.false_eq_true, Bool.true_eq_false, reduceCtorEq]; done) | (simp only [sx, sy, eq_self, ne_eq, IntKind.wrap_i64, wrapU64, Int.reduceLT] at * <;> first | contradiction | omega) | (simp_all; done))
    · exact h
  have hq2 : (decide (f ≥ (↑l.length : Int))) = false := by
    rcases Bool.eq_false_or_eq_true (decide (f ≥ (↑l.length : Int))) with h | h
    · exfalso; (first | (simp_all only [Bool.and_eq_true, Bool.not_eq_true', Bool.false_eq_true, Bool.true_eq_false, reduceCtorEq]; done) | (simp only [sx, sy, eq_self, ne_eq, IntKind.wrap_i64, wrapU64, Int.reduceLT] at * <;> first | contradiction | omega) | (simp_all; done))
    · exact h
  have hq3 : (decide ((↑(mis c l).length : Int) > (0 : Int))) = false := by
    rcases Bool.eq_false_or_eq_true (decide ((↑(mis c l).length : Int) > (0 : Int))) with h | h
    · exfalso; (first | (simp_all only [Bool.and_eq_true, Bool.not_eq_true', Bool.false_eq_true, Bool.true_eq_false, reduceCtorEq]; done) | (simp only [sx, sy, eq_self, ne_eq, IntKind.wrap_i64, wrapU64, Int.reduceLT] at * <;> first | contradiction | omega) | (simp_all; done))
    · exact h
  have hq4 : (decide (l.length * (1 : Nat) < (1000000000 : Nat))) = true := by
    rcases Bool.eq_false_or_eq_true (decide (l.length * (1 : Nat) < (1000000000 : Nat))) with h | h
    · exact h
    · exfalso; (first | (simp_all only [Bool.and_eq_true, Bool.not_eq_true', Bool.false_eq_true, Bool.true_eq_false, reduceCtorEq]; done) | (simp only [sx, sy, eq_self, ne_eq, IntKind.wrap_i64, wrapU64, Int.reduceLT] at * <;> first | contradiction | omega) | (simp_all; done))
  have hq5 : (f != (-1 : Int)) = true := by
    rcases Bool.eq_false_or_eq_true (f != (-1 : Int)) with h | h
    · exact h
    · exfalso; (first | (simp_all only [Bool.and_eq_true, Bool.not_eq_true', Bool.false_eq_true, Bool.true_eq_false, reduceCtorEq]; done) | (simp only [sx, sy, eq_self, ne_eq, IntKind.wrap_i64, wrapU64, Int.reduceLT] at * <;> first | contradiction | omega) | (simp_all; done))
  have hq6 : (decide ((0 : Int) ≤ f)) = true := by
    rcases Bool.eq_false_or_eq_true (decide ((0 : Int) ≤ f)) with h | h
    · exact h
    · exfalso; (first | (simp_all only [Bool.and_eq_true, Bool.not_eq_true', Bool.false_eq_true, Bool.true_eq_false, reduceCtorEq]; done) | (simp only [sx, sy, eq_self, ne_eq, IntKind.wrap_i64, wrapU64, Int.reduceLT] at * <;> first | contradiction | omega) | (simp_all; done))
  have hq7 : (decide (f < (↑l.length : Int))) = true := by
    rcases Bool.eq_false_or_eq_true (decide (f < (↑l.length : Int))) with h | h
    · exact h
    · exfalso; (first | (simp_all only [Bool.and_eq_true, Bool.not_eq_true', Bool.false_eq_true, Bool.true_eq_false, reduceCtorEq]; done) | (simp only [sx, sy, eq_self, ne_eq, IntKind.wrap_i64, wrapU64, Int.reduceLT] at * <;> first | contradiction | omega) | (simp_all; done))
  have e1 : ulG_c1 c l f = (l.set f.toNat false) := rfl; rw [e1]; exact ulG_p0 c l f hl hc hf1 hm hq0 hq1 hq2 hq3 hq4 hq5 hq6 hq7

noncomputable def lkG_c1 (c : Bool) (l : List Bool) : List Bool := (List.replicate (↑l.length : Int).toNat true)
theorem lkG_p0 (c : Bool) (l : List Bool) (hl : 2 ≤ (l.length : Int) ∧ (l.length : Int) ≤ 64) (hc : ckC c l = 0) (hq0 : (ckC c l != (0 : Int)) = false) : KnownR Try.prog [] 14 [.agg [.val (.bool c), .list (rowA gB l) l.length]] (.tuple #[(.agg #[(.bool (true)), (.complex .f64 0 ((List.replicate (↑l.length : Int).toNat true)).length)]), (.int .i64 ((0 : Int)))]) [(rowA gB ((List.replicate (↑l.length : Int).toNat true)), 4)] :=
  knownR_eq (v := Value.tuple { toList := [Value.agg { toList := [Value.bool true, Value.complex FloatKind.f64 (nat_lit 0) (List.replicate (↑l.length : Int).toNat true).length] }, Value.int IntKind.i64 (0 : Int)] }) (bs := [(rowA gB (List.replicate (↑l.length : Int).toNat true), nat_lit 4)]) (open_resD mix tabA_ok (T := tabA) (fuel := 3000) (es := [4]) (ans := [(0, .outs (Value.int IntKind.i64 (ckC c l)) ([])), (1, .b 0), (2, .outs (Value.tuple #[Value.agg #[Value.bool true, Value.complex FloatKind.f64 (0 : Nat) (List.replicate (↑l.length : Int).toNat true).length], Value.int IntKind.i64 (0 : Int)]) ([(rowA gB (List.replicate (↑l.length : Int).toNat true), (4 : TypeId))]))]) (log := [(GTab.lookD (tabA) ((17 : Nat)) ([D.val (Value.int IntKind.i64 (↑l.length : Int))])) = some (Value.tuple #[Value.agg #[Value.bool true, Value.complex FloatKind.f64 (0 : Nat) (List.replicate (↑l.length : Int).toNat true).length], Value.int IntKind.i64 (0 : Int)], [(rowA gB (List.replicate (↑l.length : Int).toNat true), (4 : TypeId))]), (ckC c l != (0 : Int)) = false, (GTab.lookD (tabA) ((25 : Nat)) ([D.agg [D.val (Value.bool c), D.list (rowA gB l) l.length]])) = some (Value.int IntKind.i64 (ckC c l), [])]) (by kernel_rfl) ⟨(nwD_at ((↑l.length : Int)) (by first | rfl | assumption | omega | (simp; done) | (simp_all; done) | (simp_all; omega))), hq0, (ckD_at (c) (l) (l.length) (by first | rfl | assumption | omega | (simp; done) | (simp_all; done) | (simp_all; omega))), trivial⟩ (by kernel_rfl)) (by first | rfl | (simp; done) | (simp_all; done)) (by first | rfl | (simp [rowA_nil]; done) | (simp only [rowA_eq]; rfl) | (simp_all [rowA_nil]; done))
set_option maxHeartbeats 8000000 in
theorem lkG (c : Bool) (l : List Bool) (hl : 2 ≤ (l.length : Int) ∧ (l.length : Int) ≤ 64) (hc : ckC c l = 0) : KnownR Try.prog [] 14 [.agg [.val (.bool c), .list (rowA gB l) l.length]] (.tuple #[(.agg #[(.bool (true)), (.complex .f64 0 ((lkG_c1 c l)).length)]), (.int .i64 ((0 : Int)))]) [(rowA gB ((lkG_c1 c l)), 4)] := by
  have hq0 : (ckC c l != (0 : Int)) = false := by
    rcases Bool.eq_false_or_eq_true (ckC c l != (0 : Int)) with h | h
    · exfalso; (first | (simp_all only [Bool.and_eq_true, Bool.not_eq_true', Bool.false_eq_true, Bool.true_eq_false, reduceCtorEq]; done) | (simp only [sx, sy, eq_self, ne_eq, IntKind.wrap_i64, wrapU64, Int.reduceLT] at * <;> first | contradiction | omega) | (simp_all; done))
    · exact h
  have e1 : lkG_c1 c l = (List.replicate (↑l.length : Int).toNat true) := rfl; rw [e1]; exact lkG_p0 c l hl hc hq0

noncomputable def miG_c0 (c : Bool) (l : List Bool) : List Int := (mis c l)
theorem miG_p0 (c : Bool) (l : List Bool) (hl : 2 ≤ (l.length : Int) ∧ (l.length : Int) ≤ 64) (hc : ckC c l = 0) (hq0 : (ckC c l != (0 : Int)) = false) : KnownR Try.prog [] 11 [.agg [.val (.bool c), .list (rowA gB l) l.length]] (.tuple #[(.complex .f64 0 ((mis c l)).length), (.int .i64 ((0 : Int)))]) [(rowA gI ((mis c l)), 3)] :=
  knownR_eq (v := Value.tuple { toList := [Value.complex FloatKind.f64 (nat_lit 0) (mis c l).length, Value.int IntKind.i64 (0 : Int)] }) (bs := [(rowA gI (mis c l), nat_lit 3)]) (open_resD mix tabA_ok (T := tabA) (fuel := 3000) (es := [3]) (ans := [(0, .outs (Value.int IntKind.i64 (ckC c l)) ([])), (1, .b 0), (2, .outs (Value.complex FloatKind.f64 (0 : Nat) (mis c l).length) ([(rowA gI (mis c l), (3 : TypeId))]))]) (log := [(GTab.lookD (tabA) ((41 : Nat)) ([D.agg [D.list (rowA gB l) l.length, D.val (Value.bool c)]])) = some (Value.complex FloatKind.f64 (0 : Nat) (mis c l).length, [(rowA gI (mis c l), (3 : TypeId))]), (ckC c l != (0 : Int)) = false, (GTab.lookD (tabA) ((25 : Nat)) ([D.agg [D.val (Value.bool c), D.list (rowA gB l) l.length]])) = some (Value.int IntKind.i64 (ckC c l), [])]) (by kernel_rfl) ⟨(msD_at (c) (l) (l.length) (by first | rfl | assumption | omega | (simp; done) | (simp_all; done) | (simp_all; omega)) (by first | rfl | assumption | omega | (simp; done) | (simp_all; done) | (simp_all; omega))), hq0, (ckD_at (c) (l) (l.length) (by first | rfl | assumption | omega | (simp; done) | (simp_all; done) | (simp_all; omega))), trivial⟩ (by kernel_rfl)) (by first | rfl | (simp; done) | (simp_all; done)) (by first | rfl | (simp [rowA_nil]; done) | (simp only [rowA_eq]; rfl) | (simp_all [rowA_nil]; done))
set_option maxHeartbeats 8000000 in
theorem miG (c : Bool) (l : List Bool) (hl : 2 ≤ (l.length : Int) ∧ (l.length : Int) ≤ 64) (hc : ckC c l = 0) : KnownR Try.prog [] 11 [.agg [.val (.bool c), .list (rowA gB l) l.length]] (.tuple #[(.complex .f64 0 ((miG_c0 c l)).length), (.int .i64 ((0 : Int)))]) [(rowA gI ((miG_c0 c l)), 3)] := by
  have hq0 : (ckC c l != (0 : Int)) = false := by
    rcases Bool.eq_false_or_eq_true (ckC c l != (0 : Int)) with h | h
    · exfalso; (first | (simp_all only [Bool.and_eq_true, Bool.not_eq_true', Bool.false_eq_true, Bool.true_eq_false, reduceCtorEq]; done) | (simp only [sx, sy, eq_self, ne_eq, IntKind.wrap_i64, wrapU64, Int.reduceLT] at * <;> first | contradiction | omega) | (simp_all; done))
    · exact h
  have e0 : miG_c0 c l = (mis c l) := rfl; rw [e0]; exact miG_p0 c l hl hc hq0

noncomputable def maG_c0 (c : Bool) (l : List Bool) : Bool := ((↑(mis c l).length : Int) == (0 : Int))
theorem maG_p0 (c : Bool) (l : List Bool) (hl : 2 ≤ (l.length : Int) ∧ (l.length : Int) ≤ 64) (hc : ckC c l = 0) (hq0 : (ckC c l != (0 : Int)) = false) : KnownR Try.prog [] 30 [.agg [.val (.bool c), .list (rowA gB l) l.length]] (.tuple #[(.bool ((↑(mis c l).length : Int) == (0 : Int))), (.int .i64 ((0 : Int)))]) [] :=
  knownR_eq (v := Value.tuple { toList := [Value.bool ((↑(mis c l).length : Int) == (0 : Int)), Value.int IntKind.i64 (0 : Int)] }) (bs := []) (open_resD mix tabA_ok (T := tabA) (fuel := 3000) (es := []) (ans := [(0, .outs (Value.int IntKind.i64 (ckC c l)) ([])), (1, .b 0), (2, .outs (Value.complex FloatKind.f64 (0 : Nat) (mis c l).length) ([(rowA gI (mis c l), (3 : TypeId))]))]) (log := [(GTab.lookD (tabA) ((41 : Nat)) ([D.agg [D.list (rowA gB l) l.length, D.val (Value.bool c)]])) = some (Value.complex FloatKind.f64 (0 : Nat) (mis c l).length, [(rowA gI (mis c l), (3 : TypeId))]), (ckC c l != (0 : Int)) = false, (GTab.lookD (tabA) ((25 : Nat)) ([D.agg [D.val (Value.bool c), D.list (rowA gB l) l.length]])) = some (Value.int IntKind.i64 (ckC c l), [])]) (by kernel_rfl) ⟨(msD_at (c) (l) (l.length) (by first | rfl | assumption | omega | (simp; done) | (simp_all; done) | (simp_all; omega)) (by first | rfl | assumption | omega | (simp; done) | (simp_all; done) | (simp_all; omega))), hq0, (ckD_at (c) (l) (l.length) (by first | rfl | assumption | omega | (simp; done) | (simp_all; done) | (simp_all; omega))), trivial⟩ (by kernel_rfl)) (by first | rfl | (simp; done) | (simp_all; done)) (by first | rfl | (simp [rowA_nil]; done) | (simp only [rowA_eq]; rfl) | (simp_all [rowA_nil]; done))
set_option maxHeartbeats 8000000 in
theorem maG (c : Bool) (l : List Bool) (hl : 2 ≤ (l.length : Int) ∧ (l.length : Int) ≤ 64) (hc : ckC c l = 0) : KnownR Try.prog [] 30 [.agg [.val (.bool c), .list (rowA gB l) l.length]] (.tuple #[(.bool (maG_c0 c l)), (.int .i64 ((0 : Int)))]) [] := by
  have hq0 : (ckC c l != (0 : Int)) = false := by
    rcases Bool.eq_false_or_eq_true (ckC c l != (0 : Int)) with h | h
    · exfalso; (first | (simp_all only [Bool.and_eq_true, Bool.not_eq_true', Bool.false_eq_true, Bool.true_eq_false, reduceCtorEq]; done) | (simp only [sx, sy, eq_self, ne_eq, IntKind.wrap_i64, wrapU64, Int.reduceLT] at * <;> first | contradiction | omega) | (simp_all; done))
    · exact h
  have e0 : maG_c0 c l = ((↑(mis c l).length : Int) == (0 : Int)) := rfl; rw [e0]; exact maG_p0 c l hl hc hq0

end Go.Proofs.Ytbcbldpppjbkhaa
