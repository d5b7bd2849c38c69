/- Layer 17: May, Missing, Open in all cases. -/
import Derived.Test.YtbcbldpppjbkhaaQE
import Derived.Test.YtbcbldpppjbkhaaKMod
import Derived.Test.YtbcbldpppjbkhaaKnLockKnown
import Derived.ProofKit
import Derived.IntWalk
namespace Go.Proofs.Ytbcbldpppjbkhaa
open Go Go.RowKit
set_option linter.unusedVariables false
set_option linter.unusedSimpArgs false
set_option linter.unnecessarySimpa false
set_option maxHeartbeats 8000000
set_option maxRecDepth 100000
noncomputable def maA_c0 (c : Bool) (l : List Bool) : Bool := (bif (ckC c l != (0 : Int)) then (false) else ((↑(mis c l).length : Int) == (0 : Int)))
noncomputable def maA_c1 (c : Bool) (l : List Bool) : Int := (bif (ckC c l != (0 : Int)) then (ckC c l) else ((0 : Int)))
theorem maA_p0 (c : Bool) (l : List Bool) (hl : (l.length : Int) ≤ 70) (hq0 : (ckC c l != (0 : Int)) = true) (hq1 : (ckC c l == (0 : Int)) = false) : KnownR Try.prog [] 30 [.agg [.val (.bool c), .list (rowA gB l) l.length]] (.tuple #[(.bool (false)), (.int .i64 (ckC c l))]) [] :=
  knownR_eq (v := Value.tuple { toList := [Value.bool false, Value.int IntKind.i64 (ckC c l)] }) (bs := []) (open_resD mix tabH_ok (T := tabH) (fuel := 3000) (es := []) (ans := [(0, .outs (Value.int IntKind.i64 (ckC c l)) ([])), (1, .b 1), (2, .b 0)]) (log := [(ckC c l == (0 : Int)) = false, (ckC c l != (0 : Int)) = true, (GTab.lookD (tabH) ((25 : Nat)) ([D.agg [D.val (Value.bool c), D.list (rowA gB l) l.length]])) = some (Value.int IntKind.i64 (ckC c l), [])]) (by kernel_rfl) ⟨hq1, hq0, (ckD_at (c) (l) (l.length) (by first | rfl | assumption | omega | (simp; done) | (simp_all; done) | (simp_all; omega))), trivial⟩ (by kernel_rfl)) (by first | rfl | (simp; done) | (simp_all; done)) (by first | rfl | (simp [rowA_nil]; done) | (simp only [rowA_eq]; rfl) | (simp_all [rowA_nil]; done))
theorem maA_p1 (c : Bool) (l : List Bool) (hl : (l.length : Int) ≤ 70) (hq0 : (ckC c l != (0 : Int)) = false) : KnownR Try.prog [] 30 [.agg [.val (.bool c), .list (rowA gB l) l.length]] (.tuple #[(.bool ((↑(mis c l).length : Int) == (0 : Int))), (.int .i64 ((0 : Int)))]) [] :=
  knownR_eq (v := Value.tuple { toList := [Value.bool ((↑(mis c l).length : Int) == (0 : Int)), Value.int IntKind.i64 (0 : Int)] }) (bs := []) (open_resD mix tabH_ok (T := tabH) (fuel := 3000) (es := []) (ans := [(0, .outs (Value.int IntKind.i64 (ckC c l)) ([])), (1, .b 0), (2, .outs (Value.complex FloatKind.f64 (0 : Nat) (mis c l).length) ([(rowA gI (mis c l), (3 : TypeId))]))]) (log := [(GTab.lookD (tabH) ((41 : Nat)) ([D.agg [D.list (rowA gB l) l.length, D.val (Value.bool c)]])) = some (Value.complex FloatKind.f64 (0 : Nat) (mis c l).length, [(rowA gI (mis c l), (3 : TypeId))]), (ckC c l != (0 : Int)) = false, (GTab.lookD (tabH) ((25 : Nat)) ([D.agg [D.val (Value.bool c), D.list (rowA gB l) l.length]])) = some (Value.int IntKind.i64 (ckC c l), [])]) (by kernel_rfl) ⟨(mcD_at (c) (l) (l.length) (by first | rfl | assumption | omega | (simp; done) | (simp_all; done) | (simp_all; omega)) (by first | rfl | assumption | omega | (simp; done) | (simp_all; done) | (simp_all; omega))), hq0, (ckD_at (c) (l) (l.length) (by first | rfl | assumption | omega | (simp; done) | (simp_all; done) | (simp_all; omega))), trivial⟩ (by kernel_rfl)) (by first | rfl | (simp; done) | (simp_all; done)) (by first | rfl | (simp [rowA_nil]; done) | (simp only [rowA_eq]; rfl) | (simp_all [rowA_nil]; done))
set_option maxHeartbeats 8000000 in
theorem maA (c : Bool) (l : List Bool) (hl : (l.length : Int) ≤ 70) : KnownR Try.prog [] 30 [.agg [.val (.bool c), .list (rowA gB l) l.length]] (.tuple #[(.bool (maA_c0 c l)), (.int .i64 (maA_c1 c l))]) [] := by
  rcases Bool.eq_false_or_eq_true (ckC c l != (0 : Int)) with hq0 | hq0
  ·
    have hq1 : (ckC c l == (0 : Int)) = false := by
      rcases Bool.eq_false_or_eq_true (ckC c l == (0 : Int)) with h | h
      · exfalso; (first | (simp_all only [Bool.and_eq_true, Bool.not_eq_true', Bool.false_eq_true, Bool.true_eq_false, reduceCtorEq]; done) | (simp only [sx, sy, eq_self, ne_eq, IntKind.wrap_i64, wrapU64, Int.reduceLT] at * <;> first | contradiction | omega) | omega | ((try simp only [sx, sy, eq_self, ne_eq, IntKind.wrap_i64, wrapU64, Int.reduceLT] at *) <;> omega) | (simp_all; done))
      · exact h
    have e0 : maA_c0 c l = (false) := ((bif_t hq0 _ _).trans rfl); rw [e0]; have e1 : maA_c1 c l = (ckC c l) := ((bif_t hq0 _ _).trans rfl); rw [e1]; exact maA_p0 c l hl hq0 hq1
  ·
    have e0 : maA_c0 c l = ((↑(mis c l).length : Int) == (0 : Int)) := ((bif_f hq0 _ _).trans rfl); rw [e0]; have e1 : maA_c1 c l = ((0 : Int)) := ((bif_f hq0 _ _).trans rfl); rw [e1]; exact maA_p1 c l hl hq0

noncomputable def miA_c0 (c : Bool) (l : List Bool) : List Int := (bif (ckC c l != (0 : Int)) then (([] : List Int)) else (mis c l))
noncomputable def miA_c1 (c : Bool) (l : List Bool) : Int := (bif (ckC c l != (0 : Int)) then (ckC c l) else ((0 : Int)))
theorem miA_p0 (c : Bool) (l : List Bool) (hl : (l.length : Int) ≤ 70) (hq0 : (ckC c l != (0 : Int)) = true) : KnownR Try.prog [] 11 [.agg [.val (.bool c), .list (rowA gB l) l.length]] (.tuple #[(.complex .f64 0 ((([] : List Int))).length), (.int .i64 (ckC c l))]) [(rowA gI ((([] : List Int))), 3)] :=
  knownR_eq (v := Value.tuple { toList := [Value.complex FloatKind.f64 (nat_lit 0) (nat_lit 0), Value.int IntKind.i64 (ckC c l)] }) (bs := [({ toList := [] }, nat_lit 3)]) (open_resD mix tabH_ok (T := tabH) (fuel := 3000) (es := [3]) (ans := [(0, .outs (Value.int IntKind.i64 (ckC c l)) ([])), (1, .b 1)]) (log := [(ckC c l != (0 : Int)) = true, (GTab.lookD (tabH) ((25 : Nat)) ([D.agg [D.val (Value.bool c), D.list (rowA gB l) l.length]])) = some (Value.int IntKind.i64 (ckC c l), [])]) (by kernel_rfl) ⟨hq0, (ckD_at (c) (l) (l.length) (by first | rfl | assumption | omega | (simp; done) | (simp_all; done) | (simp_all; omega))), trivial⟩ (by kernel_rfl)) (by first | rfl | (simp; done) | (simp_all; done)) (by first | rfl | (simp [rowA_nil]; done) | (simp only [rowA_eq]; rfl) | (simp_all [rowA_nil]; done))
theorem miA_p1 (c : Bool) (l : List Bool) (hl : (l.length : Int) ≤ 70) (hq0 : (ckC c l != (0 : Int)) = false) : KnownR Try.prog [] 11 [.agg [.val (.bool c), .list (rowA gB l) l.length]] (.tuple #[(.complex .f64 0 ((mis c l)).length), (.int .i64 ((0 : Int)))]) [(rowA gI ((mis c l)), 3)] :=
  knownR_eq (v := Value.tuple { toList := [Value.complex FloatKind.f64 (nat_lit 0) (mis c l).length, Value.int IntKind.i64 (0 : Int)] }) (bs := [(rowA gI (mis c l), nat_lit 3)]) (open_resD mix tabH_ok (T := tabH) (fuel := 3000) (es := [3]) (ans := [(0, .outs (Value.int IntKind.i64 (ckC c l)) ([])), (1, .b 0), (2, .outs (Value.complex FloatKind.f64 (0 : Nat) (mis c l).length) ([(rowA gI (mis c l), (3 : TypeId))]))]) (log := [(GTab.lookD (tabH) ((41 : Nat)) ([D.agg [D.list (rowA gB l) l.length, D.val (Value.bool c)]])) = some (Value.complex FloatKind.f64 (0 : Nat) (mis c l).length, [(rowA gI (mis c l), (3 : TypeId))]), (ckC c l != (0 : Int)) = false, (GTab.lookD (tabH) ((25 : Nat)) ([D.agg [D.val (Value.bool c), D.list (rowA gB l) l.length]])) = some (Value.int IntKind.i64 (ckC c l), [])]) (by kernel_rfl) ⟨(mcD_at (c) (l) (l.length) (by first | rfl | assumption | omega | (simp; done) | (simp_all; done) | (simp_all; omega)) (by first | rfl | assumption | omega | (simp; done) | (simp_all; done) | (simp_all; omega))), hq0, (ckD_at (c) (l) (l.length) (by first | rfl | assumption | omega | (simp; done) | (simp_all; done) | (simp_all; omega))), trivial⟩ (by kernel_rfl)) (by first | rfl | (simp; done) | (simp_all; done)) (by first | rfl | (simp [rowA_nil]; done) | (simp only [rowA_eq]; rfl) | (simp_all [rowA_nil]; done))
set_option maxHeartbeats 8000000 in
theorem miA (c : Bool) (l : List Bool) (hl : (l.length : Int) ≤ 70) : KnownR Try.prog [] 11 [.agg [.val (.bool c), .list (rowA gB l) l.length]] (.tuple #[(.complex .f64 0 ((miA_c0 c l)).length), (.int .i64 (miA_c1 c l))]) [(rowA gI ((miA_c0 c l)), 3)] := by
  rcases Bool.eq_false_or_eq_true (ckC c l != (0 : Int)) with hq0 | hq0
  ·
    have e0 : miA_c0 c l = (([] : List Int)) := ((bif_t hq0 _ _).trans rfl); rw [e0]; have e1 : miA_c1 c l = (ckC c l) := ((bif_t hq0 _ _).trans rfl); rw [e1]; exact miA_p0 c l hl hq0
  ·
    have e0 : miA_c0 c l = (mis c l) := ((bif_f hq0 _ _).trans rfl); rw [e0]; have e1 : miA_c1 c l = ((0 : Int)) := ((bif_f hq0 _ _).trans rfl); rw [e1]; exact miA_p1 c l hl hq0

noncomputable def opA_c0 (c : Bool) (l : List Bool) : Int := (bif (ckC c l != (0 : Int)) then ((0 : Int)) else (bif ((↑(mis c l).length : Int) == (0 : Int)) then ((0 : Int)) else (el (mis c l) (0 : Int))))
noncomputable def opA_c1 (c : Bool) (l : List Bool) : Int := (bif (ckC c l != (0 : Int)) then (ckC c l) else (bif ((↑(mis c l).length : Int) == (0 : Int)) then ((6 : Int)) else ((0 : Int))))
theorem opA_p0 (c : Bool) (l : List Bool) (hl : (l.length : Int) ≤ 70) (hq0 : (ckC c l != (0 : Int)) = true) : KnownR Try.prog [] 12 [.agg [.val (.bool c), .list (rowA gB l) l.length]] (.tuple #[(.int .i64 ((0 : Int))), (.int .i64 (ckC c l))]) [] :=
  knownR_eq (v := Value.tuple { toList := [Value.int IntKind.i64 (0 : Int), Value.int IntKind.i64 (ckC c l)] }) (bs := []) (open_resD mix tabH_ok (T := tabH) (fuel := 3000) (es := []) (ans := [(0, .outs (Value.int IntKind.i64 (ckC c l)) ([])), (1, .b 1), (2, .b 1)]) (log := [(ckC c l != (0 : Int)) = true, (ckC c l != (0 : Int)) = true, (GTab.lookD (tabH) ((25 : Nat)) ([D.agg [D.val (Value.bool c), D.list (rowA gB l) l.length]])) = some (Value.int IntKind.i64 (ckC c l), [])]) (by kernel_rfl) ⟨hq0, hq0, (ckD_at (c) (l) (l.length) (by first | rfl | assumption | omega | (simp; done) | (simp_all; done) | (simp_all; omega))), trivial⟩ (by kernel_rfl)) (by first | rfl | (simp; done) | (simp_all; done)) (by first | rfl | (simp [rowA_nil]; done) | (simp only [rowA_eq]; rfl) | (simp_all [rowA_nil]; done))
theorem opA_p1 (c : Bool) (l : List Bool) (hl : (l.length : Int) ≤ 70) (hq0 : (ckC c l != (0 : Int)) = false) (hq1 : ((↑(mis c l).length : Int) == (0 : Int)) = true) : KnownR Try.prog [] 12 [.agg [.val (.bool c), .list (rowA gB l) l.length]] (.tuple #[(.int .i64 ((0 : Int))), (.int .i64 ((6 : Int)))]) [] :=
  knownR_eq (v := Value.tuple { toList := [Value.int IntKind.i64 (0 : Int), Value.int IntKind.i64 (6 : Int)] }) (bs := []) (open_resD mix tabH_ok (T := tabH) (fuel := 3000) (es := []) (ans := [(0, .outs (Value.int IntKind.i64 (ckC c l)) ([])), (1, .b 0), (2, .outs (Value.complex FloatKind.f64 (0 : Nat) (mis c l).length) ([(rowA gI (mis c l), (3 : TypeId))])), (4, .b 1)]) (log := [((↑(mis c l).length : Int) == (0 : Int)) = true, (GTab.lookD (tabH) ((41 : Nat)) ([D.agg [D.list (rowA gB l) l.length, D.val (Value.bool c)]])) = some (Value.complex FloatKind.f64 (0 : Nat) (mis c l).length, [(rowA gI (mis c l), (3 : TypeId))]), (ckC c l != (0 : Int)) = false, (GTab.lookD (tabH) ((25 : Nat)) ([D.agg [D.val (Value.bool c), D.list (rowA gB l) l.length]])) = some (Value.int IntKind.i64 (ckC c l), [])]) (by kernel_rfl) ⟨hq1, (mcD_at (c) (l) (l.length) (by first | rfl | assumption | omega | (simp; done) | (simp_all; done) | (simp_all; omega)) (by first | rfl | assumption | omega | (simp; done) | (simp_all; done) | (simp_all; omega))), hq0, (ckD_at (c) (l) (l.length) (by first | rfl | assumption | omega | (simp; done) | (simp_all; done) | (simp_all; omega))), trivial⟩ (by kernel_rfl)) (by first | rfl | (simp; done) | (simp_all; done)) (by first | rfl | (simp [rowA_nil]; done) | (simp only [rowA_eq]; rfl) | (simp_all [rowA_nil]; done))
theorem opA_p2 (c : Bool) (l : List Bool) (hl : (l.length : Int) ≤ 70) (hq0 : (ckC c l != (0 : Int)) = false) (hq1 : ((↑(mis c l).length : Int) == (0 : Int)) = false) (hq2 : (decide ((0 : Int) < (↑(mis c l).length : Int))) = true) : KnownR Try.prog [] 12 [.agg [.val (.bool c), .list (rowA gB l) l.length]] (.tuple #[(.int .i64 (el (mis c l) (0 : Int))), (.int .i64 ((0 : Int)))]) [] :=
  knownR_eq (v := Value.tuple { toList := [Value.int IntKind.i64 (el (mis c l) (0 : Int)), Value.int IntKind.i64 (0 : Int)] }) (bs := []) (open_resD mix tabH_ok (T := tabH) (fuel := 3000) (es := []) (ans := [(0, .outs (Value.int IntKind.i64 (ckC c l)) ([])), (1, .b 0), (2, .outs (Value.complex FloatKind.f64 (0 : Nat) (mis c l).length) ([(rowA gI (mis c l), (3 : TypeId))])), (4, .b 0), (6, .b 1), (7, .vals ([Value.int IntKind.i64 (el (mis c l) (0 : Int))]))]) (log := [segC (rowA (gI) (mis c l)) ((((0 : Int)).toNat) * 1 + 0) 1 = some ([Value.int IntKind.i64 (el (mis c l) (0 : Int))]), (decide ((0 : Int) < (↑(mis c l).length : Int))) = true, ((↑(mis c l).length : Int) == (0 : Int)) = false, (GTab.lookD (tabH) ((41 : Nat)) ([D.agg [D.list (rowA gB l) l.length, D.val (Value.bool c)]])) = some (Value.complex FloatKind.f64 (0 : Nat) (mis c l).length, [(rowA gI (mis c l), (3 : TypeId))]), (ckC c l != (0 : Int)) = false, (GTab.lookD (tabH) ((25 : Nat)) ([D.agg [D.val (Value.bool c), D.list (rowA gB l) l.length]])) = some (Value.int IntKind.i64 (ckC c l), [])]) (by kernel_rfl) ⟨(seg_row (g := (gI)) (k := 1) (fun _ => rfl) (by decide) (by first | exact of_decide_eq_true hq2 | (simpa using of_decide_eq_true hq2; done) | (have hx1 := of_decide_eq_true hq2; have hx2 := of_decide_eq_true hi; simp only [List.length_reverse, List.length_set] at *; omega)) (by decide) rfl), hq2, hq1, (mcD_at (c) (l) (l.length) (by first | rfl | assumption | omega | (simp; done) | (simp_all; done) | (simp_all; omega)) (by first | rfl | assumption | omega | (simp; done) | (simp_all; done) | (simp_all; omega))), hq0, (ckD_at (c) (l) (l.length) (by first | rfl | assumption | omega | (simp; done) | (simp_all; done) | (simp_all; omega))), trivial⟩ (by kernel_rfl)) (by first | rfl | (simp; done) | (simp_all; done)) (by first | rfl | (simp [rowA_nil]; done) | (simp only [rowA_eq]; rfl) | (simp_all [rowA_nil]; done))
set_option maxHeartbeats 8000000 in
theorem opA (c : Bool) (l : List Bool) (hl : (l.length : Int) ≤ 70) : KnownR Try.prog [] 12 [.agg [.val (.bool c), .list (rowA gB l) l.length]] (.tuple #[(.int .i64 (opA_c0 c l)), (.int .i64 (opA_c1 c l))]) [] := by
  rcases Bool.eq_false_or_eq_true (ckC c l != (0 : Int)) with hq0 | hq0
  ·
    have e0 : opA_c0 c l = ((0 : Int)) := ((bif_t hq0 _ _).trans rfl); rw [e0]; have e1 : opA_c1 c l = (ckC c l) := ((bif_t hq0 _ _).trans rfl); rw [e1]; exact opA_p0 c l hl hq0
  ·
    rcases Bool.eq_false_or_eq_true ((↑(mis c l).length : Int) == (0 : Int)) with hq1 | hq1
    ·
      have e0 : opA_c0 c l = ((0 : Int)) := ((bif_f hq0 _ _).trans ((bif_t hq1 _ _).trans rfl)); rw [e0]; have e1 : opA_c1 c l = ((6 : Int)) := ((bif_f hq0 _ _).trans ((bif_t hq1 _ _).trans rfl)); rw [e1]; exact opA_p1 c l hl hq0 hq1
    ·
      have hq2 : (decide ((0 : Int) < (↑(mis c l).length : Int))) = true := by
        rcases Bool.eq_false_or_eq_true (decide ((0 : Int) < (↑(mis c l).length : Int))) with h | h
        · exact h
        · exfalso; (first | (simp_all only [Bool.and_eq_true, Bool.not_eq_true', Bool.false_eq_true, Bool.true_eq_false, reduceCtorEq]; done) | (simp only [sx, sy, eq_self, ne_eq, IntKind.wrap_i64, wrapU64, Int.reduceLT] at * <;> first | contradiction | omega) | omega | ((try simp only [sx, sy, eq_self, ne_eq, IntKind.wrap_i64, wrapU64, Int.reduceLT] at *) <;> omega) | (simp_all; done))
      have e0 : opA_c0 c l = (el (mis c l) (0 : Int)) := ((bif_f hq0 _ _).trans ((bif_f hq1 _ _).trans rfl)); rw [e0]; have e1 : opA_c1 c l = ((0 : Int)) := ((bif_f hq0 _ _).trans ((bif_f hq1 _ _).trans rfl)); rw [e1]; exact opA_p2 c l hl hq0 hq1 hq2

theorem uaD (c : Bool) (l : List Bool) (f : Int) (hl : (l.length : Int) ≤ 70) : KnownR Try.prog [] 18 [.agg [.val (.bool c), .list (rowA gB l) l.length], .val (.int .i64 f)] (.tuple #[.agg #[.bool false, .complex .f64 0 (ulA_c1 c l f).length], .int .i64 (ulA_c2 c l f)]) ([(rowA gB (ulA_c1 c l f), 4)]) := ulA c l f hl
noncomputable def uaD_A (p : Bool × List Bool × Int × Nat × Unit) : List D := match p with
  | (c, l, f, nn0, _) => [.agg [.val (.bool c), .list (rowA gB l) nn0], .val (.int .i64 f)]
noncomputable def uaD_C (p : Bool × List Bool × Int × Nat × Unit) : Prop := match p with
  | (c, l, f, nn0, _) => (nn0 = l.length) ∧ ((l.length : Int) ≤ 70) ∧ True
noncomputable def uaD_R (p : Bool × List Bool × Int × Nat × Unit) : Value × Outs := match p with
  | (c, l, f, nn0, _) => (.tuple #[.agg #[.bool false, .complex .f64 0 (ulA_c1 c l f).length], .int .i64 (ulA_c2 c l f)], [(rowA gB (ulA_c1 c l f), 4)])
theorem uaD_inj : ∀ p q, uaD_C p → uaD_C q → uaD_A p = uaD_A q → uaD_R p = uaD_R q := by
  rintro ⟨c, l, f, nn0, _⟩ ⟨c', l', f', nn0', _⟩ _ _ e
  simp only [uaD_A, List.cons.injEq, D.list.injEq, D.val.injEq, D.agg.injEq, Value.int.injEq, Value.bool.injEq, Value.string.injEq, Value.agg.injEq, Array.mk.injEq, and_true, true_and, gI_inj, gB_inj] at e
  simp_all
noncomputable def uaD_k : List D → Option (Value × Outs) := fnP uaD_A uaD_C uaD_R
theorem uaD_n (c : Bool) (l : List Bool) (f : Int) (nn0 : Nat) (hn0 : nn0 = l.length) (hl : (l.length : Int) ≤ 70) : KnownR Try.prog [] 18 [.agg [.val (.bool c), .list (rowA gB l) nn0], .val (.int .i64 f)] (.tuple #[.agg #[.bool false, .complex .f64 0 (ulA_c1 c l f).length], .int .i64 (ulA_c2 c l f)]) ([(rowA gB (ulA_c1 c l f), 4)]) := by
  subst hn0; skip
  exact uaD _ _ _ hl
theorem uaD_ok : ∀ ds v bs, uaD_k ds = some (v, bs) → KnownR Try.prog [] 18 ds v bs := fnP_ok (by
  rintro ⟨c, l, f, nn0, _⟩ ⟨hn0, hl, _⟩
  exact uaD_n _ _ _ _ hn0 hl)
theorem uaD_at (c : Bool) (l : List Bool) (f : Int) (nn0 : Nat) (hn0 : nn0 = l.length) (hl : (l.length : Int) ≤ 70) : uaD_k [.agg [.val (.bool c), .list (rowA gB l) nn0], .val (.int .i64 f)] = some (.tuple #[.agg #[.bool false, .complex .f64 0 (ulA_c1 c l f).length], .int .i64 (ulA_c2 c l f)], [(rowA gB (ulA_c1 c l f), 4)]) := fnP_at (p := (c, l, f, nn0, ())) uaD_inj ⟨hn0, hl, trivial⟩ rfl rfl
theorem kaD (c : Bool) (l : List Bool) (hl : (l.length : Int) ≤ 70) : KnownR Try.prog [] 14 [.agg [.val (.bool c), .list (rowA gB l) l.length]] (.tuple #[.agg #[.bool (lkA_c0 c l), .complex .f64 0 (lkA_c1 c l).length], .int .i64 (lkA_c2 c l)]) ([(rowA gB (lkA_c1 c l), 4)]) := lkA c l hl
noncomputable def kaD_A (p : Bool × List Bool × Nat × Unit) : List D := match p with
  | (c, l, nn0, _) => [.agg [.val (.bool c), .list (rowA gB l) nn0]]
noncomputable def kaD_C (p : Bool × List Bool × Nat × Unit) : Prop := match p with
  | (c, l, nn0, _) => (nn0 = l.length) ∧ ((l.length : Int) ≤ 70) ∧ True
noncomputable def kaD_R (p : Bool × List Bool × Nat × Unit) : Value × Outs := match p with
  | (c, l, nn0, _) => (.tuple #[.agg #[.bool (lkA_c0 c l), .complex .f64 0 (lkA_c1 c l).length], .int .i64 (lkA_c2 c l)], [(rowA gB (lkA_c1 c l), 4)])
theorem kaD_inj : ∀ p q, kaD_C p → kaD_C q → kaD_A p = kaD_A q → kaD_R p = kaD_R q := by
  rintro ⟨c, l, nn0, _⟩ ⟨c', l', nn0', _⟩ _ _ e
  simp only [kaD_A, List.cons.injEq, D.list.injEq, D.val.injEq, D.agg.injEq, Value.int.injEq, Value.bool.injEq, Value.string.injEq, Value.agg.injEq, Array.mk.injEq, and_true, true_and, gI_inj, gB_inj] at e
  simp_all
noncomputable def kaD_k : List D → Option (Value × Outs) := fnP kaD_A kaD_C kaD_R
theorem kaD_n (c : Bool) (l : List Bool) (nn0 : Nat) (hn0 : nn0 = l.length) (hl : (l.length : Int) ≤ 70) : KnownR Try.prog [] 14 [.agg [.val (.bool c), .list (rowA gB l) nn0]] (.tuple #[.agg #[.bool (lkA_c0 c l), .complex .f64 0 (lkA_c1 c l).length], .int .i64 (lkA_c2 c l)]) ([(rowA gB (lkA_c1 c l), 4)]) := by
  subst hn0; skip
  exact kaD _ _ hl
theorem kaD_ok : ∀ ds v bs, kaD_k ds = some (v, bs) → KnownR Try.prog [] 14 ds v bs := fnP_ok (by
  rintro ⟨c, l, nn0, _⟩ ⟨hn0, hl, _⟩
  exact kaD_n _ _ _ hn0 hl)
theorem kaD_at (c : Bool) (l : List Bool) (nn0 : Nat) (hn0 : nn0 = l.length) (hl : (l.length : Int) ≤ 70) : kaD_k [.agg [.val (.bool c), .list (rowA gB l) nn0]] = some (.tuple #[.agg #[.bool (lkA_c0 c l), .complex .f64 0 (lkA_c1 c l).length], .int .i64 (lkA_c2 c l)], [(rowA gB (lkA_c1 c l), 4)]) := fnP_at (p := (c, l, nn0, ())) kaD_inj ⟨hn0, hl, trivial⟩ rfl rfl
theorem saD (c : Bool) (l : List Bool)  : KnownR Try.prog [] 13 [.agg [.val (.bool c), .list (rowA gB l) l.length]] (.tuple #[.agg #[.bool (smC c l), .complex .f64 0 (smL c l).length], .int .i64 (smN c l), .int .i64 (smX c l)]) ([(rowA gB (smL c l), 4)]) := slam_all c l
noncomputable def saD_A (p : Bool × List Bool × Nat × Unit) : List D := match p with
  | (c, l, nn0, _) => [.agg [.val (.bool c), .list (rowA gB l) nn0]]
noncomputable def saD_C (p : Bool × List Bool × Nat × Unit) : Prop := match p with
  | (c, l, nn0, _) => (nn0 = l.length) ∧ True
noncomputable def saD_R (p : Bool × List Bool × Nat × Unit) : Value × Outs := match p with
  | (c, l, nn0, _) => (.tuple #[.agg #[.bool (smC c l), .complex .f64 0 (smL c l).length], .int .i64 (smN c l), .int .i64 (smX c l)], [(rowA gB (smL c l), 4)])
theorem saD_inj : ∀ p q, saD_C p → saD_C q → saD_A p = saD_A q → saD_R p = saD_R q := by
  rintro ⟨c, l, nn0, _⟩ ⟨c', l', nn0', _⟩ _ _ e
  simp only [saD_A, List.cons.injEq, D.list.injEq, D.val.injEq, D.agg.injEq, Value.int.injEq, Value.bool.injEq, Value.string.injEq, Value.agg.injEq, Array.mk.injEq, and_true, true_and, gI_inj, gB_inj] at e
  simp_all
noncomputable def saD_k : List D → Option (Value × Outs) := fnP saD_A saD_C saD_R
theorem saD_n (c : Bool) (l : List Bool) (nn0 : Nat) (hn0 : nn0 = l.length)  : KnownR Try.prog [] 13 [.agg [.val (.bool c), .list (rowA gB l) nn0]] (.tuple #[.agg #[.bool (smC c l), .complex .f64 0 (smL c l).length], .int .i64 (smN c l), .int .i64 (smX c l)]) ([(rowA gB (smL c l), 4)]) := by
  subst hn0; skip
  exact saD _ _ 
theorem saD_ok : ∀ ds v bs, saD_k ds = some (v, bs) → KnownR Try.prog [] 13 ds v bs := fnP_ok (by
  rintro ⟨c, l, nn0, _⟩ ⟨hn0, _⟩
  exact saD_n _ _ _ hn0 )
theorem saD_at (c : Bool) (l : List Bool) (nn0 : Nat) (hn0 : nn0 = l.length)  : saD_k [.agg [.val (.bool c), .list (rowA gB l) nn0]] = some (.tuple #[.agg #[.bool (smC c l), .complex .f64 0 (smL c l).length], .int .i64 (smN c l), .int .i64 (smX c l)], [(rowA gB (smL c l), 4)]) := fnP_at (p := (c, l, nn0, ())) saD_inj ⟨hn0, trivial⟩ rfl rfl
end Go.Proofs.Ytbcbldpppjbkhaa
