/- Layer 33: Of of the given program. -/
import Derived.Test.YtfpabkpmcmfbhaaZD
import Derived.ProofKit
import Derived.IntWalk
namespace Go.Proofs.Ytfpabkpmcmfbhaa
open Go Go.RowKit
set_option linter.unusedVariables false
set_option linter.unusedSimpArgs false
set_option linter.unnecessarySimpa false
set_option maxHeartbeats 8000000
set_option maxRecDepth 100000
attribute [local irreducible] chX woN woL
theorem rkD (m : Int) (ld : List Int) (es : List En)  : KnownR Try.prog [] 31 [.val (.int .i64 m), .list (rowA gI ld) ld.length, .list (rowA gE es) es.length] (.int .i64 (chX m ld es)) ([]) := rcheck_is m ld es
noncomputable def rkD_A (p : Int × List Int × List En × Nat × Nat × Unit) : List D := match p with
  | (m, ld, es, nn0, nn1, _) => [.val (.int .i64 m), .list (rowA gI ld) nn0, .list (rowA gE es) nn1]
noncomputable def rkD_C (p : Int × List Int × List En × Nat × Nat × Unit) : Prop := match p with
  | (m, ld, es, nn0, nn1, _) => (nn0 = ld.length) ∧ (nn1 = es.length) ∧ True
noncomputable def rkD_R (p : Int × List Int × List En × Nat × Nat × Unit) : Value × Outs := match p with
  | (m, ld, es, nn0, nn1, _) => (.int .i64 (chX m ld es), [])
theorem rkD_inj : ∀ p q, rkD_C p → rkD_C q → rkD_A p = rkD_A q → rkD_R p = rkD_R q := by
  rintro ⟨m, ld, es, nn0, nn1, _⟩ ⟨m', ld', es', nn0', nn1', _⟩ _ _ e
  simp only [rkD_A, List.cons.injEq, D.list.injEq, D.val.injEq, D.agg.injEq, Value.int.injEq, Value.bool.injEq, Value.string.injEq, Value.agg.injEq, Array.mk.injEq, and_true, true_and, gI_inj, gB_inj, gE_inj] at e
  simp_all
noncomputable def rkD_k : List D → Option (Value × Outs) := fnP rkD_A rkD_C rkD_R
theorem rkD_n (m : Int) (ld : List Int) (es : List En) (nn0 : Nat) (nn1 : Nat) (hn0 : nn0 = ld.length) (hn1 : nn1 = es.length)  : KnownR Try.prog [] 31 [.val (.int .i64 m), .list (rowA gI ld) nn0, .list (rowA gE es) nn1] (.int .i64 (chX m ld es)) ([]) := by
  subst hn0; subst hn1; skip
  exact rkD _ _ _ 
theorem rkD_ok : ∀ ds v bs, rkD_k ds = some (v, bs) → KnownR Try.prog [] 31 ds v bs := fnP_ok (by
  rintro ⟨m, ld, es, nn0, nn1, _⟩ ⟨hn0, hn1, _⟩
  exact rkD_n _ _ _ _ _ hn0 hn1 )
theorem rkD_at (m : Int) (ld : List Int) (es : List En) (nn0 : Nat) (nn1 : Nat) (hn0 : nn0 = ld.length) (hn1 : nn1 = es.length)  : rkD_k [.val (.int .i64 m), .list (rowA gI ld) nn0, .list (rowA gE es) nn1] = some (.int .i64 (chX m ld es), []) := fnP_at (p := (m, ld, es, nn0, nn1, ())) rkD_inj ⟨hn0, hn1, trivial⟩ rfl rfl
theorem roD (m : Int) (ld : List Int) (es : List En) (hc : chX m ld es = 0) : KnownR Try.prog [] 32 [.val (.int .i64 m), .list (rowA gI ld) ld.length, .list (rowA gE es) es.length, .val (.int .i64 0), .val (.int .i64 1099511627777)] (.tuple #[.int .i64 (woN m ld es), .complex .f64 0 (woL m ld es).length]) ([(rowA gI (woL m ld es), 3)]) := rof_is hc
noncomputable def roD_A (p : Int × List Int × List En × Nat × Nat × Unit) : List D := match p with
  | (m, ld, es, nn0, nn1, _) => [.val (.int .i64 m), .list (rowA gI ld) nn0, .list (rowA gE es) nn1, .val (.int .i64 0), .val (.int .i64 1099511627777)]
noncomputable def roD_C (p : Int × List Int × List En × Nat × Nat × Unit) : Prop := match p with
  | (m, ld, es, nn0, nn1, _) => (nn0 = ld.length) ∧ (nn1 = es.length) ∧ (chX m ld es = 0) ∧ True
noncomputable def roD_R (p : Int × List Int × List En × Nat × Nat × Unit) : Value × Outs := match p with
  | (m, ld, es, nn0, nn1, _) => (.tuple #[.int .i64 (woN m ld es), .complex .f64 0 (woL m ld es).length], [(rowA gI (woL m ld es), 3)])
theorem roD_inj : ∀ p q, roD_C p → roD_C q → roD_A p = roD_A q → roD_R p = roD_R q := by
  rintro ⟨m, ld, es, nn0, nn1, _⟩ ⟨m', ld', es', nn0', nn1', _⟩ _ _ e
  simp only [roD_A, List.cons.injEq, D.list.injEq, D.val.injEq, D.agg.injEq, Value.int.injEq, Value.bool.injEq, Value.string.injEq, Value.agg.injEq, Array.mk.injEq, and_true, true_and, gI_inj, gB_inj, gE_inj] at e
  simp_all
noncomputable def roD_k : List D → Option (Value × Outs) := fnP roD_A roD_C roD_R
theorem roD_n (m : Int) (ld : List Int) (es : List En) (nn0 : Nat) (nn1 : Nat) (hn0 : nn0 = ld.length) (hn1 : nn1 = es.length) (hc : chX m ld es = 0) : KnownR Try.prog [] 32 [.val (.int .i64 m), .list (rowA gI ld) nn0, .list (rowA gE es) nn1, .val (.int .i64 0), .val (.int .i64 1099511627777)] (.tuple #[.int .i64 (woN m ld es), .complex .f64 0 (woL m ld es).length]) ([(rowA gI (woL m ld es), 3)]) := by
  subst hn0; subst hn1; skip
  exact roD _ _ _ hc
theorem roD_ok : ∀ ds v bs, roD_k ds = some (v, bs) → KnownR Try.prog [] 32 ds v bs := fnP_ok (by
  rintro ⟨m, ld, es, nn0, nn1, _⟩ ⟨hn0, hn1, hc, _⟩
  exact roD_n _ _ _ _ _ hn0 hn1 hc)
theorem roD_at (m : Int) (ld : List Int) (es : List En) (nn0 : Nat) (nn1 : Nat) (hn0 : nn0 = ld.length) (hn1 : nn1 = es.length) (hc : chX m ld es = 0) : roD_k [.val (.int .i64 m), .list (rowA gI ld) nn0, .list (rowA gE es) nn1, .val (.int .i64 0), .val (.int .i64 1099511627777)] = some (.tuple #[.int .i64 (woN m ld es), .complex .f64 0 (woL m ld es).length], [(rowA gI (woL m ld es), 3)]) := fnP_at (p := (m, ld, es, nn0, nn1, ())) roD_inj ⟨hn0, hn1, hc, trivial⟩ rfl rfl
noncomputable def tabQ : GTab := (GTab.fnD 31 rkD_k (GTab.fnD 32 roD_k GTab.none))
theorem tabQ_ok : GOk Try.prog [] tabQ := (GOk.fnD rkD_ok (GOk.fnD roD_ok GOk.none))
noncomputable def ro0_c0 (m : Int) (ld : List Int) (es : List En) : Int := (woN m ld es)
noncomputable def ro0_c1 (m : Int) (ld : List Int) (es : List En) : List Int := (woL m ld es)
theorem ro0_p0 (m : Int) (ld : List Int) (es : List En) (hc : chX m ld es = 0) (hq0 : (chX m ld es != (0 : Int)) = false) : KnownR Try.prog [] 13 [.val (.int .i64 m), .list (rowA gI ld) ld.length, .list (rowA gE es) es.length] (.tuple #[(.int .i64 (woN m ld es)), (.complex .f64 0 ((woL m ld es)).length), (.int .i64 ((0 : Int)))]) [(rowA gI ((woL m ld es)), 3)] :=
  knownR_eq (v := Value.tuple { toList := [Value.int IntKind.i64 (woN m ld es), Value.complex FloatKind.f64 (nat_lit 0) (woL m ld es).length, Value.int IntKind.i64 (0 : Int)] }) (bs := [(rowA gI (woL m ld es), nat_lit 3)]) (open_resD mix tabQ_ok (T := tabQ) (fuel := 3000) (es := [3]) (ans := [(0, .outs (Value.int IntKind.i64 (chX m ld es)) ([])), (1, .b 0), (2, .outs (Value.tuple #[Value.int IntKind.i64 (woN m ld es), Value.complex FloatKind.f64 (0 : Nat) (woL m ld es).length]) ([(rowA gI (woL m ld es), (3 : TypeId))]))]) (log := [(GTab.lookD (tabQ) ((32 : Nat)) ([D.val (Value.int IntKind.i64 m), D.list (rowA gI ld) ld.length, D.list (rowA gE es) es.length, D.val (Value.int IntKind.i64 (0 : Int)), D.val (Value.int IntKind.i64 (1099511627777 : Int))])) = some (Value.tuple #[Value.int IntKind.i64 (woN m ld es), Value.complex FloatKind.f64 (0 : Nat) (woL m ld es).length], [(rowA gI (woL m ld es), (3 : TypeId))]), (chX m ld es != (0 : Int)) = false, (GTab.lookD (tabQ) ((31 : Nat)) ([D.val (Value.int IntKind.i64 m), D.list (rowA gI ld) ld.length, D.list (rowA gE es) es.length])) = some (Value.int IntKind.i64 (chX m ld es), [])]) (by kernel_rfl) ⟨(roD_at (m) (ld) (es) (ld.length) (es.length) (by first | rfl | assumption | omega | (simp; done) | (simp_all; done) | (simp_all; omega)) (by first | rfl | assumption | omega | (simp; done) | (simp_all; done) | (simp_all; omega)) (by first | rfl | assumption | omega | (simp; done) | (simp_all; done) | (simp_all; omega))), hq0, (rkD_at (m) (ld) (es) (ld.length) (es.length) (by first | rfl | assumption | omega | (simp; done) | (simp_all; done) | (simp_all; omega)) (by first | rfl | assumption | omega | (simp; done) | (simp_all; done) | (simp_all; omega))), trivial⟩ (by kernel_rfl)) (by first | rfl | (simp; done) | (simp_all; done)) (by first | rfl | (simp [rowA_nil]; done) | (simp only [rowA_eq]; rfl) | (simp_all [rowA_nil]; done))
set_option maxHeartbeats 8000000 in
theorem ro0 (m : Int) (ld : List Int) (es : List En) (hc : chX m ld es = 0) : KnownR Try.prog [] 13 [.val (.int .i64 m), .list (rowA gI ld) ld.length, .list (rowA gE es) es.length] (.tuple #[(.int .i64 (ro0_c0 m ld es)), (.complex .f64 0 ((ro0_c1 m ld es)).length), (.int .i64 ((0 : Int)))]) [(rowA gI ((ro0_c1 m ld es)), 3)] := by
  have hq0 : (chX m ld es != (0 : Int)) = false := by
    rcases Bool.eq_false_or_eq_true (chX m ld es != (0 : Int)) with h | h
    · exfalso; (first | (simp_all only [Bool.and_eq_true, Bool.not_eq_true', Bool.false_eq_true, Bool.true_eq_false, reduceCtorEq]; done) | (simp only [sx, sy, eq_self, ne_eq, IntKind.wrap_i64, wrapU64, Int.reduceLT] at * <;> first | contradiction | omega) | omega | ((try simp only [sx, sy, eq_self, ne_eq, IntKind.wrap_i64, wrapU64, Int.reduceLT] at *) <;> omega) | (simp_all; done))
    · exact h
  have e0 : ro0_c0 m ld es = (woN m ld es) := rfl; rw [e0]; have e1 : ro0_c1 m ld es = (woL m ld es) := rfl; rw [e1]; exact ro0_p0 m ld es hc hq0

noncomputable def roE_c2 (m : Int) (ld : List Int) (es : List En) : Int := (chX m ld es)
theorem roE_p0 (m : Int) (ld : List Int) (es : List En) (hc : ¬ chX m ld es = 0) (hq0 : (chX m ld es != (0 : Int)) = true) : KnownR Try.prog [] 13 [.val (.int .i64 m), .list (rowA gI ld) ld.length, .list (rowA gE es) es.length] (.tuple #[(.int .i64 ((0 : Int))), (.complex .f64 0 ((([] : List Int))).length), (.int .i64 (chX m ld es))]) [(rowA gI ((([] : List Int))), 3)] :=
  knownR_eq (v := Value.tuple { toList := [Value.int IntKind.i64 (0 : Int), Value.complex FloatKind.f64 (nat_lit 0) (nat_lit 0), Value.int IntKind.i64 (chX m ld es)] }) (bs := [({ toList := [] }, nat_lit 3)]) (open_resD mix tabQ_ok (T := tabQ) (fuel := 3000) (es := [3]) (ans := [(0, .outs (Value.int IntKind.i64 (chX m ld es)) ([])), (1, .b 1)]) (log := [(chX m ld es != (0 : Int)) = true, (GTab.lookD (tabQ) ((31 : Nat)) ([D.val (Value.int IntKind.i64 m), D.list (rowA gI ld) ld.length, D.list (rowA gE es) es.length])) = some (Value.int IntKind.i64 (chX m ld es), [])]) (by kernel_rfl) ⟨hq0, (rkD_at (m) (ld) (es) (ld.length) (es.length) (by first | rfl | assumption | omega | (simp; done) | (simp_all; done) | (simp_all; omega)) (by first | rfl | assumption | omega | (simp; done) | (simp_all; done) | (simp_all; omega))), trivial⟩ (by kernel_rfl)) (by first | rfl | (simp; done) | (simp_all; done)) (by first | rfl | (simp [rowA_nil]; done) | (simp only [rowA_eq]; rfl) | (simp_all [rowA_nil]; done))
set_option maxHeartbeats 8000000 in
theorem roE (m : Int) (ld : List Int) (es : List En) (hc : ¬ chX m ld es = 0) : KnownR Try.prog [] 13 [.val (.int .i64 m), .list (rowA gI ld) ld.length, .list (rowA gE es) es.length] (.tuple #[(.int .i64 ((0 : Int))), (.complex .f64 0 ((([] : List Int))).length), (.int .i64 (roE_c2 m ld es))]) [(rowA gI ((([] : List Int))), 3)] := by
  have hq0 : (chX m ld es != (0 : Int)) = true := by
    rcases Bool.eq_false_or_eq_true (chX m ld es != (0 : Int)) with h | h
    · exact h
    · exfalso; (first | (simp_all only [Bool.and_eq_true, Bool.not_eq_true', Bool.false_eq_true, Bool.true_eq_false, reduceCtorEq]; done) | (simp only [sx, sy, eq_self, ne_eq, IntKind.wrap_i64, wrapU64, Int.reduceLT] at * <;> first | contradiction | omega) | omega | ((try simp only [sx, sy, eq_self, ne_eq, IntKind.wrap_i64, wrapU64, Int.reduceLT] at *) <;> omega) | (simp_all; done))
  have e2 : roE_c2 m ld es = (chX m ld es) := rfl; rw [e2]; exact roE_p0 m ld es hc hq0

end Go.Proofs.Ytfpabkpmcmfbhaa
