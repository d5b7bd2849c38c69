/- Layer 9: MotionTurns, its law. -/
import Derived.Test.YtaohbffjfedcgaaOgS
import Derived.ProofKit
import Derived.IntWalk
namespace Go.Proofs.Ytaohbffjfedcgaa
open Go Go.RowKit
set_option linter.unusedVariables false
set_option linter.unusedSimpArgs false
set_option linter.unnecessarySimpa false
set_option maxHeartbeats 8000000
set_option maxRecDepth 100000
theorem tn_eq (p g s m q : Int) : rTn_c0 p g s m q = pTn_c0 p g s m q ∧ rTn_c1 p g s m q = pTn_c1 p g s m q ∧ rTn_c2 p g s m q = pTn_c2 p g s m q ∧ rTn_c3 p g s m q = pTn_c3 p g s m q ∧ rTn_c4 p g s m q = pTn_c4 p g s m q := by
  unfold rTn_c0 pTn_c0 rTn_c1 pTn_c1 rTn_c2 pTn_c2 rTn_c3 pTn_c3 rTn_c4 pTn_c4
  by_cases h : ckM p g s m = 0
  · rw [h]
    rw [show ((0 : Int) != 0) = false from rfl, show ((0 : Int) == 0) = true from rfl]
    simp only [cond_true, cond_false]
    by_cases a : q < 0
    · rw [decide_eq_true a, decide_eq_false (show ¬ q ≥ 0 by omega)]
      exact ⟨rfl, rfl, rfl, rfl, rfl⟩
    · rw [decide_eq_false a, decide_eq_true (show q ≥ 0 by omega)]
      by_cases b : q > 63000
      · rw [decide_eq_true b, decide_eq_false (show ¬ q ≤ 63000 by omega)]
        exact ⟨rfl, rfl, rfl, rfl, rfl⟩
      · rw [decide_eq_false b, decide_eq_true (show q ≤ 63000 by omega)]
        exact ⟨rfl, rfl, rfl, rfl, rfl⟩
  · rw [show (ckM p g s m != 0) = true by simpa using h, show (ckM p g s m == 0) = false by simpa using h]
    exact ⟨rfl, rfl, rfl, rfl, rfl⟩
theorem rTurn_is (p g s m q : Int) : Known Try.prog [] 28 [.agg #[.int .i64 p, .int .i64 g, .int .i64 s, .int .i64 m], .int .i64 q] (.tuple #[.agg #[.int .i64 (pTn_c0 p g s m q), .int .i64 (pTn_c1 p g s m q), .int .i64 (pTn_c2 p g s m q), .int .i64 (pTn_c3 p g s m q)], .int .i64 (pTn_c4 p g s m q)]) := by
  have k := rTn p g s m q
  obtain ⟨e0, e1, e2, e3, e4⟩ := tn_eq p g s m q
  rw [e0, e1, e2, e3, e4] at k
  exact k
theorem ptD (p g s m n : Int)  : KnownR Try.prog [] 22 [.val (.agg #[.int .i64 p, .int .i64 g, .int .i64 s, .int .i64 m]), .val (.int .i64 n)] (.tuple #[.complex .f64 0 (ptL p g s m n).length, .int .i64 (ptX p g s m n)]) ([(rowA gI (ptL p g s m n), 3)]) := pPath_is p g s m n
noncomputable def ptD_A (p : Int × Int × Int × Int × Int × Unit) : List D := match p with
  | (p, g, s, m, n, _) => [.val (.agg #[.int .i64 p, .int .i64 g, .int .i64 s, .int .i64 m]), .val (.int .i64 n)]
noncomputable def ptD_C (p : Int × Int × Int × Int × Int × Unit) : Prop := match p with
  | (p, g, s, m, n, _) => True
noncomputable def ptD_R (p : Int × Int × Int × Int × Int × Unit) : Value × Outs := match p with
  | (p, g, s, m, n, _) => (.tuple #[.complex .f64 0 (ptL p g s m n).length, .int .i64 (ptX p g s m n)], [(rowA gI (ptL p g s m n), 3)])
theorem ptD_inj : ∀ p q, ptD_C p → ptD_C q → ptD_A p = ptD_A q → ptD_R p = ptD_R q := by
  rintro ⟨p, g, s, m, n, _⟩ ⟨p', g', s', m', n', _⟩ _ _ e
  simp only [ptD_A, List.cons.injEq, D.list.injEq, D.val.injEq, D.agg.injEq, Value.int.injEq, Value.bool.injEq, Value.string.injEq, Value.agg.injEq, Array.mk.injEq, and_true, true_and, gI_inj, gB_inj] at e
  simp_all
noncomputable def ptD_k : List D → Option (Value × Outs) := fnP ptD_A ptD_C ptD_R
theorem ptD_n (p g s m n : Int)    : KnownR Try.prog [] 22 [.val (.agg #[.int .i64 p, .int .i64 g, .int .i64 s, .int .i64 m]), .val (.int .i64 n)] (.tuple #[.complex .f64 0 (ptL p g s m n).length, .int .i64 (ptX p g s m n)]) ([(rowA gI (ptL p g s m n), 3)]) := by
  skip
  exact ptD _ _ _ _ _ 
theorem ptD_ok : ∀ ds v bs, ptD_k ds = some (v, bs) → KnownR Try.prog [] 22 ds v bs := fnP_ok (by
  rintro ⟨p, g, s, m, n, _⟩ _
  exact ptD_n _ _ _ _ _  )
theorem ptD_at (p g s m n : Int)    : ptD_k [.val (.agg #[.int .i64 p, .int .i64 g, .int .i64 s, .int .i64 m]), .val (.int .i64 n)] = some (.tuple #[.complex .f64 0 (ptL p g s m n).length, .int .i64 (ptX p g s m n)], [(rowA gI (ptL p g s m n), 3)]) := fnP_at (p := (p, g, s, m, n, ())) ptD_inj trivial rfl rfl
theorem prD (p g s m n : Int)  : KnownR Try.prog [] 23 [.val (.agg #[.int .i64 p, .int .i64 g, .int .i64 s, .int .i64 m]), .val (.int .i64 n)] (.tuple #[.complex .f64 0 (ptL p g s m n).length, .int .i64 (ptX p g s m n)]) ([(rowA gI (ptL p g s m n), 3)]) := rPath_is p g s m n
noncomputable def prD_A (p : Int × Int × Int × Int × Int × Unit) : List D := match p with
  | (p, g, s, m, n, _) => [.val (.agg #[.int .i64 p, .int .i64 g, .int .i64 s, .int .i64 m]), .val (.int .i64 n)]
noncomputable def prD_C (p : Int × Int × Int × Int × Int × Unit) : Prop := match p with
  | (p, g, s, m, n, _) => True
noncomputable def prD_R (p : Int × Int × Int × Int × Int × Unit) : Value × Outs := match p with
  | (p, g, s, m, n, _) => (.tuple #[.complex .f64 0 (ptL p g s m n).length, .int .i64 (ptX p g s m n)], [(rowA gI (ptL p g s m n), 3)])
theorem prD_inj : ∀ p q, prD_C p → prD_C q → prD_A p = prD_A q → prD_R p = prD_R q := by
  rintro ⟨p, g, s, m, n, _⟩ ⟨p', g', s', m', n', _⟩ _ _ e
  simp only [prD_A, List.cons.injEq, D.list.injEq, D.val.injEq, D.agg.injEq, Value.int.injEq, Value.bool.injEq, Value.string.injEq, Value.agg.injEq, Array.mk.injEq, and_true, true_and, gI_inj, gB_inj] at e
  simp_all
noncomputable def prD_k : List D → Option (Value × Outs) := fnP prD_A prD_C prD_R
theorem prD_n (p g s m n : Int)    : KnownR Try.prog [] 23 [.val (.agg #[.int .i64 p, .int .i64 g, .int .i64 s, .int .i64 m]), .val (.int .i64 n)] (.tuple #[.complex .f64 0 (ptL p g s m n).length, .int .i64 (ptX p g s m n)]) ([(rowA gI (ptL p g s m n), 3)]) := by
  skip
  exact prD _ _ _ _ _ 
theorem prD_ok : ∀ ds v bs, prD_k ds = some (v, bs) → KnownR Try.prog [] 23 ds v bs := fnP_ok (by
  rintro ⟨p, g, s, m, n, _⟩ _
  exact prD_n _ _ _ _ _  )
theorem prD_at (p g s m n : Int)    : prD_k [.val (.agg #[.int .i64 p, .int .i64 g, .int .i64 s, .int .i64 m]), .val (.int .i64 n)] = some (.tuple #[.complex .f64 0 (ptL p g s m n).length, .int .i64 (ptX p g s m n)], [(rowA gI (ptL p g s m n), 3)]) := fnP_at (p := (p, g, s, m, n, ())) prD_inj trivial rfl rfl
theorem aTn (p g s m q : Int) : Known Try.prog [] 27 [.agg #[.int .i64 p, .int .i64 g, .int .i64 s, .int .i64 m], .int .i64 q] (.tuple #[.agg #[.int .i64 (pTn_c0 p g s m q), .int .i64 (pTn_c1 p g s m q), .int .i64 (pTn_c2 p g s m q), .int .i64 (pTn_c3 p g s m q)], .int .i64 (pTn_c4 p g s m q)]) := pTn p g s m q
noncomputable def aTn_k : List Value → Option Value
  | [.agg ⟨[.int .i64 p, .int .i64 g, .int .i64 s, .int .i64 m]⟩, .int .i64 q] => some (.tuple #[.agg #[.int .i64 (pTn_c0 p g s m q), .int .i64 (pTn_c1 p g s m q), .int .i64 (pTn_c2 p g s m q), .int .i64 (pTn_c3 p g s m q)], .int .i64 (pTn_c4 p g s m q)])
  | _ => none
theorem aTn_ok : ∀ args v, aTn_k args = some v → Known Try.prog [] 27 args v := by
  intro args v h
  unfold aTn_k at h
  split at h
  · injection h with h; subst h; exact aTn _ _ _ _ _
  · cases h
theorem bTn (p g s m q : Int) : Known Try.prog [] 28 [.agg #[.int .i64 p, .int .i64 g, .int .i64 s, .int .i64 m], .int .i64 q] (.tuple #[.agg #[.int .i64 (pTn_c0 p g s m q), .int .i64 (pTn_c1 p g s m q), .int .i64 (pTn_c2 p g s m q), .int .i64 (pTn_c3 p g s m q)], .int .i64 (pTn_c4 p g s m q)]) := rTurn_is p g s m q
noncomputable def bTn_k : List Value → Option Value
  | [.agg ⟨[.int .i64 p, .int .i64 g, .int .i64 s, .int .i64 m]⟩, .int .i64 q] => some (.tuple #[.agg #[.int .i64 (pTn_c0 p g s m q), .int .i64 (pTn_c1 p g s m q), .int .i64 (pTn_c2 p g s m q), .int .i64 (pTn_c3 p g s m q)], .int .i64 (pTn_c4 p g s m q)])
  | _ => none
theorem bTn_ok : ∀ args v, bTn_k args = some v → Known Try.prog [] 28 args v := by
  intro args v h
  unfold bTn_k at h
  split at h
  · injection h with h; subst h; exact bTn _ _ _ _ _
  · cases h
theorem aHl (p g s m : Int) : Known Try.prog [] 25 [.agg #[.int .i64 p, .int .i64 g, .int .i64 s, .int .i64 m]] (.tuple #[.agg #[.int .i64 (pHl_c0 p g s m), .int .i64 (pHl_c1 p g s m), .int .i64 0, .int .i64 (pHl_c3 p g s m)], .int .i64 (pHl_c4 p g s m)]) := pHl p g s m
noncomputable def aHl_k : List Value → Option Value
  | [.agg ⟨[.int .i64 p, .int .i64 g, .int .i64 s, .int .i64 m]⟩] => some (.tuple #[.agg #[.int .i64 (pHl_c0 p g s m), .int .i64 (pHl_c1 p g s m), .int .i64 0, .int .i64 (pHl_c3 p g s m)], .int .i64 (pHl_c4 p g s m)])
  | _ => none
theorem aHl_ok : ∀ args v, aHl_k args = some v → Known Try.prog [] 25 args v := by
  intro args v h
  unfold aHl_k at h
  split at h
  · injection h with h; subst h; exact aHl _ _ _ _
  · cases h
theorem bHl (p g s m : Int) : Known Try.prog [] 26 [.agg #[.int .i64 p, .int .i64 g, .int .i64 s, .int .i64 m]] (.tuple #[.agg #[.int .i64 (pHl_c0 p g s m), .int .i64 (pHl_c1 p g s m), .int .i64 0, .int .i64 (pHl_c3 p g s m)], .int .i64 (pHl_c4 p g s m)]) := rHl p g s m
noncomputable def bHl_k : List Value → Option Value
  | [.agg ⟨[.int .i64 p, .int .i64 g, .int .i64 s, .int .i64 m]⟩] => some (.tuple #[.agg #[.int .i64 (pHl_c0 p g s m), .int .i64 (pHl_c1 p g s m), .int .i64 0, .int .i64 (pHl_c3 p g s m)], .int .i64 (pHl_c4 p g s m)])
  | _ => none
theorem bHl_ok : ∀ args v, bHl_k args = some v → Known Try.prog [] 26 args v := by
  intro args v h
  unfold bHl_k at h
  split at h
  · injection h with h; subst h; exact bHl _ _ _ _
  · cases h
theorem siD (x : List Int) (hx : (x.length : Int) ≤ 100000) : KnownR Try.prog [] 24 [.list (rowA gI x) x.length, .list (rowA gI x) x.length] (.bool true) ([]) := si_is x hx
noncomputable def siD_A (p : List Int × Nat × Nat × Unit) : List D := match p with
  | (x, nn0, nn1, _) => [.list (rowA gI x) nn0, .list (rowA gI x) nn1]
noncomputable def siD_C (p : List Int × Nat × Nat × Unit) : Prop := match p with
  | (x, nn0, nn1, _) => (nn0 = x.length) ∧ (nn1 = x.length) ∧ ((x.length : Int) ≤ 100000) ∧ True
noncomputable def siD_R (p : List Int × Nat × Nat × Unit) : Value × Outs := match p with
  | (x, nn0, nn1, _) => (.bool true, [])
theorem siD_inj : ∀ p q, siD_C p → siD_C q → siD_A p = siD_A q → siD_R p = siD_R q := by
  rintro ⟨x, nn0, nn1, _⟩ ⟨x', nn0', nn1', _⟩ _ _ e
  simp only [siD_A, List.cons.injEq, D.list.injEq, D.val.injEq, D.agg.injEq, Value.int.injEq, Value.bool.injEq, Value.string.injEq, Value.agg.injEq, Array.mk.injEq, and_true, true_and, gI_inj, gB_inj] at e
  simp_all
noncomputable def siD_k : List D → Option (Value × Outs) := fnP siD_A siD_C siD_R
theorem siD_n (x : List Int) (nn0 : Nat) (nn1 : Nat) (hn0 : nn0 = x.length) (hn1 : nn1 = x.length) (hx : (x.length : Int) ≤ 100000) : KnownR Try.prog [] 24 [.list (rowA gI x) nn0, .list (rowA gI x) nn1] (.bool true) ([]) := by
  subst hn0; subst hn1; skip
  exact siD _ hx
theorem siD_ok : ∀ ds v bs, siD_k ds = some (v, bs) → KnownR Try.prog [] 24 ds v bs := fnP_ok (by
  rintro ⟨x, nn0, nn1, _⟩ ⟨hn0, hn1, hx, _⟩
  exact siD_n _ _ _ hn0 hn1 hx)
theorem siD_at (x : List Int) (nn0 : Nat) (nn1 : Nat) (hn0 : nn0 = x.length) (hn1 : nn1 = x.length) (hx : (x.length : Int) ≤ 100000) : siD_k [.list (rowA gI x) nn0, .list (rowA gI x) nn1] = some (.bool true, []) := fnP_at (p := (x, nn0, nn1, ())) siD_inj ⟨hn0, hn1, hx, trivial⟩ rfl rfl
noncomputable def tabT : GTab := (GTab.fn1 27 aTn_k (GTab.fn1 28 bTn_k (GTab.fn1 25 aHl_k (GTab.fn1 26 bHl_k (GTab.fnD 22 ptD_k (GTab.fnD 23 prD_k (GTab.fnD 24 siD_k (GTab.fn1 21 (fun l => match l with | [] => some (.bool true) | _ => none) GTab.none))))))))
theorem tabT_ok : GOk Try.prog [] tabT := (GOk.fn1 aTn_ok (GOk.fn1 bTn_ok (GOk.fn1 aHl_ok (GOk.fn1 bHl_ok (GOk.fnD ptD_ok (GOk.fnD prD_ok (GOk.fnD siD_ok (GOk.fn1 (known0 knMotionKnown_e0) GOk.none))))))))
noncomputable def lawT_b1 (p g s m n q : Int) : Bool := !(pHl_c0 p g s m == pHl_c0 p g s m && (pHl_c1 p g s m == pHl_c1 p g s m && (true && pHl_c3 p g s m == pHl_c3 p g s m)))
noncomputable def lawT_b3 (p g s m n q : Int) : Bool := pTn_c0 p g s m q == pTn_c0 p g s m q && (pTn_c1 p g s m q == pTn_c1 p g s m q && (pTn_c2 p g s m q == pTn_c2 p g s m q && pTn_c3 p g s m q == pTn_c3 p g s m q))
theorem lawT_p0 (p g s m n q : Int) (hl : ((ptL p g s m n).length : Int) ≤ 100000) (hq0 : (ptX p g s m n != ptX p g s m n) = false) (hq1 : (lawT_b1 p g s m n q) = false) (hq2 : (pHl_c4 p g s m != pHl_c4 p g s m) = false) (hq3 : (lawT_b3 p g s m n q) = true) (hq4 : (pTn_c4 p g s m q == pTn_c4 p g s m q) = true) : Known Try.prog [] 4 [.agg #[.int .i64 p, .int .i64 g, .int .i64 s, .int .i64 m], .int .i64 n, .int .i64 q] (.bool (true)) :=
  open_res mix tabT_ok (T := tabT) (fuel := 3000) (ans := [(0, .outs (Value.tuple #[Value.complex FloatKind.f64 (0 : Nat) (ptL p g s m n).length, Value.int IntKind.i64 (ptX p g s m n)]) ([(rowA gI (ptL p g s m n), (3 : TypeId))])), (1, .outs (Value.tuple #[Value.complex FloatKind.f64 (0 : Nat) (ptL p g s m n).length, Value.int IntKind.i64 (ptX p g s m n)]) ([(rowA gI (ptL p g s m n), (3 : TypeId))])), (2, .outs (Value.bool true) ([])), (7, .b 0), (10, .b 0), (14, .b 0), (17, .b 1), (21, .b 1)]) (log := [(pTn_c4 p g s m q == pTn_c4 p g s m q) = true, (lawT_b3 p g s m n q) = true, (pHl_c4 p g s m != pHl_c4 p g s m) = false, (lawT_b1 p g s m n q) = false, (ptX p g s m n != ptX p g s m n) = false, (GTab.lookD (tabT) ((24 : Nat)) ([D.list (rowA gI (ptL p g s m n)) (ptL p g s m n).length, D.list (rowA gI (ptL p g s m n)) (ptL p g s m n).length])) = some (Value.bool true, []), (GTab.lookD (tabT) ((23 : Nat)) ([D.val (Value.agg { toList := [Value.int IntKind.i64 p, Value.int IntKind.i64 g, Value.int IntKind.i64 s, Value.int IntKind.i64 m] }), D.val (Value.int IntKind.i64 n)])) = some (Value.tuple #[Value.complex FloatKind.f64 (0 : Nat) (ptL p g s m n).length, Value.int IntKind.i64 (ptX p g s m n)], [(rowA gI (ptL p g s m n), (3 : TypeId))]), (GTab.lookD (tabT) ((22 : Nat)) ([D.val (Value.agg { toList := [Value.int IntKind.i64 p, Value.int IntKind.i64 g, Value.int IntKind.i64 s, Value.int IntKind.i64 m] }), D.val (Value.int IntKind.i64 n)])) = some (Value.tuple #[Value.complex FloatKind.f64 (0 : Nat) (ptL p g s m n).length, Value.int IntKind.i64 (ptX p g s m n)], [(rowA gI (ptL p g s m n), (3 : TypeId))])]) (by kernel_rfl) ⟨hq4, hq3, hq2, hq1, hq0, (siD_at (ptL p g s m n) ((ptL p g s m n).length) ((ptL p g s m n).length) (by first | rfl | assumption | omega | (simp; done) | (simp_all; done) | (simp_all; omega)) (by first | rfl | assumption | omega | (simp; done) | (simp_all; done) | (simp_all; omega)) (by first | rfl | assumption | omega | (simp; done) | (simp_all; done) | (simp_all; omega))), (prD_at (p) (g) (s) (m) (n)), (ptD_at (p) (g) (s) (m) (n)), trivial⟩ (by kernel_rfl)
set_option maxHeartbeats 8000000 in
theorem lawT (p g s m n q : Int) (hl : ((ptL p g s m n).length : Int) ≤ 100000) : Known Try.prog [] 4 [.agg #[.int .i64 p, .int .i64 g, .int .i64 s, .int .i64 m], .int .i64 n, .int .i64 q] (.bool (true)) := by
  have hq0 : (ptX p g s m n != ptX p g s m n) = false := by
    rcases Bool.eq_false_or_eq_true (ptX p g s m n != ptX p g s m n) with h | h
    · exfalso; (try simp only [lawT_b1, lawT_b3] at *); (first | (simp_all only [Bool.and_eq_true, Bool.not_eq_true', Bool.false_eq_true, Bool.true_eq_false, reduceCtorEq]; done) | (simp only [sx, sy, eq_self, ne_eq, IntKind.wrap_i64, wrapU64, Int.reduceLT] at * <;> first | contradiction | omega) | omega | ((try simp only [sx, sy, eq_self, ne_eq, IntKind.wrap_i64, wrapU64, Int.reduceLT] at *) <;> omega) | (simp_all; done))
    · exact h
  have hq1 : (lawT_b1 p g s m n q) = false := by
    rcases Bool.eq_false_or_eq_true (lawT_b1 p g s m n q) with h | h
    · exfalso; (try simp only [lawT_b1, lawT_b3] at *); (first | (simp_all only [Bool.and_eq_true, Bool.not_eq_true', Bool.false_eq_true, Bool.true_eq_false, reduceCtorEq]; done) | (simp only [sx, sy, eq_self, ne_eq, IntKind.wrap_i64, wrapU64, Int.reduceLT] at * <;> first | contradiction | omega) | omega | ((try simp only [sx, sy, eq_self, ne_eq, IntKind.wrap_i64, wrapU64, Int.reduceLT] at *) <;> omega) | (simp_all; done))
    · exact h
  have hq2 : (pHl_c4 p g s m != pHl_c4 p g s m) = false := by
    rcases Bool.eq_false_or_eq_true (pHl_c4 p g s m != pHl_c4 p g s m) with h | h
    · exfalso; (try simp only [lawT_b1, lawT_b3] at *); (first | (simp_all only [Bool.and_eq_true, Bool.not_eq_true', Bool.false_eq_true, Bool.true_eq_false, reduceCtorEq]; done) | (simp only [sx, sy, eq_self, ne_eq, IntKind.wrap_i64, wrapU64, Int.reduceLT] at * <;> first | contradiction | omega) | omega | ((try simp only [sx, sy, eq_self, ne_eq, IntKind.wrap_i64, wrapU64, Int.reduceLT] at *) <;> omega) | (simp_all; done))
    · exact h
  have hq3 : (lawT_b3 p g s m n q) = true := by
    rcases Bool.eq_false_or_eq_true (lawT_b3 p g s m n q) with h | h
    · exact h
    · exfalso; (try simp only [lawT_b1, lawT_b3] at *); (first | (simp_all only [Bool.and_eq_true, Bool.not_eq_true', Bool.false_eq_true, Bool.true_eq_false, reduceCtorEq]; done) | (simp only [sx, sy, eq_self, ne_eq, IntKind.wrap_i64, wrapU64, Int.reduceLT] at * <;> first | contradiction | omega) | omega | ((try simp only [sx, sy, eq_self, ne_eq, IntKind.wrap_i64, wrapU64, Int.reduceLT] at *) <;> omega) | (simp_all; done))
  have hq4 : (pTn_c4 p g s m q == pTn_c4 p g s m q) = true := by
    rcases Bool.eq_false_or_eq_true (pTn_c4 p g s m q == pTn_c4 p g s m q) with h | h
    · exact h
    · exfalso; (try simp only [lawT_b1, lawT_b3] at *); (first | (simp_all only [Bool.and_eq_true, Bool.not_eq_true', Bool.false_eq_true, Bool.true_eq_false, reduceCtorEq]; done) | (simp only [sx, sy, eq_self, ne_eq, IntKind.wrap_i64, wrapU64, Int.reduceLT] at * <;> first | contradiction | omega) | omega | ((try simp only [sx, sy, eq_self, ne_eq, IntKind.wrap_i64, wrapU64, Int.reduceLT] at *) <;> omega) | (simp_all; done))
  exact lawT_p0 p g s m n q hl hq0 hq1 hq2 hq3 hq4

end Go.Proofs.Ytaohbffjfedcgaa
