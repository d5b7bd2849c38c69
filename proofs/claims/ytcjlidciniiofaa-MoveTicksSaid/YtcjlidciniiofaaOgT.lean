/- Layer 15: MoveTicks. -/
import Derived.Test.YtcjlidciniiofaaRM15
import Derived.Test.YtcjlidciniiofaaSW
import Derived.ProofKit
import Derived.IntWalk
namespace Go.Proofs.Ytcjlidciniiofaa
open Go Go.RowKit
set_option linter.unusedVariables false
set_option linter.unusedSimpArgs false
set_option linter.unnecessarySimpa false
set_option maxHeartbeats 8000000
set_option maxRecDepth 100000
theorem qRd (n m : Int) (hg : (decide (0 ≤ n ∧ n ≤ 63000 ∧ 1 ≤ m ∧ m ≤ 20)) = true) : Known Try.prog [] 45 [.int .i64 n, .int .i64 m] (.tuple #[.int .i64 (rD m n), .int .i64 (pkV n m)]) := by have h := of_decide_eq_true hg; exact ride_is ⟨h.1, h.2.1⟩ h.2.2
noncomputable def qRd_k : List Value → Option (Bool × Value)
  | [.int .i64 n, .int .i64 m] => some (decide (0 ≤ n ∧ n ≤ 63000 ∧ 1 ≤ m ∧ m ≤ 20), .tuple #[.int .i64 (rD m n), .int .i64 (pkV n m)])
  | _ => none
theorem qRd_ok : ∀ args v, qRd_k args = some (true, v) → Known Try.prog [] 45 args v := by
  intro args v h
  unfold qRd_k at h
  split at h
  · injection h with h; injection h with hg h; subst h; exact qRd _ _ hg
  · cases h
noncomputable def tabS : GTab := (GTab.fn 45 qRd_k (GTab.fn 40 qDu_k GTab.none))
theorem tabS_ok : GOk Try.prog [] tabS := (GOk.fn qRd_ok (GOk.fn qDu_ok GOk.none))
noncomputable def pTr_b4 (n m : Int) : Bool := decide ((0 : Int) ≤ n ∧ n ≤ (63000 : Int) ∧ (1 : Int) ≤ m ∧ m ≤ (20 : Int))
noncomputable def pTr_c0 (n m : Int) : Int := (rD m n)
theorem pTr_p0 (n m : Int) (h1 : 0 ≤ n ∧ n ≤ 63000 ∧ 1 ≤ m ∧ m ≤ 20) (hq0 : (decide (n < (0 : Int))) = false) (hq1 : (decide (n > (63000 : Int))) = false) (hq2 : (decide (m < (1 : Int))) = false) (hq3 : (decide (m > (20 : Int))) = false) (hq4 : (pTr_b4 n m) = true) : Known Try.prog [] 19 [.int .i64 n, .int .i64 m] (.tuple #[(.int .i64 (rD m n)), (.int .i64 ((0 : Int)))]) :=
  open_res mix tabS_ok (T := tabS) (fuel := 3000) (ans := [(0, .b 0), (3, .b 0), (6, .b 0), (9, .b 0), (11, .b 1)]) (log := [(pTr_b4 n m) = true, (decide (m > (20 : Int))) = false, (decide (m < (1 : Int))) = false, (decide (n > (63000 : Int))) = false, (decide (n < (0 : Int))) = false]) (by kernel_rfl) ⟨hq4, hq3, hq2, hq1, hq0, trivial⟩ (by kernel_rfl)
set_option maxHeartbeats 8000000 in
theorem pTr (n m : Int) (h1 : 0 ≤ n ∧ n ≤ 63000 ∧ 1 ≤ m ∧ m ≤ 20) : Known Try.prog [] 19 [.int .i64 n, .int .i64 m] (.tuple #[(.int .i64 (pTr_c0 n m)), (.int .i64 ((0 : Int)))]) := by
  have hq0 : (decide (n < (0 : Int))) = false := by
    rcases Bool.eq_false_or_eq_true (decide (n < (0 : Int))) with h | h
    · exfalso; (try simp only [pTr_b4] at *); (first | (simp_all only [Bool.and_eq_true, Bool.not_eq_true', Bool.false_eq_true, Bool.true_eq_false, reduceCtorEq]; done) | (simp only [sx, sy, eq_self, ne_eq, IntKind.wrap_i64, wrapU64, Int.reduceLT] at * <;> first | contradiction | omega) | omega | ((try simp only [sx, sy, eq_self, ne_eq, IntKind.wrap_i64, wrapU64, Int.reduceLT] at *) <;> omega) | (simp_all; done))
    · exact h
  have hq1 : (decide (n > (63000 : Int))) = false := by
    rcases Bool.eq_false_or_eq_true (decide (n > (63000 : Int))) with h | h
    · exfalso; (try simp only [pTr_b4] at *); (first | (simp_all only [Bool.and_eq_true, Bool.not_eq_true', Bool.false_eq_true, Bool.true_eq_false, reduceCtorEq]; done) | (simp only [sx, sy, eq_self, ne_eq, IntKind.wrap_i64, wrapU64, Int.reduceLT] at * <;> first | contradiction | omega) | omega | ((try simp only [sx, sy, eq_self, ne_eq, IntKind.wrap_i64, wrapU64, Int.reduceLT] at *) <;> omega) | (simp_all; done))
    · exact h
  have hq2 : (decide (m < (1 : Int))) = false := by
    rcases Bool.eq_false_or_eq_true (decide (m < (1 : Int))) with h | h
    · exfalso; (try simp only [pTr_b4] at *); (first | (simp_all only [Bool.and_eq_true, Bool.not_eq_true', Bool.false_eq_true, Bool.true_eq_false, reduceCtorEq]; done) | (simp only [sx, sy, eq_self, ne_eq, IntKind.wrap_i64, wrapU64, Int.reduceLT] at * <;> first | contradiction | omega) | omega | ((try simp only [sx, sy, eq_self, ne_eq, IntKind.wrap_i64, wrapU64, Int.reduceLT] at *) <;> omega) | (simp_all; done))
    · exact h
  have hq3 : (decide (m > (20 : Int))) = false := by
    rcases Bool.eq_false_or_eq_true (decide (m > (20 : Int))) with h | h
    · exfalso; (try simp only [pTr_b4] at *); (first | (simp_all only [Bool.and_eq_true, Bool.not_eq_true', Bool.false_eq_true, Bool.true_eq_false, reduceCtorEq]; done) | (simp only [sx, sy, eq_self, ne_eq, IntKind.wrap_i64, wrapU64, Int.reduceLT] at * <;> first | contradiction | omega) | omega | ((try simp only [sx, sy, eq_self, ne_eq, IntKind.wrap_i64, wrapU64, Int.reduceLT] at *) <;> omega) | (simp_all; done))
    · exact h
  have hq4 : (pTr_b4 n m) = true := by
    rcases Bool.eq_false_or_eq_true (pTr_b4 n m) with h | h
    · exact h
    · exfalso; (try simp only [pTr_b4] at *); (first | (simp_all only [Bool.and_eq_true, Bool.not_eq_true', Bool.false_eq_true, Bool.true_eq_false, reduceCtorEq]; done) | (simp only [sx, sy, eq_self, ne_eq, IntKind.wrap_i64, wrapU64, Int.reduceLT] at * <;> first | contradiction | omega) | omega | ((try simp only [sx, sy, eq_self, ne_eq, IntKind.wrap_i64, wrapU64, Int.reduceLT] at *) <;> omega) | (simp_all; done))
  have e0 : pTr_c0 n m = (rD m n) := rfl; rw [e0]; exact pTr_p0 n m h1 hq0 hq1 hq2 hq3 hq4

noncomputable def rTr_b4 (n m : Int) : Bool := decide ((0 : Int) ≤ n ∧ n ≤ (63000 : Int) ∧ (1 : Int) ≤ m ∧ m ≤ (20 : Int))
noncomputable def rTr_c0 (n m : Int) : Int := (rD m n)
theorem rTr_p0 (n m : Int) (h1 : 0 ≤ n ∧ n ≤ 63000 ∧ 1 ≤ m ∧ m ≤ 20) (hq0 : (decide (n < (0 : Int))) = false) (hq1 : (decide (n > (63000 : Int))) = false) (hq2 : (decide (m < (1 : Int))) = false) (hq3 : (decide (m > (20 : Int))) = false) (hq4 : (rTr_b4 n m) = true) : Known Try.prog [] 27 [.int .i64 n, .int .i64 m] (.tuple #[(.int .i64 (rD m n)), (.int .i64 ((0 : Int)))]) :=
  open_res mix tabS_ok (T := tabS) (fuel := 3000) (ans := [(0, .b 0), (3, .b 0), (6, .b 0), (9, .b 0), (11, .b 1)]) (log := [(rTr_b4 n m) = true, (decide (m > (20 : Int))) = false, (decide (m < (1 : Int))) = false, (decide (n > (63000 : Int))) = false, (decide (n < (0 : Int))) = false]) (by kernel_rfl) ⟨hq4, hq3, hq2, hq1, hq0, trivial⟩ (by kernel_rfl)
set_option maxHeartbeats 8000000 in
theorem rTr (n m : Int) (h1 : 0 ≤ n ∧ n ≤ 63000 ∧ 1 ≤ m ∧ m ≤ 20) : Known Try.prog [] 27 [.int .i64 n, .int .i64 m] (.tuple #[(.int .i64 (rTr_c0 n m)), (.int .i64 ((0 : Int)))]) := by
  have hq0 : (decide (n < (0 : Int))) = false := by
    rcases Bool.eq_false_or_eq_true (decide (n < (0 : Int))) with h | h
    · exfalso; (try simp only [rTr_b4] at *); (first | (simp_all only [Bool.and_eq_true, Bool.not_eq_true', Bool.false_eq_true, Bool.true_eq_false, reduceCtorEq]; done) | (simp only [sx, sy, eq_self, ne_eq, IntKind.wrap_i64, wrapU64, Int.reduceLT] at * <;> first | contradiction | omega) | omega | ((try simp only [sx, sy, eq_self, ne_eq, IntKind.wrap_i64, wrapU64, Int.reduceLT] at *) <;> omega) | (simp_all; done))
    · exact h
  have hq1 : (decide (n > (63000 : Int))) = false := by
    rcases Bool.eq_false_or_eq_true (decide (n > (63000 : Int))) with h | h
    · exfalso; (try simp only [rTr_b4] at *); (first | (simp_all only [Bool.and_eq_true, Bool.not_eq_true', Bool.false_eq_true, Bool.true_eq_false, reduceCtorEq]; done) | (simp only [sx, sy, eq_self, ne_eq, IntKind.wrap_i64, wrapU64, Int.reduceLT] at * <;> first | contradiction | omega) | omega | ((try simp only [sx, sy, eq_self, ne_eq, IntKind.wrap_i64, wrapU64, Int.reduceLT] at *) <;> omega) | (simp_all; done))
    · exact h
  have hq2 : (decide (m < (1 : Int))) = false := by
    rcases Bool.eq_false_or_eq_true (decide (m < (1 : Int))) with h | h
    · exfalso; (try simp only [rTr_b4] at *); (first | (simp_all only [Bool.and_eq_true, Bool.not_eq_true', Bool.false_eq_true, Bool.true_eq_false, reduceCtorEq]; done) | (simp only [sx, sy, eq_self, ne_eq, IntKind.wrap_i64, wrapU64, Int.reduceLT] at * <;> first | contradiction | omega) | omega | ((try simp only [sx, sy, eq_self, ne_eq, IntKind.wrap_i64, wrapU64, Int.reduceLT] at *) <;> omega) | (simp_all; done))
    · exact h
  have hq3 : (decide (m > (20 : Int))) = false := by
    rcases Bool.eq_false_or_eq_true (decide (m > (20 : Int))) with h | h
    · exfalso; (try simp only [rTr_b4] at *); (first | (simp_all only [Bool.and_eq_true, Bool.not_eq_true', Bool.false_eq_true, Bool.true_eq_false, reduceCtorEq]; done) | (simp only [sx, sy, eq_self, ne_eq, IntKind.wrap_i64, wrapU64, Int.reduceLT] at * <;> first | contradiction | omega) | omega | ((try simp only [sx, sy, eq_self, ne_eq, IntKind.wrap_i64, wrapU64, Int.reduceLT] at *) <;> omega) | (simp_all; done))
    · exact h
  have hq4 : (rTr_b4 n m) = true := by
    rcases Bool.eq_false_or_eq_true (rTr_b4 n m) with h | h
    · exact h
    · exfalso; (try simp only [rTr_b4] at *); (first | (simp_all only [Bool.and_eq_true, Bool.not_eq_true', Bool.false_eq_true, Bool.true_eq_false, reduceCtorEq]; done) | (simp only [sx, sy, eq_self, ne_eq, IntKind.wrap_i64, wrapU64, Int.reduceLT] at * <;> first | contradiction | omega) | omega | ((try simp only [sx, sy, eq_self, ne_eq, IntKind.wrap_i64, wrapU64, Int.reduceLT] at *) <;> omega) | (simp_all; done))
  have e0 : rTr_c0 n m = (rD m n) := rfl; rw [e0]; exact rTr_p0 n m h1 hq0 hq1 hq2 hq3 hq4

theorem kTp (n m : Int) (hg : (decide (0 ≤ n ∧ n ≤ 63000 ∧ 1 ≤ m ∧ m ≤ 20)) = true) : Known Try.prog [] 19 [.int .i64 n, .int .i64 m] (.tuple #[.int .i64 (rD m n), .int .i64 0]) := by have h := of_decide_eq_true hg; exact pTr n m h
noncomputable def kTp_k : List Value → Option (Bool × Value)
  | [.int .i64 n, .int .i64 m] => some (decide (0 ≤ n ∧ n ≤ 63000 ∧ 1 ≤ m ∧ m ≤ 20), .tuple #[.int .i64 (rD m n), .int .i64 0])
  | _ => none
theorem kTp_ok : ∀ args v, kTp_k args = some (true, v) → Known Try.prog [] 19 args v := by
  intro args v h
  unfold kTp_k at h
  split at h
  · injection h with h; injection h with hg h; subst h; exact kTp _ _ hg
  · cases h
theorem kTq (n m : Int) (hg : (decide (0 ≤ n ∧ n ≤ 63000 ∧ 1 ≤ m ∧ m ≤ 20)) = true) : Known Try.prog [] 27 [.int .i64 n, .int .i64 m] (.tuple #[.int .i64 (rD m n), .int .i64 0]) := by have h := of_decide_eq_true hg; exact rTr n m h
noncomputable def kTq_k : List Value → Option (Bool × Value)
  | [.int .i64 n, .int .i64 m] => some (decide (0 ≤ n ∧ n ≤ 63000 ∧ 1 ≤ m ∧ m ≤ 20), .tuple #[.int .i64 (rD m n), .int .i64 0])
  | _ => none
theorem kTq_ok : ∀ args v, kTq_k args = some (true, v) → Known Try.prog [] 27 args v := by
  intro args v h
  unfold kTq_k at h
  split at h
  · injection h with h; injection h with hg h; subst h; exact kTq _ _ hg
  · cases h
theorem phD (gs : List Int) (hx : gs.length ≤ 1000) : KnownR Try.prog [] 22 [.list (rowA gI gs) gs.length] (.tuple #[.int .i64 (htV gs), .int .i64 (ckE gs)]) ([]) := height_p gs hx
noncomputable def phD_A (p : List Int × Nat × Unit) : List D := match p with
  | (gs, nn0, _) => [.list (rowA gI gs) nn0]
noncomputable def phD_C (p : List Int × Nat × Unit) : Prop := match p with
  | (gs, nn0, _) => (nn0 = gs.length) ∧ (gs.length ≤ 1000) ∧ True
noncomputable def phD_R (p : List Int × Nat × Unit) : Value × Outs := match p with
  | (gs, nn0, _) => (.tuple #[.int .i64 (htV gs), .int .i64 (ckE gs)], [])
theorem phD_inj : ∀ p q, phD_C p → phD_C q → phD_A p = phD_A q → phD_R p = phD_R q := by
  rintro ⟨gs, nn0, _⟩ ⟨gs', nn0', _⟩ _ _ e
  simp only [phD_A, List.cons.injEq, D.list.injEq, D.val.injEq, D.agg.injEq, Value.int.injEq, Value.bool.injEq, Value.string.injEq, Value.agg.injEq, Array.mk.injEq, and_true, true_and, gI_inj, gB_inj] at e
  simp_all
noncomputable def phD_k : List D → Option (Value × Outs) := fnP phD_A phD_C phD_R
theorem phD_n (gs : List Int) (nn0 : Nat) (hn0 : nn0 = gs.length) (hx : gs.length ≤ 1000) : KnownR Try.prog [] 22 [.list (rowA gI gs) nn0] (.tuple #[.int .i64 (htV gs), .int .i64 (ckE gs)]) ([]) := by
  subst hn0; skip
  exact phD _ hx
theorem phD_ok : ∀ ds v bs, phD_k ds = some (v, bs) → KnownR Try.prog [] 22 ds v bs := fnP_ok (by
  rintro ⟨gs, nn0, _⟩ ⟨hn0, hx, _⟩
  exact phD_n _ _ hn0 hx)
theorem phD_at (gs : List Int) (nn0 : Nat) (hn0 : nn0 = gs.length) (hx : gs.length ≤ 1000) : phD_k [.list (rowA gI gs) nn0] = some (.tuple #[.int .i64 (htV gs), .int .i64 (ckE gs)], []) := fnP_at (p := (gs, nn0, ())) phD_inj ⟨hn0, hx, trivial⟩ rfl rfl
theorem rhD (gs : List Int) (hx : gs.length ≤ 1000) : KnownR Try.prog [] 26 [.list (rowA gI gs) gs.length] (.tuple #[.int .i64 (htV gs), .int .i64 (ckE gs)]) ([]) := height_r gs hx
noncomputable def rhD_A (p : List Int × Nat × Unit) : List D := match p with
  | (gs, nn0, _) => [.list (rowA gI gs) nn0]
noncomputable def rhD_C (p : List Int × Nat × Unit) : Prop := match p with
  | (gs, nn0, _) => (nn0 = gs.length) ∧ (gs.length ≤ 1000) ∧ True
noncomputable def rhD_R (p : List Int × Nat × Unit) : Value × Outs := match p with
  | (gs, nn0, _) => (.tuple #[.int .i64 (htV gs), .int .i64 (ckE gs)], [])
theorem rhD_inj : ∀ p q, rhD_C p → rhD_C q → rhD_A p = rhD_A q → rhD_R p = rhD_R q := by
  rintro ⟨gs, nn0, _⟩ ⟨gs', nn0', _⟩ _ _ e
  simp only [rhD_A, List.cons.injEq, D.list.injEq, D.val.injEq, D.agg.injEq, Value.int.injEq, Value.bool.injEq, Value.string.injEq, Value.agg.injEq, Array.mk.injEq, and_true, true_and, gI_inj, gB_inj] at e
  simp_all
noncomputable def rhD_k : List D → Option (Value × Outs) := fnP rhD_A rhD_C rhD_R
theorem rhD_n (gs : List Int) (nn0 : Nat) (hn0 : nn0 = gs.length) (hx : gs.length ≤ 1000) : KnownR Try.prog [] 26 [.list (rowA gI gs) nn0] (.tuple #[.int .i64 (htV gs), .int .i64 (ckE gs)]) ([]) := by
  subst hn0; skip
  exact rhD _ hx
theorem rhD_ok : ∀ ds v bs, rhD_k ds = some (v, bs) → KnownR Try.prog [] 26 ds v bs := fnP_ok (by
  rintro ⟨gs, nn0, _⟩ ⟨hn0, hx, _⟩
  exact rhD_n _ _ hn0 hx)
theorem rhD_at (gs : List Int) (nn0 : Nat) (hn0 : nn0 = gs.length) (hx : gs.length ≤ 1000) : rhD_k [.list (rowA gI gs) nn0] = some (.tuple #[.int .i64 (htV gs), .int .i64 (ckE gs)], []) := fnP_at (p := (gs, nn0, ())) rhD_inj ⟨hn0, hx, trivial⟩ rfl rfl
theorem rcD (gs : List Int) (hx : gs.length ≤ 1000) : KnownR Try.prog [] 24 [.list (rowA gI gs) gs.length] (.tuple #[.int .i64 (ckE gs), .int .i64 (ckI gs)]) ([]) := check_r gs hx
noncomputable def rcD_A (p : List Int × Nat × Unit) : List D := match p with
  | (gs, nn0, _) => [.list (rowA gI gs) nn0]
noncomputable def rcD_C (p : List Int × Nat × Unit) : Prop := match p with
  | (gs, nn0, _) => (nn0 = gs.length) ∧ (gs.length ≤ 1000) ∧ True
noncomputable def rcD_R (p : List Int × Nat × Unit) : Value × Outs := match p with
  | (gs, nn0, _) => (.tuple #[.int .i64 (ckE gs), .int .i64 (ckI gs)], [])
theorem rcD_inj : ∀ p q, rcD_C p → rcD_C q → rcD_A p = rcD_A q → rcD_R p = rcD_R q := by
  rintro ⟨gs, nn0, _⟩ ⟨gs', nn0', _⟩ _ _ e
  simp only [rcD_A, List.cons.injEq, D.list.injEq, D.val.injEq, D.agg.injEq, Value.int.injEq, Value.bool.injEq, Value.string.injEq, Value.agg.injEq, Array.mk.injEq, and_true, true_and, gI_inj, gB_inj] at e
  simp_all
noncomputable def rcD_k : List D → Option (Value × Outs) := fnP rcD_A rcD_C rcD_R
theorem rcD_n (gs : List Int) (nn0 : Nat) (hn0 : nn0 = gs.length) (hx : gs.length ≤ 1000) : KnownR Try.prog [] 24 [.list (rowA gI gs) nn0] (.tuple #[.int .i64 (ckE gs), .int .i64 (ckI gs)]) ([]) := by
  subst hn0; skip
  exact rcD _ hx
theorem rcD_ok : ∀ ds v bs, rcD_k ds = some (v, bs) → KnownR Try.prog [] 24 ds v bs := fnP_ok (by
  rintro ⟨gs, nn0, _⟩ ⟨hn0, hx, _⟩
  exact rcD_n _ _ hn0 hx)
theorem rcD_at (gs : List Int) (nn0 : Nat) (hn0 : nn0 = gs.length) (hx : gs.length ≤ 1000) : rcD_k [.list (rowA gI gs) nn0] = some (.tuple #[.int .i64 (ckE gs), .int .i64 (ckI gs)], []) := fnP_at (p := (gs, nn0, ())) rcD_inj ⟨hn0, hx, trivial⟩ rfl rfl
noncomputable def tabM : GTab := (GTab.fnD 22 phD_k (GTab.fnD 26 rhD_k (GTab.fnD 24 rcD_k (GTab.fn 19 kTp_k (GTab.fn 27 kTq_k GTab.none)))))
theorem tabM_ok : GOk Try.prog [] tabM := (GOk.fnD phD_ok (GOk.fnD rhD_ok (GOk.fnD rcD_ok (GOk.fn kTp_ok (GOk.fn kTq_ok GOk.none)))))
noncomputable def mvT_b5 (gs : List Int) (s b : Int) : Bool := decide ((0 : Int) ≤ htV gs ∧ htV gs ≤ (63000 : Int) ∧ (1 : Int) ≤ s ∧ s ≤ (20 : Int))
noncomputable def mvT_c0 (gs : List Int) (s b : Int) : Int := (bif (ckE gs != (0 : Int)) then ((0 : Int)) else (bif (decide (s < (1 : Int))) then ((0 : Int)) else (bif (decide (s > (20 : Int))) then ((0 : Int)) else (bif (decide (b < (0 : Int))) then ((0 : Int)) else (bif (decide (b > (5 : Int))) then ((0 : Int)) else (IntKind.i64.wrap (rD s (htV gs) + IntKind.i64.wrap ((2 : Int) * b))))))))
noncomputable def mvT_c1 (gs : List Int) (s b : Int) : Int := (bif (ckE gs != (0 : Int)) then (ckE gs) else (bif (decide (s < (1 : Int))) then ((2 : Int)) else (bif (decide (s > (20 : Int))) then ((2 : Int)) else (bif (decide (b < (0 : Int))) then ((2 : Int)) else (bif (decide (b > (5 : Int))) then ((2 : Int)) else ((0 : Int)))))))
theorem mvT_p0 (gs : List Int) (s b : Int) (hx : gs.length ≤ 70) (hh : 0 ≤ htV gs ∧ htV gs ≤ 63000) (hq0 : (ckE gs != (0 : Int)) = true) : KnownR Try.prog [] 8 [.list (rowA gI gs) gs.length, .val (.int .i64 s), .val (.int .i64 b)] (.tuple #[(.int .i64 ((0 : Int))), (.int .i64 (ckE gs))]) [] :=
  knownR_eq (v := Value.tuple { toList := [Value.int IntKind.i64 (0 : Int), Value.int IntKind.i64 (ckE gs)] }) (bs := []) (open_resD mix tabM_ok (T := tabM) (fuel := 3000) (es := []) (ans := [(0, .outs (Value.tuple #[Value.int IntKind.i64 (htV gs), Value.int IntKind.i64 (ckE gs)]) ([])), (1, .b 1)]) (log := [(ckE gs != (0 : Int)) = true, (GTab.lookD (tabM) ((22 : Nat)) ([D.list (rowA gI gs) gs.length])) = some (Value.tuple #[Value.int IntKind.i64 (htV gs), Value.int IntKind.i64 (ckE gs)], [])]) (by kernel_rfl) ⟨hq0, (phD_at (gs) (gs.length) (by first | rfl | assumption | omega | (simp; done) | (simp_all; done) | (simp_all; omega)) (by first | rfl | assumption | omega | (simp; done) | (simp_all; done) | (simp_all; omega))), trivial⟩ (by kernel_rfl)) (by first | rfl | (simp; done) | (simp_all; done)) (by first | rfl | (simp [rowA_nil]; done) | (simp only [rowA_eq]; rfl) | (simp_all [rowA_nil]; done))
theorem mvT_p1 (gs : List Int) (s b : Int) (hx : gs.length ≤ 70) (hh : 0 ≤ htV gs ∧ htV gs ≤ 63000) (hq0 : (ckE gs != (0 : Int)) = false) (hq1 : (decide (s < (1 : Int))) = true) : KnownR Try.prog [] 8 [.list (rowA gI gs) gs.length, .val (.int .i64 s), .val (.int .i64 b)] (.tuple #[(.int .i64 ((0 : Int))), (.int .i64 ((2 : Int)))]) [] :=
  knownR_eq (v := Value.tuple { toList := [Value.int IntKind.i64 (0 : Int), Value.int IntKind.i64 (2 : Int)] }) (bs := []) (open_resD mix tabM_ok (T := tabM) (fuel := 3000) (es := []) (ans := [(0, .outs (Value.tuple #[Value.int IntKind.i64 (htV gs), Value.int IntKind.i64 (ckE gs)]) ([])), (1, .b 0), (2, .b 1)]) (log := [(decide (s < (1 : Int))) = true, (ckE gs != (0 : Int)) = false, (GTab.lookD (tabM) ((22 : Nat)) ([D.list (rowA gI gs) gs.length])) = some (Value.tuple #[Value.int IntKind.i64 (htV gs), Value.int IntKind.i64 (ckE gs)], [])]) (by kernel_rfl) ⟨hq1, hq0, (phD_at (gs) (gs.length) (by first | rfl | assumption | omega | (simp; done) | (simp_all; done) | (simp_all; omega)) (by first | rfl | assumption | omega | (simp; done) | (simp_all; done) | (simp_all; omega))), trivial⟩ (by kernel_rfl)) (by first | rfl | (simp; done) | (simp_all; done)) (by first | rfl | (simp [rowA_nil]; done) | (simp only [rowA_eq]; rfl) | (simp_all [rowA_nil]; done))
theorem mvT_p2 (gs : List Int) (s b : Int) (hx : gs.length ≤ 70) (hh : 0 ≤ htV gs ∧ htV gs ≤ 63000) (hq0 : (ckE gs != (0 : Int)) = false) (hq1 : (decide (s < (1 : Int))) = false) (hq2 : (decide (s > (20 : Int))) = true) : KnownR Try.prog [] 8 [.list (rowA gI gs) gs.length, .val (.int .i64 s), .val (.int .i64 b)] (.tuple #[(.int .i64 ((0 : Int))), (.int .i64 ((2 : Int)))]) [] :=
  knownR_eq (v := Value.tuple { toList := [Value.int IntKind.i64 (0 : Int), Value.int IntKind.i64 (2 : Int)] }) (bs := []) (open_resD mix tabM_ok (T := tabM) (fuel := 3000) (es := []) (ans := [(0, .outs (Value.tuple #[Value.int IntKind.i64 (htV gs), Value.int IntKind.i64 (ckE gs)]) ([])), (1, .b 0), (2, .b 0), (5, .b 1)]) (log := [(decide (s > (20 : Int))) = true, (decide (s < (1 : Int))) = false, (ckE gs != (0 : Int)) = false, (GTab.lookD (tabM) ((22 : Nat)) ([D.list (rowA gI gs) gs.length])) = some (Value.tuple #[Value.int IntKind.i64 (htV gs), Value.int IntKind.i64 (ckE gs)], [])]) (by kernel_rfl) ⟨hq2, hq1, hq0, (phD_at (gs) (gs.length) (by first | rfl | assumption | omega | (simp; done) | (simp_all; done) | (simp_all; omega)) (by first | rfl | assumption | omega | (simp; done) | (simp_all; done) | (simp_all; omega))), trivial⟩ (by kernel_rfl)) (by first | rfl | (simp; done) | (simp_all; done)) (by first | rfl | (simp [rowA_nil]; done) | (simp only [rowA_eq]; rfl) | (simp_all [rowA_nil]; done))
theorem mvT_p3 (gs : List Int) (s b : Int) (hx : gs.length ≤ 70) (hh : 0 ≤ htV gs ∧ htV gs ≤ 63000) (hq0 : (ckE gs != (0 : Int)) = false) (hq1 : (decide (s < (1 : Int))) = false) (hq2 : (decide (s > (20 : Int))) = false) (hq3 : (decide (b < (0 : Int))) = true) : KnownR Try.prog [] 8 [.list (rowA gI gs) gs.length, .val (.int .i64 s), .val (.int .i64 b)] (.tuple #[(.int .i64 ((0 : Int))), (.int .i64 ((2 : Int)))]) [] :=
  knownR_eq (v := Value.tuple { toList := [Value.int IntKind.i64 (0 : Int), Value.int IntKind.i64 (2 : Int)] }) (bs := []) (open_resD mix tabM_ok (T := tabM) (fuel := 3000) (es := []) (ans := [(0, .outs (Value.tuple #[Value.int IntKind.i64 (htV gs), Value.int IntKind.i64 (ckE gs)]) ([])), (1, .b 0), (2, .b 0), (5, .b 0), (8, .b 1)]) (log := [(decide (b < (0 : Int))) = true, (decide (s > (20 : Int))) = false, (decide (s < (1 : Int))) = false, (ckE gs != (0 : Int)) = false, (GTab.lookD (tabM) ((22 : Nat)) ([D.list (rowA gI gs) gs.length])) = some (Value.tuple #[Value.int IntKind.i64 (htV gs), Value.int IntKind.i64 (ckE gs)], [])]) (by kernel_rfl) ⟨hq3, hq2, hq1, hq0, (phD_at (gs) (gs.length) (by first | rfl | assumption | omega | (simp; done) | (simp_all; done) | (simp_all; omega)) (by first | rfl | assumption | omega | (simp; done) | (simp_all; done) | (simp_all; omega))), trivial⟩ (by kernel_rfl)) (by first | rfl | (simp; done) | (simp_all; done)) (by first | rfl | (simp [rowA_nil]; done) | (simp only [rowA_eq]; rfl) | (simp_all [rowA_nil]; done))
theorem mvT_p4 (gs : List Int) (s b : Int) (hx : gs.length ≤ 70) (hh : 0 ≤ htV gs ∧ htV gs ≤ 63000) (hq0 : (ckE gs != (0 : Int)) = false) (hq1 : (decide (s < (1 : Int))) = false) (hq2 : (decide (s > (20 : Int))) = false) (hq3 : (decide (b < (0 : Int))) = false) (hq4 : (decide (b > (5 : Int))) = true) : KnownR Try.prog [] 8 [.list (rowA gI gs) gs.length, .val (.int .i64 s), .val (.int .i64 b)] (.tuple #[(.int .i64 ((0 : Int))), (.int .i64 ((2 : Int)))]) [] :=
  knownR_eq (v := Value.tuple { toList := [Value.int IntKind.i64 (0 : Int), Value.int IntKind.i64 (2 : Int)] }) (bs := []) (open_resD mix tabM_ok (T := tabM) (fuel := 3000) (es := []) (ans := [(0, .outs (Value.tuple #[Value.int IntKind.i64 (htV gs), Value.int IntKind.i64 (ckE gs)]) ([])), (1, .b 0), (2, .b 0), (5, .b 0), (8, .b 0), (11, .b 1)]) (log := [(decide (b > (5 : Int))) = true, (decide (b < (0 : Int))) = false, (decide (s > (20 : Int))) = false, (decide (s < (1 : Int))) = false, (ckE gs != (0 : Int)) = false, (GTab.lookD (tabM) ((22 : Nat)) ([D.list (rowA gI gs) gs.length])) = some (Value.tuple #[Value.int IntKind.i64 (htV gs), Value.int IntKind.i64 (ckE gs)], [])]) (by kernel_rfl) ⟨hq4, hq3, hq2, hq1, hq0, (phD_at (gs) (gs.length) (by first | rfl | assumption | omega | (simp; done) | (simp_all; done) | (simp_all; omega)) (by first | rfl | assumption | omega | (simp; done) | (simp_all; done) | (simp_all; omega))), trivial⟩ (by kernel_rfl)) (by first | rfl | (simp; done) | (simp_all; done)) (by first | rfl | (simp [rowA_nil]; done) | (simp only [rowA_eq]; rfl) | (simp_all [rowA_nil]; done))
theorem mvT_p5 (gs : List Int) (s b : Int) (hx : gs.length ≤ 70) (hh : 0 ≤ htV gs ∧ htV gs ≤ 63000) (hq0 : (ckE gs != (0 : Int)) = false) (hq1 : (decide (s < (1 : Int))) = false) (hq2 : (decide (s > (20 : Int))) = false) (hq3 : (decide (b < (0 : Int))) = false) (hq4 : (decide (b > (5 : Int))) = false) (hq5 : (mvT_b5 gs s b) = true) : KnownR Try.prog [] 8 [.list (rowA gI gs) gs.length, .val (.int .i64 s), .val (.int .i64 b)] (.tuple #[(.int .i64 (IntKind.i64.wrap (rD s (htV gs) + IntKind.i64.wrap ((2 : Int) * b)))), (.int .i64 ((0 : Int)))]) [] :=
  knownR_eq (v := Value.tuple { toList := [Value.int IntKind.i64 (IntKind.i64.wrap (rD s (htV gs) + IntKind.i64.wrap ((2 : Int) * b))), Value.int IntKind.i64 (0 : Int)] }) (bs := []) (open_resD mix tabM_ok (T := tabM) (fuel := 3000) (es := []) (ans := [(0, .outs (Value.tuple #[Value.int IntKind.i64 (htV gs), Value.int IntKind.i64 (ckE gs)]) ([])), (1, .b 0), (2, .b 0), (5, .b 0), (8, .b 0), (11, .b 0), (13, .b 1)]) (log := [(mvT_b5 gs s b) = true, (decide (b > (5 : Int))) = false, (decide (b < (0 : Int))) = false, (decide (s > (20 : Int))) = false, (decide (s < (1 : Int))) = false, (ckE gs != (0 : Int)) = false, (GTab.lookD (tabM) ((22 : Nat)) ([D.list (rowA gI gs) gs.length])) = some (Value.tuple #[Value.int IntKind.i64 (htV gs), Value.int IntKind.i64 (ckE gs)], [])]) (by kernel_rfl) ⟨hq5, hq4, hq3, hq2, hq1, hq0, (phD_at (gs) (gs.length) (by first | rfl | assumption | omega | (simp; done) | (simp_all; done) | (simp_all; omega)) (by first | rfl | assumption | omega | (simp; done) | (simp_all; done) | (simp_all; omega))), trivial⟩ (by kernel_rfl)) (by first | rfl | (simp; done) | (simp_all; done)) (by first | rfl | (simp [rowA_nil]; done) | (simp only [rowA_eq]; rfl) | (simp_all [rowA_nil]; done))
set_option maxHeartbeats 8000000 in
theorem mvT (gs : List Int) (s b : Int) (hx : gs.length ≤ 70) (hh : 0 ≤ htV gs ∧ htV gs ≤ 63000) : KnownR Try.prog [] 8 [.list (rowA gI gs) gs.length, .val (.int .i64 s), .val (.int .i64 b)] (.tuple #[(.int .i64 (mvT_c0 gs s b)), (.int .i64 (mvT_c1 gs s b))]) [] := by
  rcases Bool.eq_false_or_eq_true (ckE gs != (0 : Int)) with hq0 | hq0
  ·
    have e0 : mvT_c0 gs s b = ((0 : Int)) := ((bif_t hq0 _ _).trans rfl); rw [e0]; have e1 : mvT_c1 gs s b = (ckE gs) := ((bif_t hq0 _ _).trans rfl); rw [e1]; exact mvT_p0 gs s b hx hh hq0
  ·
    rcases Bool.eq_false_or_eq_true (decide (s < (1 : Int))) with hq1 | hq1
    ·
      have e0 : mvT_c0 gs s b = ((0 : Int)) := ((bif_f hq0 _ _).trans ((bif_t hq1 _ _).trans rfl)); rw [e0]; have e1 : mvT_c1 gs s b = ((2 : Int)) := ((bif_f hq0 _ _).trans ((bif_t hq1 _ _).trans rfl)); rw [e1]; exact mvT_p1 gs s b hx hh hq0 hq1
    ·
      rcases Bool.eq_false_or_eq_true (decide (s > (20 : Int))) with hq2 | hq2
      ·
        have e0 : mvT_c0 gs s b = ((0 : Int)) := ((bif_f hq0 _ _).trans ((bif_f hq1 _ _).trans ((bif_t hq2 _ _).trans rfl))); rw [e0]; have e1 : mvT_c1 gs s b = ((2 : Int)) := ((bif_f hq0 _ _).trans ((bif_f hq1 _ _).trans ((bif_t hq2 _ _).trans rfl))); rw [e1]; exact mvT_p2 gs s b hx hh hq0 hq1 hq2
      ·
        rcases Bool.eq_false_or_eq_true (decide (b < (0 : Int))) with hq3 | hq3
        ·
          have e0 : mvT_c0 gs s b = ((0 : Int)) := ((bif_f hq0 _ _).trans ((bif_f hq1 _ _).trans ((bif_f hq2 _ _).trans ((bif_t hq3 _ _).trans rfl)))); rw [e0]; have e1 : mvT_c1 gs s b = ((2 : Int)) := ((bif_f hq0 _ _).trans ((bif_f hq1 _ _).trans ((bif_f hq2 _ _).trans ((bif_t hq3 _ _).trans rfl)))); rw [e1]; exact mvT_p3 gs s b hx hh hq0 hq1 hq2 hq3
        ·
          rcases Bool.eq_false_or_eq_true (decide (b > (5 : Int))) with hq4 | hq4
          ·
            have e0 : mvT_c0 gs s b = ((0 : Int)) := ((bif_f hq0 _ _).trans ((bif_f hq1 _ _).trans ((bif_f hq2 _ _).trans ((bif_f hq3 _ _).trans ((bif_t hq4 _ _).trans rfl))))); rw [e0]; have e1 : mvT_c1 gs s b = ((2 : Int)) := ((bif_f hq0 _ _).trans ((bif_f hq1 _ _).trans ((bif_f hq2 _ _).trans ((bif_f hq3 _ _).trans ((bif_t hq4 _ _).trans rfl))))); rw [e1]; exact mvT_p4 gs s b hx hh hq0 hq1 hq2 hq3 hq4
          ·
            have hq5 : (mvT_b5 gs s b) = true := by
              rcases Bool.eq_false_or_eq_true (mvT_b5 gs s b) with h | h
              · exact h
              · exfalso; (try simp only [mvT_b5] at *); (first | (simp_all only [Bool.and_eq_true, Bool.not_eq_true', Bool.false_eq_true, Bool.true_eq_false, reduceCtorEq]; done) | (simp only [sx, sy, eq_self, ne_eq, IntKind.wrap_i64, wrapU64, Int.reduceLT] at * <;> first | contradiction | omega) | omega | ((try simp only [sx, sy, eq_self, ne_eq, IntKind.wrap_i64, wrapU64, Int.reduceLT] at *) <;> omega) | (simp_all; done))
            have e0 : mvT_c0 gs s b = (IntKind.i64.wrap (rD s (htV gs) + IntKind.i64.wrap ((2 : Int) * b))) := ((bif_f hq0 _ _).trans ((bif_f hq1 _ _).trans ((bif_f hq2 _ _).trans ((bif_f hq3 _ _).trans ((bif_f hq4 _ _).trans rfl))))); rw [e0]; have e1 : mvT_c1 gs s b = ((0 : Int)) := ((bif_f hq0 _ _).trans ((bif_f hq1 _ _).trans ((bif_f hq2 _ _).trans ((bif_f hq3 _ _).trans ((bif_f hq4 _ _).trans rfl))))); rw [e1]; exact mvT_p5 gs s b hx hh hq0 hq1 hq2 hq3 hq4 hq5

noncomputable def rvT_b5 (gs : List Int) (s b : Int) : Bool := decide ((0 : Int) ≤ htV gs ∧ htV gs ≤ (63000 : Int) ∧ (1 : Int) ≤ s ∧ s ≤ (20 : Int))
noncomputable def rvT_c0 (gs : List Int) (s b : Int) : Int := (bif (ckE gs == (0 : Int)) then (bif (decide (s < (1 : Int))) then ((0 : Int)) else (bif (decide (s > (20 : Int))) then ((0 : Int)) else (bif (decide (b < (0 : Int))) then ((0 : Int)) else (bif (decide (b > (5 : Int))) then ((0 : Int)) else (IntKind.i64.wrap (rD s (htV gs) + IntKind.i64.wrap ((2 : Int) * b))))))) else ((0 : Int)))
noncomputable def rvT_c1 (gs : List Int) (s b : Int) : Int := (bif (ckE gs == (0 : Int)) then (bif (decide (s < (1 : Int))) then ((2 : Int)) else (bif (decide (s > (20 : Int))) then ((2 : Int)) else (bif (decide (b < (0 : Int))) then ((2 : Int)) else (bif (decide (b > (5 : Int))) then ((2 : Int)) else ((0 : Int)))))) else (ckE gs))
theorem rvT_p0 (gs : List Int) (s b : Int) (hx : gs.length ≤ 70) (hh : 0 ≤ htV gs ∧ htV gs ≤ 63000) (hq0 : (ckE gs == (0 : Int)) = true) (hq1 : (decide (s < (1 : Int))) = true) : KnownR Try.prog [] 9 [.list (rowA gI gs) gs.length, .val (.int .i64 s), .val (.int .i64 b)] (.tuple #[(.int .i64 ((0 : Int))), (.int .i64 ((2 : Int)))]) [] :=
  knownR_eq (v := Value.tuple { toList := [Value.int IntKind.i64 (0 : Int), Value.int IntKind.i64 (2 : Int)] }) (bs := []) (open_resD mix tabM_ok (T := tabM) (fuel := 3000) (es := []) (ans := [(0, .outs (Value.tuple #[Value.int IntKind.i64 (ckE gs), Value.int IntKind.i64 (ckI gs)]) ([])), (1, .b 1), (2, .b 1)]) (log := [(decide (s < (1 : Int))) = true, (ckE gs == (0 : Int)) = true, (GTab.lookD (tabM) ((24 : Nat)) ([D.list (rowA gI gs) gs.length])) = some (Value.tuple #[Value.int IntKind.i64 (ckE gs), Value.int IntKind.i64 (ckI gs)], [])]) (by kernel_rfl) ⟨hq1, hq0, (rcD_at (gs) (gs.length) (by first | rfl | assumption | omega | (simp; done) | (simp_all; done) | (simp_all; omega)) (by first | rfl | assumption | omega | (simp; done) | (simp_all; done) | (simp_all; omega))), trivial⟩ (by kernel_rfl)) (by first | rfl | (simp; done) | (simp_all; done)) (by first | rfl | (simp [rowA_nil]; done) | (simp only [rowA_eq]; rfl) | (simp_all [rowA_nil]; done))
theorem rvT_p1 (gs : List Int) (s b : Int) (hx : gs.length ≤ 70) (hh : 0 ≤ htV gs ∧ htV gs ≤ 63000) (hq0 : (ckE gs == (0 : Int)) = true) (hq1 : (decide (s < (1 : Int))) = false) (hq2 : (decide (s > (20 : Int))) = true) : KnownR Try.prog [] 9 [.list (rowA gI gs) gs.length, .val (.int .i64 s), .val (.int .i64 b)] (.tuple #[(.int .i64 ((0 : Int))), (.int .i64 ((2 : Int)))]) [] :=
  knownR_eq (v := Value.tuple { toList := [Value.int IntKind.i64 (0 : Int), Value.int IntKind.i64 (2 : Int)] }) (bs := []) (open_resD mix tabM_ok (T := tabM) (fuel := 3000) (es := []) (ans := [(0, .outs (Value.tuple #[Value.int IntKind.i64 (ckE gs), Value.int IntKind.i64 (ckI gs)]) ([])), (1, .b 1), (2, .b 0), (5, .b 1)]) (log := [(decide (s > (20 : Int))) = true, (decide (s < (1 : Int))) = false, (ckE gs == (0 : Int)) = true, (GTab.lookD (tabM) ((24 : Nat)) ([D.list (rowA gI gs) gs.length])) = some (Value.tuple #[Value.int IntKind.i64 (ckE gs), Value.int IntKind.i64 (ckI gs)], [])]) (by kernel_rfl) ⟨hq2, hq1, hq0, (rcD_at (gs) (gs.length) (by first | rfl | assumption | omega | (simp; done) | (simp_all; done) | (simp_all; omega)) (by first | rfl | assumption | omega | (simp; done) | (simp_all; done) | (simp_all; omega))), trivial⟩ (by kernel_rfl)) (by first | rfl | (simp; done) | (simp_all; done)) (by first | rfl | (simp [rowA_nil]; done) | (simp only [rowA_eq]; rfl) | (simp_all [rowA_nil]; done))
theorem rvT_p2 (gs : List Int) (s b : Int) (hx : gs.length ≤ 70) (hh : 0 ≤ htV gs ∧ htV gs ≤ 63000) (hq0 : (ckE gs == (0 : Int)) = true) (hq1 : (decide (s < (1 : Int))) = false) (hq2 : (decide (s > (20 : Int))) = false) (hq3 : (decide (b < (0 : Int))) = true) : KnownR Try.prog [] 9 [.list (rowA gI gs) gs.length, .val (.int .i64 s), .val (.int .i64 b)] (.tuple #[(.int .i64 ((0 : Int))), (.int .i64 ((2 : Int)))]) [] :=
  knownR_eq (v := Value.tuple { toList := [Value.int IntKind.i64 (0 : Int), Value.int IntKind.i64 (2 : Int)] }) (bs := []) (open_resD mix tabM_ok (T := tabM) (fuel := 3000) (es := []) (ans := [(0, .outs (Value.tuple #[Value.int IntKind.i64 (ckE gs), Value.int IntKind.i64 (ckI gs)]) ([])), (1, .b 1), (2, .b 0), (5, .b 0), (8, .b 1)]) (log := [(decide (b < (0 : Int))) = true, (decide (s > (20 : Int))) = false, (decide (s < (1 : Int))) = false, (ckE gs == (0 : Int)) = true, (GTab.lookD (tabM) ((24 : Nat)) ([D.list (rowA gI gs) gs.length])) = some (Value.tuple #[Value.int IntKind.i64 (ckE gs), Value.int IntKind.i64 (ckI gs)], [])]) (by kernel_rfl) ⟨hq3, hq2, hq1, hq0, (rcD_at (gs) (gs.length) (by first | rfl | assumption | omega | (simp; done) | (simp_all; done) | (simp_all; omega)) (by first | rfl | assumption | omega | (simp; done) | (simp_all; done) | (simp_all; omega))), trivial⟩ (by kernel_rfl)) (by first | rfl | (simp; done) | (simp_all; done)) (by first | rfl | (simp [rowA_nil]; done) | (simp only [rowA_eq]; rfl) | (simp_all [rowA_nil]; done))
theorem rvT_p3 (gs : List Int) (s b : Int) (hx : gs.length ≤ 70) (hh : 0 ≤ htV gs ∧ htV gs ≤ 63000) (hq0 : (ckE gs == (0 : Int)) = true) (hq1 : (decide (s < (1 : Int))) = false) (hq2 : (decide (s > (20 : Int))) = false) (hq3 : (decide (b < (0 : Int))) = false) (hq4 : (decide (b > (5 : Int))) = true) : KnownR Try.prog [] 9 [.list (rowA gI gs) gs.length, .val (.int .i64 s), .val (.int .i64 b)] (.tuple #[(.int .i64 ((0 : Int))), (.int .i64 ((2 : Int)))]) [] :=
  knownR_eq (v := Value.tuple { toList := [Value.int IntKind.i64 (0 : Int), Value.int IntKind.i64 (2 : Int)] }) (bs := []) (open_resD mix tabM_ok (T := tabM) (fuel := 3000) (es := []) (ans := [(0, .outs (Value.tuple #[Value.int IntKind.i64 (ckE gs), Value.int IntKind.i64 (ckI gs)]) ([])), (1, .b 1), (2, .b 0), (5, .b 0), (8, .b 0), (11, .b 1)]) (log := [(decide (b > (5 : Int))) = true, (decide (b < (0 : Int))) = false, (decide (s > (20 : Int))) = false, (decide (s < (1 : Int))) = false, (ckE gs == (0 : Int)) = true, (GTab.lookD (tabM) ((24 : Nat)) ([D.list (rowA gI gs) gs.length])) = some (Value.tuple #[Value.int IntKind.i64 (ckE gs), Value.int IntKind.i64 (ckI gs)], [])]) (by kernel_rfl) ⟨hq4, hq3, hq2, hq1, hq0, (rcD_at (gs) (gs.length) (by first | rfl | assumption | omega | (simp; done) | (simp_all; done) | (simp_all; omega)) (by first | rfl | assumption | omega | (simp; done) | (simp_all; done) | (simp_all; omega))), trivial⟩ (by kernel_rfl)) (by first | rfl | (simp; done) | (simp_all; done)) (by first | rfl | (simp [rowA_nil]; done) | (simp only [rowA_eq]; rfl) | (simp_all [rowA_nil]; done))
theorem rvT_p4 (gs : List Int) (s b : Int) (hx : gs.length ≤ 70) (hh : 0 ≤ htV gs ∧ htV gs ≤ 63000) (hq0 : (ckE gs == (0 : Int)) = true) (hq1 : (decide (s < (1 : Int))) = false) (hq2 : (decide (s > (20 : Int))) = false) (hq3 : (decide (b < (0 : Int))) = false) (hq4 : (decide (b > (5 : Int))) = false) (hq5 : (rvT_b5 gs s b) = true) : KnownR Try.prog [] 9 [.list (rowA gI gs) gs.length, .val (.int .i64 s), .val (.int .i64 b)] (.tuple #[(.int .i64 (IntKind.i64.wrap (rD s (htV gs) + IntKind.i64.wrap ((2 : Int) * b)))), (.int .i64 ((0 : Int)))]) [] :=
  knownR_eq (v := Value.tuple { toList := [Value.int IntKind.i64 (IntKind.i64.wrap (rD s (htV gs) + IntKind.i64.wrap ((2 : Int) * b))), Value.int IntKind.i64 (0 : Int)] }) (bs := []) (open_resD mix tabM_ok (T := tabM) (fuel := 3000) (es := []) (ans := [(0, .outs (Value.tuple #[Value.int IntKind.i64 (ckE gs), Value.int IntKind.i64 (ckI gs)]) ([])), (1, .b 1), (2, .b 0), (5, .b 0), (8, .b 0), (11, .b 0), (13, .outs (Value.tuple #[Value.int IntKind.i64 (htV gs), Value.int IntKind.i64 (ckE gs)]) ([])), (14, .b 1)]) (log := [(rvT_b5 gs s b) = true, (GTab.lookD (tabM) ((26 : Nat)) ([D.list (rowA gI gs) gs.length])) = some (Value.tuple #[Value.int IntKind.i64 (htV gs), Value.int IntKind.i64 (ckE gs)], []), (decide (b > (5 : Int))) = false, (decide (b < (0 : Int))) = false, (decide (s > (20 : Int))) = false, (decide (s < (1 : Int))) = false, (ckE gs == (0 : Int)) = true, (GTab.lookD (tabM) ((24 : Nat)) ([D.list (rowA gI gs) gs.length])) = some (Value.tuple #[Value.int IntKind.i64 (ckE gs), Value.int IntKind.i64 (ckI gs)], [])]) (by kernel_rfl) ⟨hq5, (rhD_at (gs) (gs.length) (by first | rfl | assumption | omega | (simp; done) | (simp_all; done) | (simp_all; omega)) (by first | rfl | assumption | omega | (simp; done) | (simp_all; done) | (simp_all; omega))), hq4, hq3, hq2, hq1, hq0, (rcD_at (gs) (gs.length) (by first | rfl | assumption | omega | (simp; done) | (simp_all; done) | (simp_all; omega)) (by first | rfl | assumption | omega | (simp; done) | (simp_all; done) | (simp_all; omega))), trivial⟩ (by kernel_rfl)) (by first | rfl | (simp; done) | (simp_all; done)) (by first | rfl | (simp [rowA_nil]; done) | (simp only [rowA_eq]; rfl) | (simp_all [rowA_nil]; done))
theorem rvT_p5 (gs : List Int) (s b : Int) (hx : gs.length ≤ 70) (hh : 0 ≤ htV gs ∧ htV gs ≤ 63000) (hq0 : (ckE gs == (0 : Int)) = false) (hq6 : (ckE gs != (0 : Int)) = true) : KnownR Try.prog [] 9 [.list (rowA gI gs) gs.length, .val (.int .i64 s), .val (.int .i64 b)] (.tuple #[(.int .i64 ((0 : Int))), (.int .i64 (ckE gs))]) [] :=
  knownR_eq (v := Value.tuple { toList := [Value.int IntKind.i64 (0 : Int), Value.int IntKind.i64 (ckE gs)] }) (bs := []) (open_resD mix tabM_ok (T := tabM) (fuel := 3000) (es := []) (ans := [(0, .outs (Value.tuple #[Value.int IntKind.i64 (ckE gs), Value.int IntKind.i64 (ckI gs)]) ([])), (1, .b 0), (2, .b 1)]) (log := [(ckE gs != (0 : Int)) = true, (ckE gs == (0 : Int)) = false, (GTab.lookD (tabM) ((24 : Nat)) ([D.list (rowA gI gs) gs.length])) = some (Value.tuple #[Value.int IntKind.i64 (ckE gs), Value.int IntKind.i64 (ckI gs)], [])]) (by kernel_rfl) ⟨hq6, hq0, (rcD_at (gs) (gs.length) (by first | rfl | assumption | omega | (simp; done) | (simp_all; done) | (simp_all; omega)) (by first | rfl | assumption | omega | (simp; done) | (simp_all; done) | (simp_all; omega))), trivial⟩ (by kernel_rfl)) (by first | rfl | (simp; done) | (simp_all; done)) (by first | rfl | (simp [rowA_nil]; done) | (simp only [rowA_eq]; rfl) | (simp_all [rowA_nil]; done))
set_option maxHeartbeats 8000000 in
theorem rvT (gs : List Int) (s b : Int) (hx : gs.length ≤ 70) (hh : 0 ≤ htV gs ∧ htV gs ≤ 63000) : KnownR Try.prog [] 9 [.list (rowA gI gs) gs.length, .val (.int .i64 s), .val (.int .i64 b)] (.tuple #[(.int .i64 (rvT_c0 gs s b)), (.int .i64 (rvT_c1 gs s b))]) [] := by
  rcases Bool.eq_false_or_eq_true (ckE gs == (0 : Int)) with hq0 | hq0
  ·
    rcases Bool.eq_false_or_eq_true (decide (s < (1 : Int))) with hq1 | hq1
    ·
      have e0 : rvT_c0 gs s b = ((0 : Int)) := ((bif_t hq0 _ _).trans ((bif_t hq1 _ _).trans rfl)); rw [e0]; have e1 : rvT_c1 gs s b = ((2 : Int)) := ((bif_t hq0 _ _).trans ((bif_t hq1 _ _).trans rfl)); rw [e1]; exact rvT_p0 gs s b hx hh hq0 hq1
    ·
      rcases Bool.eq_false_or_eq_true (decide (s > (20 : Int))) with hq2 | hq2
      ·
        have e0 : rvT_c0 gs s b = ((0 : Int)) := ((bif_t hq0 _ _).trans ((bif_f hq1 _ _).trans ((bif_t hq2 _ _).trans rfl))); rw [e0]; have e1 : rvT_c1 gs s b = ((2 : Int)) := ((bif_t hq0 _ _).trans ((bif_f hq1 _ _).trans ((bif_t hq2 _ _).trans rfl))); rw [e1]; exact rvT_p1 gs s b hx hh hq0 hq1 hq2
      ·
        rcases Bool.eq_false_or_eq_true (decide (b < (0 : Int))) with hq3 | hq3
        ·
          have e0 : rvT_c0 gs s b = ((0 : Int)) := ((bif_t hq0 _ _).trans ((bif_f hq1 _ _).trans ((bif_f hq2 _ _).trans ((bif_t hq3 _ _).trans rfl)))); rw [e0]; have e1 : rvT_c1 gs s b = ((2 : Int)) := ((bif_t hq0 _ _).trans ((bif_f hq1 _ _).trans ((bif_f hq2 _ _).trans ((bif_t hq3 _ _).trans rfl)))); rw [e1]; exact rvT_p2 gs s b hx hh hq0 hq1 hq2 hq3
        ·
          rcases Bool.eq_false_or_eq_true (decide (b > (5 : Int))) with hq4 | hq4
          ·
            have e0 : rvT_c0 gs s b = ((0 : Int)) := ((bif_t hq0 _ _).trans ((bif_f hq1 _ _).trans ((bif_f hq2 _ _).trans ((bif_f hq3 _ _).trans ((bif_t hq4 _ _).trans rfl))))); rw [e0]; have e1 : rvT_c1 gs s b = ((2 : Int)) := ((bif_t hq0 _ _).trans ((bif_f hq1 _ _).trans ((bif_f hq2 _ _).trans ((bif_f hq3 _ _).trans ((bif_t hq4 _ _).trans rfl))))); rw [e1]; exact rvT_p3 gs s b hx hh hq0 hq1 hq2 hq3 hq4
          ·
            have hq5 : (rvT_b5 gs s b) = true := by
              rcases Bool.eq_false_or_eq_true (rvT_b5 gs s b) with h | h
              · exact h
              · exfalso; (try simp only [rvT_b5] at *); (first | (simp_all only [Bool.and_eq_true, Bool.not_eq_true', Bool.false_eq_true, Bool.true_eq_false, reduceCtorEq]; done) | (simp only [sx, sy, eq_self, ne_eq, IntKind.wrap_i64, wrapU64, Int.reduceLT] at * <;> first | contradiction | omega) | omega | ((try simp only [sx, sy, eq_self, ne_eq, IntKind.wrap_i64, wrapU64, Int.reduceLT] at *) <;> omega) | (simp_all; done))
            have e0 : rvT_c0 gs s b = (IntKind.i64.wrap (rD s (htV gs) + IntKind.i64.wrap ((2 : Int) * b))) := ((bif_t hq0 _ _).trans ((bif_f hq1 _ _).trans ((bif_f hq2 _ _).trans ((bif_f hq3 _ _).trans ((bif_f hq4 _ _).trans rfl))))); rw [e0]; have e1 : rvT_c1 gs s b = ((0 : Int)) := ((bif_t hq0 _ _).trans ((bif_f hq1 _ _).trans ((bif_f hq2 _ _).trans ((bif_f hq3 _ _).trans ((bif_f hq4 _ _).trans rfl))))); rw [e1]; exact rvT_p4 gs s b hx hh hq0 hq1 hq2 hq3 hq4 hq5
  ·
    have hq6 : (ckE gs != (0 : Int)) = true := by
      rcases Bool.eq_false_or_eq_true (ckE gs != (0 : Int)) with h | h
      · exact h
      · exfalso; (try simp only [rvT_b5] at *); (first | (simp_all only [Bool.and_eq_true, Bool.not_eq_true', Bool.false_eq_true, Bool.true_eq_false, reduceCtorEq]; done) | (simp only [sx, sy, eq_self, ne_eq, IntKind.wrap_i64, wrapU64, Int.reduceLT] at * <;> first | contradiction | omega) | omega | ((try simp only [sx, sy, eq_self, ne_eq, IntKind.wrap_i64, wrapU64, Int.reduceLT] at *) <;> omega) | (simp_all; done))
    have e0 : rvT_c0 gs s b = ((0 : Int)) := ((bif_f hq0 _ _).trans rfl); rw [e0]; have e1 : rvT_c1 gs s b = (ckE gs) := ((bif_f hq0 _ _).trans rfl); rw [e1]; exact rvT_p5 gs s b hx hh hq0 hq6

end Go.Proofs.Ytcjlidciniiofaa
