import Derived.Test.YtcjlidciniiofaaM16
import Derived.ProofKit
import Derived.IntWalk
set_option linter.unnecessarySimpa false
set_option linter.unusedSimpArgs false
set_option linter.unusedVariables false
namespace Go.Proofs.Ytcjlidciniiofaa
open Go Go.RowKit
set_option maxHeartbeats 8000000
set_option maxRecDepth 100000
attribute [local irreducible] atO mdV gqV glV
theorem qDu (n m : Int) (hg : (decide (0 ≤ n ∧ n ≤ 63000 ∧ 1 ≤ m ∧ m ≤ 20)) = true) : Known Try.prog [] 40 [.int .i64 n, .int .i64 m] (.int .i64 (rD m n)) := by have h := of_decide_eq_true hg; exact pDuration ⟨h.1, h.2.1⟩ h.2.2
noncomputable def qDu_k : List Value → Option (Bool × Value)
 | [.int .i64 n, .int .i64 m] => some (decide (0 ≤ n ∧ n ≤ 63000 ∧ 1 ≤ m ∧ m ≤ 20), .int .i64 (rD m n))
 | _ => none
theorem qDu_ok : ∀ args v, qDu_k args = some (true, v) → Known Try.prog [] 40 args v := by
 intro args v h
 unfold qDu_k at h
 split at h
 ·injection h with h; injection h with hg h; subst h; exact qDu _ _ hg
 ·cases h
noncomputable def tabS5 : GTab := (GTab.fn 40 qDu_k GTab.none)
theorem tabS5_ok : GOk Try.prog [] tabS5 := (GOk.fn qDu_ok GOk.none)
noncomputable def pTr_b4 (n m : Int) : Bool := decide ((0 : Int) ≤ n ∧ n ≤ (63000 : Int) ∧ (1 : Int) ≤ m ∧ m ≤ (20 : Int))
noncomputable def pTr_c0 (n m : Int) : Int := (rD m n)
theorem pTr_p0 (n m : Int) (h1 : 0 ≤ n ∧ n ≤ 63000 ∧ 1 ≤ m ∧ m ≤ 20) (hq0 : (decide (n < (0 : Int))) = false) (hq1 : (decide (n > (63000 : Int))) = false) (hq2 : (decide (m < (1 : Int))) = false) (hq3 : (decide (m > (20 : Int))) = false) (hq4 : (pTr_b4 n m) = true) : Known Try.prog [] 19 [.int .i64 n, .int .i64 m] (.tuple #[(.int .i64 (rD m n)), (.int .i64 ((0 : Int)))]) :=
 open_res mix tabS5_ok (T := tabS5) (fuel := 3000) (ans := [(0, .b 0), (3, .b 0), (6, .b 0), (9, .b 0), (11, .b 1)]) (log := [(pTr_b4 n m) = true, (decide (m > (20 : Int))) = false, (decide (m < (1 : Int))) = false, (decide (n > (63000 : Int))) = false, (decide (n < (0 : Int))) = false]) (by kernel_rfl) ⟨hq4, hq3, hq2, hq1, hq0, trivial⟩ (by kernel_rfl)
set_option maxHeartbeats 8000000 in
theorem pTr (n m : Int) (h1 : 0 ≤ n ∧ n ≤ 63000 ∧ 1 ≤ m ∧ m ≤ 20) : Known Try.prog [] 19 [.int .i64 n, .int .i64 m] (.tuple #[(.int .i64 (pTr_c0 n m)), (.int .i64 ((0 : Int)))]) := by
 have hq0 : (decide (n < (0 : Int))) = false := by
  rcases Bool.eq_false_or_eq_true (decide (n < (0 : Int))) with h | h
  ·exfalso; (try simp only [pTr_b4] at *); (first | (simp_all only [Bool.and_eq_true, Bool.not_eq_true', Bool.false_eq_true, Bool.true_eq_false, reduceCtorEq]; done) | (simp only [sx, sy, eq_self, ne_eq, IntKind.wrap_i64, wrapU64, Int.reduceLT] at * <;> first | with_reducible contradiction | omega) | omega | ((try simp only [sx, sy, eq_self, ne_eq, IntKind.wrap_i64, wrapU64, Int.reduceLT] at *) <;> omega) | (simp_all; done))
  ·exact h
 have hq1 : (decide (n > (63000 : Int))) = false := by
  rcases Bool.eq_false_or_eq_true (decide (n > (63000 : Int))) with h | h
  ·exfalso; (try simp only [pTr_b4] at *); (first | (simp_all only [Bool.and_eq_true, Bool.not_eq_true', Bool.false_eq_true, Bool.true_eq_false, reduceCtorEq]; done) | (simp only [sx, sy, eq_self, ne_eq, IntKind.wrap_i64, wrapU64, Int.reduceLT] at * <;> first | with_reducible contradiction | omega) | omega | ((try simp only [sx, sy, eq_self, ne_eq, IntKind.wrap_i64, wrapU64, Int.reduceLT] at *) <;> omega) | (simp_all; done))
  ·exact h
 have hq2 : (decide (m < (1 : Int))) = false := by
  rcases Bool.eq_false_or_eq_true (decide (m < (1 : Int))) with h | h
  ·exfalso; (try simp only [pTr_b4] at *); (first | (simp_all only [Bool.and_eq_true, Bool.not_eq_true', Bool.false_eq_true, Bool.true_eq_false, reduceCtorEq]; done) | (simp only [sx, sy, eq_self, ne_eq, IntKind.wrap_i64, wrapU64, Int.reduceLT] at * <;> first | with_reducible contradiction | omega) | omega | ((try simp only [sx, sy, eq_self, ne_eq, IntKind.wrap_i64, wrapU64, Int.reduceLT] at *) <;> omega) | (simp_all; done))
  ·exact h
 have hq3 : (decide (m > (20 : Int))) = false := by
  rcases Bool.eq_false_or_eq_true (decide (m > (20 : Int))) with h | h
  ·exfalso; (try simp only [pTr_b4] at *); (first | (simp_all only [Bool.and_eq_true, Bool.not_eq_true', Bool.false_eq_true, Bool.true_eq_false, reduceCtorEq]; done) | (simp only [sx, sy, eq_self, ne_eq, IntKind.wrap_i64, wrapU64, Int.reduceLT] at * <;> first | with_reducible contradiction | omega) | omega | ((try simp only [sx, sy, eq_self, ne_eq, IntKind.wrap_i64, wrapU64, Int.reduceLT] at *) <;> omega) | (simp_all; done))
  ·exact h
 have hq4 : (pTr_b4 n m) = true := by
  rcases Bool.eq_false_or_eq_true (pTr_b4 n m) with h | h
  ·exact h
  ·exfalso; (try simp only [pTr_b4] at *); (first | (simp_all only [Bool.and_eq_true, Bool.not_eq_true', Bool.false_eq_true, Bool.true_eq_false, reduceCtorEq]; done) | (simp only [sx, sy, eq_self, ne_eq, IntKind.wrap_i64, wrapU64, Int.reduceLT] at * <;> first | with_reducible contradiction | omega) | omega | ((try simp only [sx, sy, eq_self, ne_eq, IntKind.wrap_i64, wrapU64, Int.reduceLT] at *) <;> omega) | (simp_all; done))
 have e0 : pTr_c0 n m = (rD m n) := rfl; rw [e0]; exact pTr_p0 n m h1 hq0 hq1 hq2 hq3 hq4
theorem kTp (n m : Int) (hg : (decide (0 ≤ n ∧ n ≤ 63000 ∧ 1 ≤ m ∧ m ≤ 20)) = true) : Known Try.prog [] 19 [.int .i64 n, .int .i64 m] (.tuple #[.int .i64 (rD m n), .int .i64 0]) := by have h := of_decide_eq_true hg; exact pTr n m h
noncomputable def kTp_k : List Value → Option (Bool × Value)
 | [.int .i64 n, .int .i64 m] => some (decide (0 ≤ n ∧ n ≤ 63000 ∧ 1 ≤ m ∧ m ≤ 20), .tuple #[.int .i64 (rD m n), .int .i64 0])
 | _ => none
theorem kTp_ok : ∀ args v, kTp_k args = some (true, v) → Known Try.prog [] 19 args v := by
 intro args v h
 unfold kTp_k at h
 split at h
 ·injection h with h; injection h with hg h; subst h; exact kTp _ _ hg
 ·cases h
theorem phD (gs : List Int) (hx : gs.length ≤ 1000) : KnownR Try.prog [] 22 [.list (rowA gI gs) gs.length] (.tuple #[.int .i64 (htV gs), .int .i64 (ckE gs)]) ([]) := height_p gs hx
noncomputable def phD_A (p : List Int × Nat × Unit) : List D := match p with
 | (gs, nn0, _) => [.list (rowA gI gs) nn0]
noncomputable def phD_C (p : List Int × Nat × Unit) : Prop := match p with
 | (gs, nn0, _) => (nn0 = gs.length) ∧ (gs.length ≤ 1000) ∧ True
noncomputable def phD_R (p : List Int × Nat × Unit) : Value × Outs := match p with
 | (gs, nn0, _) => (.tuple #[.int .i64 (htV gs), .int .i64 (ckE gs)], [])
theorem phD_inj : ∀ p q, phD_C p → phD_C q → phD_A p = phD_A q → phD_R p = phD_R q := by
 rintro ⟨gs, nn0, _⟩ ⟨gs', nn0', _⟩ _ _ e
 simp only [phD_A, List.cons.injEq, D.list.injEq, D.val.injEq, D.agg.injEq, Value.int.injEq, Value.bool.injEq, Value.string.injEq, Value.agg.injEq, Array.mk.injEq, and_true, true_and, gI_inj, gB_inj] at e
 simp_all
noncomputable def phD_k : List D → Option (Value × Outs) := fnP phD_A phD_C phD_R
theorem phD_n (gs : List Int) (nn0 : Nat) (hn0 : nn0 = gs.length) (hx : gs.length ≤ 1000) : KnownR Try.prog [] 22 [.list (rowA gI gs) nn0] (.tuple #[.int .i64 (htV gs), .int .i64 (ckE gs)]) ([]) := by
 subst hn0; skip
 exact phD _ hx
theorem phD_ok : ∀ ds v bs, phD_k ds = some (v, bs) → KnownR Try.prog [] 22 ds v bs := fnP_ok (by
 rintro ⟨gs, nn0, _⟩ ⟨hn0, hx, _⟩
 exact phD_n _ _ hn0 hx)
theorem phD_at (gs : List Int) (nn0 : Nat) (hn0 : nn0 = gs.length) (hx : gs.length ≤ 1000) : phD_k [.list (rowA gI gs) nn0] = some (.tuple #[.int .i64 (htV gs), .int .i64 (ckE gs)], []) := fnP_at (p := (gs, nn0, ())) phD_inj ⟨hn0, hx, trivial⟩ rfl rfl
noncomputable def tabM5 : GTab := (GTab.fnD 22 phD_k (GTab.fn 19 kTp_k GTab.none))
theorem tabM5_ok : GOk Try.prog [] tabM5 := (GOk.fnD phD_ok (GOk.fn kTp_ok GOk.none))
noncomputable def mvT_b5 (gs : List Int) (s b : Int) : Bool := decide ((0 : Int) ≤ htV gs ∧ htV gs ≤ (63000 : Int) ∧ (1 : Int) ≤ s ∧ s ≤ (20 : Int))
noncomputable def mvT_c0 (gs : List Int) (s b : Int) : Int := (IntKind.i64.wrap (rD s (htV gs) + IntKind.i64.wrap ((2 : Int) * b)))
theorem mvT_p0 (gs : List Int) (s b : Int) (hx : gs.length ≤ 70) (hc : ckE gs = 0) (hh : 0 ≤ htV gs ∧ htV gs ≤ 63000) (hs : 1 ≤ s ∧ s ≤ 20) (hb : 0 ≤ b ∧ b ≤ 5) (hq0 : (ckE gs != (0 : Int)) = false) (hq1 : (decide (s < (1 : Int))) = false) (hq2 : (decide (s > (20 : Int))) = false) (hq3 : (decide (b < (0 : Int))) = false) (hq4 : (decide (b > (5 : Int))) = false) (hq5 : (mvT_b5 gs s b) = true) : KnownR Try.prog [] 8 [.list (rowA gI gs) gs.length, .val (.int .i64 s), .val (.int .i64 b)] (.tuple #[(.int .i64 (IntKind.i64.wrap (rD s (htV gs) + IntKind.i64.wrap ((2 : Int) * b)))), (.int .i64 ((0 : Int)))]) [] :=
 knownR_eq (v := Value.tuple { toList := [Value.int IntKind.i64 (IntKind.i64.wrap (rD s (htV gs) + IntKind.i64.wrap ((2 : Int) * b))), Value.int IntKind.i64 (0 : Int)] }) (bs := []) (open_resD mix tabM5_ok (T := tabM5) (fuel := 3000) (es := []) (ans := [(0, .outs (Value.tuple #[Value.int IntKind.i64 (htV gs), Value.int IntKind.i64 (ckE gs)]) ([])), (1, .b 0), (2, .b 0), (5, .b 0), (8, .b 0), (11, .b 0), (13, .b 1)]) (log := [(mvT_b5 gs s b) = true, (decide (b > (5 : Int))) = false, (decide (b < (0 : Int))) = false, (decide (s > (20 : Int))) = false, (decide (s < (1 : Int))) = false, (ckE gs != (0 : Int)) = false, (GTab.lookD (tabM5) ((22 : Nat)) ([D.list (rowA gI gs) gs.length])) = some (Value.tuple #[Value.int IntKind.i64 (htV gs), Value.int IntKind.i64 (ckE gs)], [])]) (by kernel_rfl) ⟨hq5, hq4, hq3, hq2, hq1, hq0, (phD_at (gs) (gs.length) (by first | rfl | assumption | omega | (simp; done) | (simp_all; done) | (simp_all; omega)) (by first | rfl | assumption | omega | (simp; done) | (simp_all; done) | (simp_all; omega))), trivial⟩ (by kernel_rfl)) (by first | rfl | (simp; done) | (simp_all; done)) (by first | rfl | (simp [rowA_nil]; done) | (simp only [rowA_eq]; rfl) | (simp_all [rowA_nil]; done))
set_option maxHeartbeats 8000000 in
theorem mvT (gs : List Int) (s b : Int) (hx : gs.length ≤ 70) (hc : ckE gs = 0) (hh : 0 ≤ htV gs ∧ htV gs ≤ 63000) (hs : 1 ≤ s ∧ s ≤ 20) (hb : 0 ≤ b ∧ b ≤ 5) : KnownR Try.prog [] 8 [.list (rowA gI gs) gs.length, .val (.int .i64 s), .val (.int .i64 b)] (.tuple #[(.int .i64 (mvT_c0 gs s b)), (.int .i64 ((0 : Int)))]) [] := by
 have hq0 : (ckE gs != (0 : Int)) = false := by
  rcases Bool.eq_false_or_eq_true (ckE gs != (0 : Int)) with h | h
  ·exfalso; (try simp only [mvT_b5] at *); (first | (simp_all only [Bool.and_eq_true, Bool.not_eq_true', Bool.false_eq_true, Bool.true_eq_false, reduceCtorEq]; done) | (simp only [sx, sy, eq_self, ne_eq, IntKind.wrap_i64, wrapU64, Int.reduceLT] at * <;> first | with_reducible contradiction | omega) | omega | ((try simp only [sx, sy, eq_self, ne_eq, IntKind.wrap_i64, wrapU64, Int.reduceLT] at *) <;> omega) | (simp_all; done))
  ·exact h
 have hq1 : (decide (s < (1 : Int))) = false := by
  rcases Bool.eq_false_or_eq_true (decide (s < (1 : Int))) with h | h
  ·exfalso; (try simp only [mvT_b5] at *); (first | (simp_all only [Bool.and_eq_true, Bool.not_eq_true', Bool.false_eq_true, Bool.true_eq_false, reduceCtorEq]; done) | (simp only [sx, sy, eq_self, ne_eq, IntKind.wrap_i64, wrapU64, Int.reduceLT] at * <;> first | with_reducible contradiction | omega) | omega | ((try simp only [sx, sy, eq_self, ne_eq, IntKind.wrap_i64, wrapU64, Int.reduceLT] at *) <;> omega) | (simp_all; done))
  ·exact h
 have hq2 : (decide (s > (20 : Int))) = false := by
  rcases Bool.eq_false_or_eq_true (decide (s > (20 : Int))) with h | h
  ·exfalso; (try simp only [mvT_b5] at *); (first | (simp_all only [Bool.and_eq_true, Bool.not_eq_true', Bool.false_eq_true, Bool.true_eq_false, reduceCtorEq]; done) | (simp only [sx, sy, eq_self, ne_eq, IntKind.wrap_i64, wrapU64, Int.reduceLT] at * <;> first | with_reducible contradiction | omega) | omega | ((try simp only [sx, sy, eq_self, ne_eq, IntKind.wrap_i64, wrapU64, Int.reduceLT] at *) <;> omega) | (simp_all; done))
  ·exact h
 have hq3 : (decide (b < (0 : Int))) = false := by
  rcases Bool.eq_false_or_eq_true (decide (b < (0 : Int))) with h | h
  ·exfalso; (try simp only [mvT_b5] at *); (first | (simp_all only [Bool.and_eq_true, Bool.not_eq_true', Bool.false_eq_true, Bool.true_eq_false, reduceCtorEq]; done) | (simp only [sx, sy, eq_self, ne_eq, IntKind.wrap_i64, wrapU64, Int.reduceLT] at * <;> first | with_reducible contradiction | omega) | omega | ((try simp only [sx, sy, eq_self, ne_eq, IntKind.wrap_i64, wrapU64, Int.reduceLT] at *) <;> omega) | (simp_all; done))
  ·exact h
 have hq4 : (decide (b > (5 : Int))) = false := by
  rcases Bool.eq_false_or_eq_true (decide (b > (5 : Int))) with h | h
  ·exfalso; (try simp only [mvT_b5] at *); (first | (simp_all only [Bool.and_eq_true, Bool.not_eq_true', Bool.false_eq_true, Bool.true_eq_false, reduceCtorEq]; done) | (simp only [sx, sy, eq_self, ne_eq, IntKind.wrap_i64, wrapU64, Int.reduceLT] at * <;> first | with_reducible contradiction | omega) | omega | ((try simp only [sx, sy, eq_self, ne_eq, IntKind.wrap_i64, wrapU64, Int.reduceLT] at *) <;> omega) | (simp_all; done))
  ·exact h
 have hq5 : (mvT_b5 gs s b) = true := by
  rcases Bool.eq_false_or_eq_true (mvT_b5 gs s b) with h | h
  ·exact h
  ·exfalso; (try simp only [mvT_b5] at *); (first | (simp_all only [Bool.and_eq_true, Bool.not_eq_true', Bool.false_eq_true, Bool.true_eq_false, reduceCtorEq]; done) | (simp only [sx, sy, eq_self, ne_eq, IntKind.wrap_i64, wrapU64, Int.reduceLT] at * <;> first | with_reducible contradiction | omega) | omega | ((try simp only [sx, sy, eq_self, ne_eq, IntKind.wrap_i64, wrapU64, Int.reduceLT] at *) <;> omega) | (simp_all; done))
 have e0 : mvT_c0 gs s b = (IntKind.i64.wrap (rD s (htV gs) + IntKind.i64.wrap ((2 : Int) * b))) := rfl; rw [e0]; exact mvT_p0 gs s b hx hc hh hs hb hq0 hq1 hq2 hq3 hq4 hq5
noncomputable def atL_c0 (p : Int) : Int := (p)
noncomputable def atL_c1 (p : Int) : Int := (p)
theorem atL_p0 (p : Int) (h1 : 0 ≤ p ∧ p ≤ 63000) (hq0 : (decide (p ≥ (0 : Int))) = true) (hq1 : (!decide (p ≤ (63000 : Int))) = false) : Known Try.prog [] 12 [.int .i64 p] (.agg #[(.int .i64 (p)), (.int .i64 (p)), (.int .i64 ((0 : Int))), (.int .i64 ((0 : Int))), (.int .i64 ((0 : Int)))]) :=
 open_res mix tabGo_ok (T := tabGo) (fuel := 3000) (ans := [(0, .b 1), (3, .b 0)]) (log := [(!decide (p ≤ (63000 : Int))) = false, (decide (p ≥ (0 : Int))) = true]) (by kernel_rfl) ⟨hq1, hq0, trivial⟩ (by kernel_rfl)
set_option maxHeartbeats 8000000 in
theorem atL (p : Int) (h1 : 0 ≤ p ∧ p ≤ 63000) : Known Try.prog [] 12 [.int .i64 p] (.agg #[(.int .i64 (atL_c0 p)), (.int .i64 (atL_c1 p)), (.int .i64 ((0 : Int))), (.int .i64 ((0 : Int))), (.int .i64 ((0 : Int)))]) := by
 have hq0 : (decide (p ≥ (0 : Int))) = true := by
  rcases Bool.eq_false_or_eq_true (decide (p ≥ (0 : Int))) with h | h
  ·exact h
  ·exfalso; (first | (simp_all only [Bool.and_eq_true, Bool.not_eq_true', Bool.false_eq_true, Bool.true_eq_false, reduceCtorEq]; done) | (simp only [sx, sy, eq_self, ne_eq, IntKind.wrap_i64, wrapU64, Int.reduceLT] at * <;> first | with_reducible contradiction | omega) | omega | ((try simp only [sx, sy, eq_self, ne_eq, IntKind.wrap_i64, wrapU64, Int.reduceLT] at *) <;> omega) | (simp_all; done))
 have hq1 : (!decide (p ≤ (63000 : Int))) = false := by
  rcases Bool.eq_false_or_eq_true (!decide (p ≤ (63000 : Int))) with h | h
  ·exfalso; (first | (simp_all only [Bool.and_eq_true, Bool.not_eq_true', Bool.false_eq_true, Bool.true_eq_false, reduceCtorEq]; done) | (simp only [sx, sy, eq_self, ne_eq, IntKind.wrap_i64, wrapU64, Int.reduceLT] at * <;> first | with_reducible contradiction | omega) | omega | ((try simp only [sx, sy, eq_self, ne_eq, IntKind.wrap_i64, wrapU64, Int.reduceLT] at *) <;> omega) | (simp_all; done))
  ·exact h
 have e0 : atL_c0 p = (p) := rfl; rw [e0]; have e1 : atL_c1 p = (p) := rfl; rw [e1]; exact atL_p0 p h1 hq0 hq1
theorem go_is {p g k : Int} (h : 0 ≤ p ∧ p ≤ 63000 ∧ 0 ≤ g ∧ g ≤ 63000 ∧ 0 ≤ k ∧ k ≤ 5) : Known Try.prog [] 29 [.agg #[.int .i64 p, .int .i64 p, .int .i64 0, .int .i64 0, .int .i64 0], .int .i64 g, .int .i64 k] (.tuple #[.agg #[.int .i64 p, .int .i64 g, .int .i64 0, .int .i64 (gqV p g k), .int .i64 (glV p g k)], .int .i64 0]) := by
 have r := goP p g k h
 have e1 : goP_c1 p g k = g := by
  unfold goP_c1
  by_cases c : g = p
  ·subst c; simp
  ·rw [show (g == p) = false by simpa using c, cond_false]
 have e3 : goP_c3 p g k = gqV p g k := by
  unfold goP_c3 gqV
  by_cases c : g = p
  ·subst c; simp
  ·rw [show (g == p) = false by simpa using c, cond_false, if_neg (fun e => c e.symm)]
   by_cases d : k = 0
   ·subst d; simp
   ·rw [show (k == 0) = false by simpa using d, cond_false, if_neg d]
 have e4 : goP_c4 p g k = glV p g k := by
  unfold goP_c4 glV
  by_cases c : g = p
  ·subst c; simp
  ·rw [show (g == p) = false by simpa using c, cond_false, if_neg (fun e => c e.symm)]
 rw [e1, e3, e4] at r
 exact r
theorem kGo (p p2 g k : Int) (hg : (decide (p2 = p ∧ 0 ≤ p ∧ p ≤ 63000 ∧ 0 ≤ g ∧ g ≤ 63000 ∧ 0 ≤ k ∧ k ≤ 5)) = true) : Known Try.prog [] 29 [.agg #[.int .i64 p, .int .i64 p2, .int .i64 0, .int .i64 0, .int .i64 0], .int .i64 g, .int .i64 k] (.tuple #[.agg #[.int .i64 p, .int .i64 g, .int .i64 0, .int .i64 (gqV p g k), .int .i64 (glV p g k)], .int .i64 0]) := by have h := of_decide_eq_true hg; rw [h.1]; exact go_is h.2
noncomputable def kGo_k : List Value → Option (Bool × Value)
 | [.agg ⟨[.int .i64 p, .int .i64 p2, .int .i64 0, .int .i64 0, .int .i64 0]⟩, .int .i64 g, .int .i64 k] => some (decide (p2 = p ∧ 0 ≤ p ∧ p ≤ 63000 ∧ 0 ≤ g ∧ g ≤ 63000 ∧ 0 ≤ k ∧ k ≤ 5), .tuple #[.agg #[.int .i64 p, .int .i64 g, .int .i64 0, .int .i64 (gqV p g k), .int .i64 (glV p g k)], .int .i64 0])
 | _ => none
theorem kGo_ok : ∀ args v, kGo_k args = some (true, v) → Known Try.prog [] 29 args v := by
 intro args v h
 unfold kGo_k at h
 split at h
 ·injection h with h; injection h with hg h; subst h; exact kGo _ _ _ _ hg
 ·cases h
noncomputable def tabB5 : GTab := (GTab.fn 29 kGo_k tabV)
theorem tabB5_ok : GOk Try.prog [] tabB5 := (GOk.fn kGo_ok tabV_ok)
noncomputable def bgL_b5 (p g t s k : Int) : Bool := decide (p = p ∧ (0 : Int) ≤ p ∧ p ≤ (63000 : Int) ∧ (0 : Int) ≤ g ∧ g ≤ (63000 : Int) ∧ (0 : Int) ≤ k ∧ k ≤ (5 : Int))
noncomputable def bgL_b10 (p g t s k : Int) : Bool := decide (nN p g (0 : Int) (gqV p g k) (glV p g k) s k > IntKind.i64.wrap (t - (0 : Int)))
noncomputable def bgL_c0 (p g t s k : Int) : Int := (p)
noncomputable def bgL_c1 (p g t s k : Int) : Int := (g)
noncomputable def bgL_c3 (p g t s k : Int) : Int := (gqV p g k)
noncomputable def bgL_c4 (p g t s k : Int) : Int := (glV p g k)
noncomputable def bgL_c5 (p g t s k : Int) : Int := (t)
theorem bgL_p0 (p g t s k : Int) (h1 : okD p p 0 0 0 20 5 = true) (h2 : okD p g 0 (gqV p g k) (glV p g k) s k = true) (hp : 0 ≤ p ∧ p ≤ 63000 ∧ 0 ≤ g ∧ g ≤ 63000) (hs : 1 ≤ s ∧ s ≤ 20) (hk : 0 ≤ k ∧ k ≤ 5) (ht : 0 ≤ t ∧ t ≤ 200000) (hn : 0 ≤ nN p g 0 (gqV p g k) (glV p g k) s k ∧ nN p g 0 (gqV p g k) (glV p g k) s k ≤ t) (hq0 : (decide (s < (1 : Int))) = false) (hq1 : (decide (s > (20 : Int))) = false) (hq2 : (decide (k < (0 : Int))) = false) (hq3 : (decide (k > (5 : Int))) = false) (hq4 : (okD p p (0 : Int) (0 : Int) (0 : Int) (20 : Int) (5 : Int)) = true) (hq5 : (bgL_b5 p g t s k) = true) (hq6 : (decide (t ≥ (0 : Int))) = true) (hq7 : (!decide (t ≤ (200000 : Int))) = false) (hq8 : (decide ((0 : Int) > t)) = false) (hq9 : (okD p g (0 : Int) (gqV p g k) (glV p g k) s k) = true) (hq10 : (bgL_b10 p g t s k) = false) : Known Try.prog [] 11 [.agg #[.int .i64 p, .int .i64 p, .int .i64 0, .int .i64 0, .int .i64 0], .int .i64 g, .int .i64 t, .int .i64 s, .int .i64 k] (.tuple #[(.agg #[(.int .i64 (p)), (.int .i64 (g)), (.int .i64 ((0 : Int))), (.int .i64 (gqV p g k)), (.int .i64 (glV p g k)), (.int .i64 (t)), (.int .i64 ((0 : Int)))]), (.int .i64 ((0 : Int)))]) :=
 open_res mix tabB5_ok (T := tabB5) (fuel := 3000) (ans := [(0, .b 0), (3, .b 0), (6, .b 0), (9, .b 0), (11, .b 1), (13, .b 1), (15, .b 1), (18, .b 0), (34, .b 0), (36, .b 1), (42, .b 0)]) (log := [(bgL_b10 p g t s k) = false, (okD p g (0 : Int) (gqV p g k) (glV p g k) s k) = true, (decide ((0 : Int) > t)) = false, (!decide (t ≤ (200000 : Int))) = false, (decide (t ≥ (0 : Int))) = true, (bgL_b5 p g t s k) = true, (okD p p (0 : Int) (0 : Int) (0 : Int) (20 : Int) (5 : Int)) = true, (decide (k > (5 : Int))) = false, (decide (k < (0 : Int))) = false, (decide (s > (20 : Int))) = false, (decide (s < (1 : Int))) = false]) (by kernel_rfl) ⟨hq10, hq9, hq8, hq7, hq6, hq5, hq4, hq3, hq2, hq1, hq0, trivial⟩ (by kernel_rfl)
set_option maxHeartbeats 8000000 in
theorem bgL (p g t s k : Int) (h1 : okD p p 0 0 0 20 5 = true) (h2 : okD p g 0 (gqV p g k) (glV p g k) s k = true) (hp : 0 ≤ p ∧ p ≤ 63000 ∧ 0 ≤ g ∧ g ≤ 63000) (hs : 1 ≤ s ∧ s ≤ 20) (hk : 0 ≤ k ∧ k ≤ 5) (ht : 0 ≤ t ∧ t ≤ 200000) (hn : 0 ≤ nN p g 0 (gqV p g k) (glV p g k) s k ∧ nN p g 0 (gqV p g k) (glV p g k) s k ≤ t) : Known Try.prog [] 11 [.agg #[.int .i64 p, .int .i64 p, .int .i64 0, .int .i64 0, .int .i64 0], .int .i64 g, .int .i64 t, .int .i64 s, .int .i64 k] (.tuple #[(.agg #[(.int .i64 (bgL_c0 p g t s k)), (.int .i64 (bgL_c1 p g t s k)), (.int .i64 ((0 : Int))), (.int .i64 (bgL_c3 p g t s k)), (.int .i64 (bgL_c4 p g t s k)), (.int .i64 (bgL_c5 p g t s k)), (.int .i64 ((0 : Int)))]), (.int .i64 ((0 : Int)))]) := by
 have hq0 : (decide (s < (1 : Int))) = false := by
  rcases Bool.eq_false_or_eq_true (decide (s < (1 : Int))) with h | h
  ·exfalso; (try simp only [bgL_b5, bgL_b10] at *); (first | (simp_all only [Bool.and_eq_true, Bool.not_eq_true', Bool.false_eq_true, Bool.true_eq_false, reduceCtorEq]; done) | (simp only [sx, sy, eq_self, ne_eq, IntKind.wrap_i64, wrapU64, Int.reduceLT] at * <;> first | with_reducible contradiction | omega) | omega | ((try simp only [sx, sy, eq_self, ne_eq, IntKind.wrap_i64, wrapU64, Int.reduceLT] at *) <;> omega) | (simp_all; done))
  ·exact h
 have hq1 : (decide (s > (20 : Int))) = false := by
  rcases Bool.eq_false_or_eq_true (decide (s > (20 : Int))) with h | h
  ·exfalso; (try simp only [bgL_b5, bgL_b10] at *); (first | (simp_all only [Bool.and_eq_true, Bool.not_eq_true', Bool.false_eq_true, Bool.true_eq_false, reduceCtorEq]; done) | (simp only [sx, sy, eq_self, ne_eq, IntKind.wrap_i64, wrapU64, Int.reduceLT] at * <;> first | with_reducible contradiction | omega) | omega | ((try simp only [sx, sy, eq_self, ne_eq, IntKind.wrap_i64, wrapU64, Int.reduceLT] at *) <;> omega) | (simp_all; done))
  ·exact h
 have hq2 : (decide (k < (0 : Int))) = false := by
  rcases Bool.eq_false_or_eq_true (decide (k < (0 : Int))) with h | h
  ·exfalso; (try simp only [bgL_b5, bgL_b10] at *); (first | (simp_all only [Bool.and_eq_true, Bool.not_eq_true', Bool.false_eq_true, Bool.true_eq_false, reduceCtorEq]; done) | (simp only [sx, sy, eq_self, ne_eq, IntKind.wrap_i64, wrapU64, Int.reduceLT] at * <;> first | with_reducible contradiction | omega) | omega | ((try simp only [sx, sy, eq_self, ne_eq, IntKind.wrap_i64, wrapU64, Int.reduceLT] at *) <;> omega) | (simp_all; done))
  ·exact h
 have hq3 : (decide (k > (5 : Int))) = false := by
  rcases Bool.eq_false_or_eq_true (decide (k > (5 : Int))) with h | h
  ·exfalso; (try simp only [bgL_b5, bgL_b10] at *); (first | (simp_all only [Bool.and_eq_true, Bool.not_eq_true', Bool.false_eq_true, Bool.true_eq_false, reduceCtorEq]; done) | (simp only [sx, sy, eq_self, ne_eq, IntKind.wrap_i64, wrapU64, Int.reduceLT] at * <;> first | with_reducible contradiction | omega) | omega | ((try simp only [sx, sy, eq_self, ne_eq, IntKind.wrap_i64, wrapU64, Int.reduceLT] at *) <;> omega) | (simp_all; done))
  ·exact h
 have hq4 : (okD p p (0 : Int) (0 : Int) (0 : Int) (20 : Int) (5 : Int)) = true := by
  rcases Bool.eq_false_or_eq_true (okD p p (0 : Int) (0 : Int) (0 : Int) (20 : Int) (5 : Int)) with h | h
  ·exact h
  ·exfalso; (try simp only [bgL_b5, bgL_b10] at *); (first | (simp_all only [Bool.and_eq_true, Bool.not_eq_true', Bool.false_eq_true, Bool.true_eq_false, reduceCtorEq]; done) | (simp only [sx, sy, eq_self, ne_eq, IntKind.wrap_i64, wrapU64, Int.reduceLT] at * <;> first | with_reducible contradiction | omega) | omega | ((try simp only [sx, sy, eq_self, ne_eq, IntKind.wrap_i64, wrapU64, Int.reduceLT] at *) <;> omega) | (simp_all; done))
 have hq5 : (bgL_b5 p g t s k) = true := by
  rcases Bool.eq_false_or_eq_true (bgL_b5 p g t s k) with h | h
  ·exact h
  ·exfalso; (try simp only [bgL_b5, bgL_b10] at *); (first | (simp_all only [Bool.and_eq_true, Bool.not_eq_true', Bool.false_eq_true, Bool.true_eq_false, reduceCtorEq]; done) | (simp only [sx, sy, eq_self, ne_eq, IntKind.wrap_i64, wrapU64, Int.reduceLT] at * <;> first | with_reducible contradiction | omega) | omega | ((try simp only [sx, sy, eq_self, ne_eq, IntKind.wrap_i64, wrapU64, Int.reduceLT] at *) <;> omega) | (simp_all; done))
 have hq6 : (decide (t ≥ (0 : Int))) = true := by
  rcases Bool.eq_false_or_eq_true (decide (t ≥ (0 : Int))) with h | h
  ·exact h
  ·exfalso; (try simp only [bgL_b5, bgL_b10] at *); (first | (simp_all only [Bool.and_eq_true, Bool.not_eq_true', Bool.false_eq_true, Bool.true_eq_false, reduceCtorEq]; done) | (simp only [sx, sy, eq_self, ne_eq, IntKind.wrap_i64, wrapU64, Int.reduceLT] at * <;> first | with_reducible contradiction | omega) | omega | ((try simp only [sx, sy, eq_self, ne_eq, IntKind.wrap_i64, wrapU64, Int.reduceLT] at *) <;> omega) | (simp_all; done))
 have hq7 : (!decide (t ≤ (200000 : Int))) = false := by
  rcases Bool.eq_false_or_eq_true (!decide (t ≤ (200000 : Int))) with h | h
  ·exfalso; (try simp only [bgL_b5, bgL_b10] at *); (first | (simp_all only [Bool.and_eq_true, Bool.not_eq_true', Bool.false_eq_true, Bool.true_eq_false, reduceCtorEq]; done) | (simp only [sx, sy, eq_self, ne_eq, IntKind.wrap_i64, wrapU64, Int.reduceLT] at * <;> first | with_reducible contradiction | omega) | omega | ((try simp only [sx, sy, eq_self, ne_eq, IntKind.wrap_i64, wrapU64, Int.reduceLT] at *) <;> omega) | (simp_all; done))
  ·exact h
 have hq8 : (decide ((0 : Int) > t)) = false := by
  rcases Bool.eq_false_or_eq_true (decide ((0 : Int) > t)) with h | h
  ·exfalso; (try simp only [bgL_b5, bgL_b10] at *); (first | (simp_all only [Bool.and_eq_true, Bool.not_eq_true', Bool.false_eq_true, Bool.true_eq_false, reduceCtorEq]; done) | (simp only [sx, sy, eq_self, ne_eq, IntKind.wrap_i64, wrapU64, Int.reduceLT] at * <;> first | with_reducible contradiction | omega) | omega | ((try simp only [sx, sy, eq_self, ne_eq, IntKind.wrap_i64, wrapU64, Int.reduceLT] at *) <;> omega) | (simp_all; done))
  ·exact h
 have hq9 : (okD p g (0 : Int) (gqV p g k) (glV p g k) s k) = true := by
  rcases Bool.eq_false_or_eq_true (okD p g (0 : Int) (gqV p g k) (glV p g k) s k) with h | h
  ·exact h
  ·exfalso; (try simp only [bgL_b5, bgL_b10] at *); (first | (simp_all only [Bool.and_eq_true, Bool.not_eq_true', Bool.false_eq_true, Bool.true_eq_false, reduceCtorEq]; done) | (simp only [sx, sy, eq_self, ne_eq, IntKind.wrap_i64, wrapU64, Int.reduceLT] at * <;> first | with_reducible contradiction | omega) | omega | ((try simp only [sx, sy, eq_self, ne_eq, IntKind.wrap_i64, wrapU64, Int.reduceLT] at *) <;> omega) | (simp_all; done))
 have hq10 : (bgL_b10 p g t s k) = false := by
  rcases Bool.eq_false_or_eq_true (bgL_b10 p g t s k) with h | h
  ·exfalso; (try simp only [bgL_b5, bgL_b10] at *); (first | (simp_all only [Bool.and_eq_true, Bool.not_eq_true', Bool.false_eq_true, Bool.true_eq_false, reduceCtorEq]; done) | (simp only [sx, sy, eq_self, ne_eq, IntKind.wrap_i64, wrapU64, Int.reduceLT] at * <;> first | with_reducible contradiction | omega) | omega | ((try simp only [sx, sy, eq_self, ne_eq, IntKind.wrap_i64, wrapU64, Int.reduceLT] at *) <;> omega) | (simp_all; done))
  ·exact h
 have e0 : bgL_c0 p g t s k = (p) := rfl; rw [e0]; have e1 : bgL_c1 p g t s k = (g) := rfl; rw [e1]; have e3 : bgL_c3 p g t s k = (gqV p g k) := rfl; rw [e3]; have e4 : bgL_c4 p g t s k = (glV p g k) := rfl; rw [e4]; have e5 : bgL_c5 p g t s k = (t) := rfl; rw [e5]; exact bgL_p0 p g t s k h1 h2 hp hs hk ht hn hq0 hq1 hq2 hq3 hq4 hq5 hq6 hq7 hq8 hq9 hq10
end Go.Proofs.Ytcjlidciniiofaa
