/- Layer 9: MotionStops, its law. -/
import Derived.Test.YtaohbffjfedcgaaMg
import Derived.ProofKit
import Derived.IntWalk
namespace Go.Proofs.Ytaohbffjfedcgaa
open Go Go.RowKit
set_option linter.unusedVariables false
set_option linter.unusedSimpArgs false
set_option linter.unnecessarySimpa false
set_option maxHeartbeats 8000000
set_option maxRecDepth 100000
theorem qMd (pos goal most ticks : Int) : Known Try.prog [] 32 [.int .i64 pos, .int .i64 goal, .int .i64 most, .int .i64 ticks] (.tuple #[.agg #[.int .i64 (moP pos goal most ticks), .int .i64 (moG goal), .int .i64 (moS pos goal most ticks), .int .i64 (moM most)], .bool true]) := made_is pos goal most ticks
noncomputable def qMd_k : List Value → Option Value
  | [.int .i64 pos, .int .i64 goal, .int .i64 most, .int .i64 ticks] => some (.tuple #[.agg #[.int .i64 (moP pos goal most ticks), .int .i64 (moG goal), .int .i64 (moS pos goal most ticks), .int .i64 (moM most)], .bool true])
  | _ => none
theorem qMd_ok : ∀ args v, qMd_k args = some v → Known Try.prog [] 32 args v := by
  intro args v h
  unfold qMd_k at h
  split at h
  · injection h with h; subst h; exact qMd _ _ _ _
  · cases h
noncomputable def tabQ : GTab := (GTab.fn1 32 qMd_k (GTab.fn 19 kNr_k (GTab.fn 25 kHl_k (GTab.fn 27 kTn_k (GTab.fn1 5 (fun l => match l with | [] => some (.bool true) | _ => none) tabK)))))
theorem tabQ_ok : GOk Try.prog [] tabQ := (GOk.fn1 qMd_ok (GOk.fn kNr_ok (GOk.fn kHl_ok (GOk.fn kTn_ok (GOk.fn1 (known0 kMK) tabK_ok)))))
noncomputable def lawT_b0 (pos goal most ticks : Int) : Bool := decide (ckM (moP pos goal most ticks) (moG goal) (moS pos goal most ticks) (moM most) = (0 : Int))
noncomputable def lawT_b1 (pos goal most ticks : Int) : Bool := turnB (moP pos goal most ticks) (moG goal) (moS pos goal most ticks) (moM most) (nrV (moP pos goal most ticks) (moG goal) (moS pos goal most ticks))
noncomputable def lawT_b2 (pos goal most ticks : Int) : Bool := decide (ckM (moP pos goal most ticks) (nrV (moP pos goal most ticks) (moG goal) (moS pos goal most ticks)) (if nrV (moP pos goal most ticks) (moG goal) (moS pos goal most ticks) = moP pos goal most ticks then (0 : Int) else moS pos goal most ticks) (moM most) = (0 : Int))
noncomputable def lawT_b3 (pos goal most ticks : Int) : Bool := decide (ckM (moP pos goal most ticks) (nrV (moP pos goal most ticks) (moG goal) (moS pos goal most ticks)) (if nrV (moP pos goal most ticks) (moG goal) (moS pos goal most ticks) = moP pos goal most ticks then (0 : Int) else moS pos goal most ticks) (moM most) = (0 : Int) ∧ (0 : Int) ≤ (30 : Int) ∧ (30 : Int) ≤ (100000 : Int))
noncomputable def lawT_b4 (pos goal most ticks : Int) : Bool := turnB (moP pos goal most ticks) (moG goal) (moS pos goal most ticks) (moM most) (moG goal)
noncomputable def lawT_b5 (pos goal most ticks : Int) : Bool := decide (ckM (moP pos goal most ticks) (moP pos goal most ticks) (0 : Int) (moM most) = (0 : Int))
noncomputable def lawT_b6 (pos goal most ticks : Int) : Bool := lfV (moP pos goal most ticks) (nrV (moP pos goal most ticks) (moG goal) (moS pos goal most ticks)) (if nrV (moP pos goal most ticks) (moG goal) (moS pos goal most ticks) = moP pos goal most ticks then (0 : Int) else moS pos goal most ticks) (moM most) == if IntKind.i64.wrap (moS pos goal most ticks - (1 : Int)) > (0 : Int) then IntKind.i64.wrap (moS pos goal most ticks - (1 : Int)) else (0 : Int)
noncomputable def lawT_b7 (pos goal most ticks : Int) : Bool := (itN (nrV (moP pos goal most ticks) (moG goal) (moS pos goal most ticks)) (moM most) (30 : Nat) (moP pos goal most ticks) (if nrV (moP pos goal most ticks) (moG goal) (moS pos goal most ticks) = moP pos goal most ticks then (0 : Int) else moS pos goal most ticks)).fst == nrV (moP pos goal most ticks) (moG goal) (moS pos goal most ticks)
noncomputable def lawT_b8 (pos goal most ticks : Int) : Bool := (itN (nrV (moP pos goal most ticks) (moG goal) (moS pos goal most ticks)) (moM most) (30 : Nat) (moP pos goal most ticks) (if nrV (moP pos goal most ticks) (moG goal) (moS pos goal most ticks) = moP pos goal most ticks then (0 : Int) else moS pos goal most ticks)).snd == (0 : Int)
noncomputable def lawT_b9 (pos goal most ticks : Int) : Bool := moP pos goal most ticks == moP pos goal most ticks && (moG goal == moG goal && ((if moG goal = moP pos goal most ticks then (0 : Int) else moS pos goal most ticks) == moS pos goal most ticks && moM most == moM most))
noncomputable def lawT_b10 (pos goal most ticks : Int) : Bool := tkP (moP pos goal most ticks) (moP pos goal most ticks) (0 : Int) (moM most) == moP pos goal most ticks && (moP pos goal most ticks == moP pos goal most ticks && (tkS (moP pos goal most ticks) (moP pos goal most ticks) (0 : Int) (moM most) == (0 : Int) && moM most == moM most))
noncomputable def lawT_c0 (pos goal most ticks : Int) : Bool := (moP pos goal most ticks == moP pos goal most ticks)
theorem lawT_p0 (pos goal most ticks : Int) (hM : 1 ≤ (moM most) ∧ (moM most) ≤ 20) (hS : 0 ≤ (moS pos goal most ticks) ∧ (moS pos goal most ticks) ≤ (moM most)) (hc : ckM (moP pos goal most ticks) (moG goal) (moS pos goal most ticks) (moM most) = 0) (h1 : turnB (moP pos goal most ticks) (moG goal) (moS pos goal most ticks) (moM most) (nrV (moP pos goal most ticks) (moG goal) (moS pos goal most ticks)) = true) (h2 : ckM (moP pos goal most ticks) (nrV (moP pos goal most ticks) (moG goal) (moS pos goal most ticks)) (if (nrV (moP pos goal most ticks) (moG goal) (moS pos goal most ticks)) = (moP pos goal most ticks) then 0 else (moS pos goal most ticks)) (moM most) = 0) (h3 : lfV (moP pos goal most ticks) (nrV (moP pos goal most ticks) (moG goal) (moS pos goal most ticks)) (if (nrV (moP pos goal most ticks) (moG goal) (moS pos goal most ticks)) = (moP pos goal most ticks) then 0 else (moS pos goal most ticks)) (moM most) = if 0 > (moS pos goal most ticks) - 1 then 0 else (moS pos goal most ticks) - 1) (h4 : (itN (nrV (moP pos goal most ticks) (moG goal) (moS pos goal most ticks)) (moM most) 30 (moP pos goal most ticks) (if (nrV (moP pos goal most ticks) (moG goal) (moS pos goal most ticks)) = (moP pos goal most ticks) then 0 else (moS pos goal most ticks))).1 = (nrV (moP pos goal most ticks) (moG goal) (moS pos goal most ticks))) (h5 : (itN (nrV (moP pos goal most ticks) (moG goal) (moS pos goal most ticks)) (moM most) 30 (moP pos goal most ticks) (if (nrV (moP pos goal most ticks) (moG goal) (moS pos goal most ticks)) = (moP pos goal most ticks) then 0 else (moS pos goal most ticks))).2 = 0) (h6 : turnB (moP pos goal most ticks) (moG goal) (moS pos goal most ticks) (moM most) (moG goal) = true) (h7 : (moG goal) = (moP pos goal most ticks) → (moS pos goal most ticks) = 0) (h8 : ckM (moP pos goal most ticks) (moP pos goal most ticks) 0 (moM most) = 0) (h9 : tkP (moP pos goal most ticks) (moP pos goal most ticks) 0 (moM most) = (moP pos goal most ticks)) (h10 : tkS (moP pos goal most ticks) (moP pos goal most ticks) 0 (moM most) = 0) (hq0 : (lawT_b0 pos goal most ticks) = true) (hq1 : (lawT_b1 pos goal most ticks) = true) (hq2 : (lawT_b2 pos goal most ticks) = true) (hq3 : (lawT_b3 pos goal most ticks) = true) (hq4 : (lawT_b4 pos goal most ticks) = true) (hq5 : (lawT_b5 pos goal most ticks) = true) (hq6 : (lawT_b6 pos goal most ticks) = true) (hq7 : (lawT_b7 pos goal most ticks) = true) (hq8 : (lawT_b8 pos goal most ticks) = true) (hq9 : (lawT_b9 pos goal most ticks) = true) (hq10 : (lawT_b10 pos goal most ticks) = true) : Known Try.prog [] 8 [.int .i64 pos, .int .i64 goal, .int .i64 most, .int .i64 ticks] (.bool (moP pos goal most ticks == moP pos goal most ticks)) :=
  open_res mix tabQ_ok (T := tabQ) (fuel := 3000) (ans := [(2, .b 1), (3, .b 1), (4, .b 1), (5, .b 1), (6, .b 1), (7, .b 1), (8, .b 1), (38, .b 1), (43, .b 1), (47, .b 1), (51, .b 1), (55, .b 1)]) (log := [(lawT_b10 pos goal most ticks) = true, (lawT_b9 pos goal most ticks) = true, (lawT_b8 pos goal most ticks) = true, (lawT_b7 pos goal most ticks) = true, (lawT_b6 pos goal most ticks) = true, (lawT_b5 pos goal most ticks) = true, (lawT_b0 pos goal most ticks) = true, (lawT_b4 pos goal most ticks) = true, (lawT_b3 pos goal most ticks) = true, (lawT_b2 pos goal most ticks) = true, (lawT_b1 pos goal most ticks) = true, (lawT_b0 pos goal most ticks) = true]) (by kernel_rfl) ⟨hq10, hq9, hq8, hq7, hq6, hq5, hq0, hq4, hq3, hq2, hq1, hq0, trivial⟩ (by kernel_rfl)
set_option maxHeartbeats 8000000 in
theorem lawT (pos goal most ticks : Int) (hM : 1 ≤ (moM most) ∧ (moM most) ≤ 20) (hS : 0 ≤ (moS pos goal most ticks) ∧ (moS pos goal most ticks) ≤ (moM most)) (hc : ckM (moP pos goal most ticks) (moG goal) (moS pos goal most ticks) (moM most) = 0) (h1 : turnB (moP pos goal most ticks) (moG goal) (moS pos goal most ticks) (moM most) (nrV (moP pos goal most ticks) (moG goal) (moS pos goal most ticks)) = true) (h2 : ckM (moP pos goal most ticks) (nrV (moP pos goal most ticks) (moG goal) (moS pos goal most ticks)) (if (nrV (moP pos goal most ticks) (moG goal) (moS pos goal most ticks)) = (moP pos goal most ticks) then 0 else (moS pos goal most ticks)) (moM most) = 0) (h3 : lfV (moP pos goal most ticks) (nrV (moP pos goal most ticks) (moG goal) (moS pos goal most ticks)) (if (nrV (moP pos goal most ticks) (moG goal) (moS pos goal most ticks)) = (moP pos goal most ticks) then 0 else (moS pos goal most ticks)) (moM most) = if 0 > (moS pos goal most ticks) - 1 then 0 else (moS pos goal most ticks) - 1) (h4 : (itN (nrV (moP pos goal most ticks) (moG goal) (moS pos goal most ticks)) (moM most) 30 (moP pos goal most ticks) (if (nrV (moP pos goal most ticks) (moG goal) (moS pos goal most ticks)) = (moP pos goal most ticks) then 0 else (moS pos goal most ticks))).1 = (nrV (moP pos goal most ticks) (moG goal) (moS pos goal most ticks))) (h5 : (itN (nrV (moP pos goal most ticks) (moG goal) (moS pos goal most ticks)) (moM most) 30 (moP pos goal most ticks) (if (nrV (moP pos goal most ticks) (moG goal) (moS pos goal most ticks)) = (moP pos goal most ticks) then 0 else (moS pos goal most ticks))).2 = 0) (h6 : turnB (moP pos goal most ticks) (moG goal) (moS pos goal most ticks) (moM most) (moG goal) = true) (h7 : (moG goal) = (moP pos goal most ticks) → (moS pos goal most ticks) = 0) (h8 : ckM (moP pos goal most ticks) (moP pos goal most ticks) 0 (moM most) = 0) (h9 : tkP (moP pos goal most ticks) (moP pos goal most ticks) 0 (moM most) = (moP pos goal most ticks)) (h10 : tkS (moP pos goal most ticks) (moP pos goal most ticks) 0 (moM most) = 0) : Known Try.prog [] 8 [.int .i64 pos, .int .i64 goal, .int .i64 most, .int .i64 ticks] (.bool (lawT_c0 pos goal most ticks)) := by
  have hq0 : (lawT_b0 pos goal most ticks) = true := by
    rcases Bool.eq_false_or_eq_true (lawT_b0 pos goal most ticks) with h | h
    · exact h
    · exfalso; (try simp only [lawT_b0, lawT_b1, lawT_b2, lawT_b3, lawT_b4, lawT_b5, lawT_b6, lawT_b7, lawT_b8, lawT_b9, lawT_b10] at *); (first | (simp_all only [Bool.and_eq_true, Bool.not_eq_true', Bool.false_eq_true, Bool.true_eq_false, reduceCtorEq]; done) | (simp only [sx, sy, eq_self, ne_eq, IntKind.wrap_i64, wrapU64, Int.reduceLT] at * <;> first | contradiction | omega) | (simp_all; done))
  have hq1 : (lawT_b1 pos goal most ticks) = true := by
    rcases Bool.eq_false_or_eq_true (lawT_b1 pos goal most ticks) with h | h
    · exact h
    · exfalso; (try simp only [lawT_b0, lawT_b1, lawT_b2, lawT_b3, lawT_b4, lawT_b5, lawT_b6, lawT_b7, lawT_b8, lawT_b9, lawT_b10] at *); (first | (simp_all only [Bool.and_eq_true, Bool.not_eq_true', Bool.false_eq_true, Bool.true_eq_false, reduceCtorEq]; done) | (simp only [sx, sy, eq_self, ne_eq, IntKind.wrap_i64, wrapU64, Int.reduceLT] at * <;> first | contradiction | omega) | (simp_all; done))
  have hq2 : (lawT_b2 pos goal most ticks) = true := by
    rcases Bool.eq_false_or_eq_true (lawT_b2 pos goal most ticks) with h | h
    · exact h
    · exfalso; (try simp only [lawT_b0, lawT_b1, lawT_b2, lawT_b3, lawT_b4, lawT_b5, lawT_b6, lawT_b7, lawT_b8, lawT_b9, lawT_b10] at *); (first | (simp_all only [Bool.and_eq_true, Bool.not_eq_true', Bool.false_eq_true, Bool.true_eq_false, reduceCtorEq]; done) | (simp only [sx, sy, eq_self, ne_eq, IntKind.wrap_i64, wrapU64, Int.reduceLT] at * <;> first | contradiction | omega) | (simp_all; done))
  have hq3 : (lawT_b3 pos goal most ticks) = true := by
    rcases Bool.eq_false_or_eq_true (lawT_b3 pos goal most ticks) with h | h
    · exact h
    · exfalso; (try simp only [lawT_b0, lawT_b1, lawT_b2, lawT_b3, lawT_b4, lawT_b5, lawT_b6, lawT_b7, lawT_b8, lawT_b9, lawT_b10] at *); (first | (simp_all only [Bool.and_eq_true, Bool.not_eq_true', Bool.false_eq_true, Bool.true_eq_false, reduceCtorEq]; done) | (simp only [sx, sy, eq_self, ne_eq, IntKind.wrap_i64, wrapU64, Int.reduceLT] at * <;> first | contradiction | omega) | (simp_all; done))
  have hq4 : (lawT_b4 pos goal most ticks) = true := by
    rcases Bool.eq_false_or_eq_true (lawT_b4 pos goal most ticks) with h | h
    · exact h
    · exfalso; (try simp only [lawT_b0, lawT_b1, lawT_b2, lawT_b3, lawT_b4, lawT_b5, lawT_b6, lawT_b7, lawT_b8, lawT_b9, lawT_b10] at *); (first | (simp_all only [Bool.and_eq_true, Bool.not_eq_true', Bool.false_eq_true, Bool.true_eq_false, reduceCtorEq]; done) | (simp only [sx, sy, eq_self, ne_eq, IntKind.wrap_i64, wrapU64, Int.reduceLT] at * <;> first | contradiction | omega) | (simp_all; done))
  have hq5 : (lawT_b5 pos goal most ticks) = true := by
    rcases Bool.eq_false_or_eq_true (lawT_b5 pos goal most ticks) with h | h
    · exact h
    · exfalso; (try simp only [lawT_b0, lawT_b1, lawT_b2, lawT_b3, lawT_b4, lawT_b5, lawT_b6, lawT_b7, lawT_b8, lawT_b9, lawT_b10] at *); (first | (simp_all only [Bool.and_eq_true, Bool.not_eq_true', Bool.false_eq_true, Bool.true_eq_false, reduceCtorEq]; done) | (simp only [sx, sy, eq_self, ne_eq, IntKind.wrap_i64, wrapU64, Int.reduceLT] at * <;> first | contradiction | omega) | (simp_all; done))
  have hq6 : (lawT_b6 pos goal most ticks) = true := by
    rcases Bool.eq_false_or_eq_true (lawT_b6 pos goal most ticks) with h | h
    · exact h
    · exfalso; (try simp only [lawT_b0, lawT_b1, lawT_b2, lawT_b3, lawT_b4, lawT_b5, lawT_b6, lawT_b7, lawT_b8, lawT_b9, lawT_b10] at *); (first | (simp_all only [Bool.and_eq_true, Bool.not_eq_true', Bool.false_eq_true, Bool.true_eq_false, reduceCtorEq]; done) | (simp only [sx, sy, eq_self, ne_eq, IntKind.wrap_i64, wrapU64, Int.reduceLT] at * <;> first | contradiction | omega) | (simp_all; done))
  have hq7 : (lawT_b7 pos goal most ticks) = true := by
    rcases Bool.eq_false_or_eq_true (lawT_b7 pos goal most ticks) with h | h
    · exact h
    · exfalso; (try simp only [lawT_b0, lawT_b1, lawT_b2, lawT_b3, lawT_b4, lawT_b5, lawT_b6, lawT_b7, lawT_b8, lawT_b9, lawT_b10] at *); (first | (simp_all only [Bool.and_eq_true, Bool.not_eq_true', Bool.false_eq_true, Bool.true_eq_false, reduceCtorEq]; done) | (simp only [sx, sy, eq_self, ne_eq, IntKind.wrap_i64, wrapU64, Int.reduceLT] at * <;> first | contradiction | omega) | (simp_all; done))
  have hq8 : (lawT_b8 pos goal most ticks) = true := by
    rcases Bool.eq_false_or_eq_true (lawT_b8 pos goal most ticks) with h | h
    · exact h
    · exfalso; (try simp only [lawT_b0, lawT_b1, lawT_b2, lawT_b3, lawT_b4, lawT_b5, lawT_b6, lawT_b7, lawT_b8, lawT_b9, lawT_b10] at *); (first | (simp_all only [Bool.and_eq_true, Bool.not_eq_true', Bool.false_eq_true, Bool.true_eq_false, reduceCtorEq]; done) | (simp only [sx, sy, eq_self, ne_eq, IntKind.wrap_i64, wrapU64, Int.reduceLT] at * <;> first | contradiction | omega) | (simp_all; done))
  have hq9 : (lawT_b9 pos goal most ticks) = true := by
    rcases Bool.eq_false_or_eq_true (lawT_b9 pos goal most ticks) with h | h
    · exact h
    · exfalso; (try simp only [lawT_b0, lawT_b1, lawT_b2, lawT_b3, lawT_b4, lawT_b5, lawT_b6, lawT_b7, lawT_b8, lawT_b9, lawT_b10] at *); (first | (simp_all only [Bool.and_eq_true, Bool.not_eq_true', Bool.false_eq_true, Bool.true_eq_false, reduceCtorEq]; done) | (simp only [sx, sy, eq_self, ne_eq, IntKind.wrap_i64, wrapU64, Int.reduceLT] at * <;> first | contradiction | omega) | (simp_all; done))
  have hq10 : (lawT_b10 pos goal most ticks) = true := by
    rcases Bool.eq_false_or_eq_true (lawT_b10 pos goal most ticks) with h | h
    · exact h
    · exfalso; (try simp only [lawT_b0, lawT_b1, lawT_b2, lawT_b3, lawT_b4, lawT_b5, lawT_b6, lawT_b7, lawT_b8, lawT_b9, lawT_b10] at *); (first | (simp_all only [Bool.and_eq_true, Bool.not_eq_true', Bool.false_eq_true, Bool.true_eq_false, reduceCtorEq]; done) | (simp only [sx, sy, eq_self, ne_eq, IntKind.wrap_i64, wrapU64, Int.reduceLT] at * <;> first | contradiction | omega) | (simp_all; done))
  have e0 : lawT_c0 pos goal most ticks = (moP pos goal most ticks == moP pos goal most ticks) := rfl; rw [e0]; exact lawT_p0 pos goal most ticks hM hS hc h1 h2 h3 h4 h5 h6 h7 h8 h9 h10 hq0 hq1 hq2 hq3 hq4 hq5 hq6 hq7 hq8 hq9 hq10

end Go.Proofs.Ytaohbffjfedcgaa
