/- Layer 12: entries made of numbers; a number in a list. -/
import Derived.Test.YthjdoeeefighkaaLN
namespace Go.Proofs.Ythjdoeeefighkaa
open Go Go.RowKit
set_option linter.unusedVariables false
set_option linter.unusedSimpArgs false
set_option linter.unnecessarySimpa false
noncomputable def modG_c0 (a b : Int) : Int := (bif (decide (a.tmod b < (0 : Int))) then (IntKind.i64.wrap (a.tmod b + b)) else (a.tmod b))
theorem modG_p0 (a b : Int) (hb : 1 ≤ b ∧ b ≤ 1000) (hq0 : (decide (b < (1 : Int))) = false) (hq1 : (b == (0 : Int)) = false) (hq2 : (decide (a.tmod b < (0 : Int))) = true) : Known Try.prog [] 33 [.int .i64 a, .int .i64 b] (.int .i64 (IntKind.i64.wrap (a.tmod b + b))) :=
  open_res mix GOk.none (T := GTab.none) (fuel := 3000) (ans := [(0, .b 0), (1, .b 0), (2, .b 1)]) (log := [(decide (a.tmod b < (0 : Int))) = true, (b == (0 : Int)) = false, (decide (b < (1 : Int))) = false]) (by kernel_rfl) ⟨hq2, hq1, hq0, trivial⟩ (by kernel_rfl)
theorem modG_p1 (a b : Int) (hb : 1 ≤ b ∧ b ≤ 1000) (hq0 : (decide (b < (1 : Int))) = false) (hq1 : (b == (0 : Int)) = false) (hq2 : (decide (a.tmod b < (0 : Int))) = false) : Known Try.prog [] 33 [.int .i64 a, .int .i64 b] (.int .i64 (a.tmod b)) :=
  open_res mix GOk.none (T := GTab.none) (fuel := 3000) (ans := [(0, .b 0), (1, .b 0), (2, .b 0)]) (log := [(decide (a.tmod b < (0 : Int))) = false, (b == (0 : Int)) = false, (decide (b < (1 : Int))) = false]) (by kernel_rfl) ⟨hq2, hq1, hq0, trivial⟩ (by kernel_rfl)
set_option maxHeartbeats 8000000 in
theorem modG (a b : Int) (hb : 1 ≤ b ∧ b ≤ 1000) : Known Try.prog [] 33 [.int .i64 a, .int .i64 b] (.int .i64 (modG_c0 a b)) := by
  have hq0 : (decide (b < (1 : Int))) = false := by
    rcases Bool.eq_false_or_eq_true (decide (b < (1 : Int))) with h | h
    · exfalso; (first | (simp_all only [Bool.and_eq_true, Bool.not_eq_true', Bool.false_eq_true, Bool.true_eq_false, reduceCtorEq]; done) | (simp_all; done) | (simp only [sx, sy, eq_self, ne_eq, IntKind.wrap_i64, wrapU64, Int.reduceLT] at * <;> first | contradiction | omega))
    · exact h
  have hq1 : (b == (0 : Int)) = false := by
    rcases Bool.eq_false_or_eq_true (b == (0 : Int)) with h | h
    · exfalso; (first | (simp_all only [Bool.and_eq_true, Bool.not_eq_true', Bool.false_eq_true, Bool.true_eq_false, reduceCtorEq]; done) | (simp_all; done) | (simp only [sx, sy, eq_self, ne_eq, IntKind.wrap_i64, wrapU64, Int.reduceLT] at * <;> first | contradiction | omega))
    · exact h
  rcases Bool.eq_false_or_eq_true (decide (a.tmod b < (0 : Int))) with hq2 | hq2
  ·
    have e0 : modG_c0 a b = (IntKind.i64.wrap (a.tmod b + b)) := ((bif_t hq2 _ _).trans rfl); rw [e0]; exact modG_p0 a b hb hq0 hq1 hq2
  ·
    have e0 : modG_c0 a b = (a.tmod b) := ((bif_f hq2 _ _).trans rfl); rw [e0]; exact modG_p1 a b hb hq0 hq1 hq2

noncomputable def modV (a b : Int) : Int := modG_c0 a b
theorem modQ (a b : Int) (hg : (decide (1 ≤ b ∧ b ≤ 1000)) = true) : Known Try.prog [] 33 [.int .i64 a, .int .i64 b] (.int .i64 (modV a b)) := modG a b (of_decide_eq_true hg)
noncomputable def modQ_k : List Value → Option (Bool × Value)
  | [.int .i64 a, .int .i64 b] => some (decide (1 ≤ b ∧ b ≤ 1000), .int .i64 (modV a b))
  | _ => none
theorem modQ_ok : ∀ args v, modQ_k args = some (true, v) → Known Try.prog [] 33 args v := by
  intro args v h
  unfold modQ_k at h
  split at h
  · injection h with h; injection h with hg h; subst h; exact modQ _ _ hg
  · cases h
noncomputable def tabM : GTab := (GTab.fn 33 modQ_k GTab.none)
theorem tabM_ok : GOk Try.prog [] tabM := (GOk.fn modQ_ok GOk.none)
noncomputable def enA_hd (xs : List Int) : Hd := headD Try.prog [] tabM 3000 35 [.list (rowA gI xs) xs.length] [(0, .stop)]
noncomputable def enA_R (xs : List Int) (rc0 : Array Value) (rn0 : Nat) (y1 : Int) : St := (((entryR Try.prog [(.slot 3, 71)] 1 41 [7, 15, 31, 23, 11, 19, 35, 27, 5, 9, 17, 33, 25, 13, 21, 29, 8, 16, 32, 24, 12, 20, 36, 28, 6, 10, 18, 34, 26, 14, 22, 30] 1 0 (enA_hd xs).s).rows [(1, rc0, 71)]).updF [(3, .complex .f64 1 rn0), (4, .int .i64 y1)] [])
noncomputable def enA_S (xs : List Int) (y0 : List En) (y1 : Int) : St := (((entryR Try.prog [(.slot 3, 71)] 1 41 [7, 15, 31, 23, 11, 19, 35, 27, 5, 9, 17, 33, 25, 13, 21, 29, 8, 16, 32, 24, 12, 20, 36, 28, 6, 10, 18, 34, 26, 14, 22, 30] 1 0 (enA_hd xs).s).rows [(1, (rowA gE y0.reverse), 71)]).updF [(3, .complex .f64 1 y0.length), (4, .int .i64 y1)] [])
theorem enA_n (xs : List Int) (hx : xs.length ≤ 18446744073709551615) : 1 = (enA_hd xs).s.hs.next := by kernel_rfl
theorem enA_r (xs : List Int) (hx : xs.length ≤ 18446744073709551615) : (enA_hd xs).s.hs.rd < bitOf 1 := by
  have e : (enA_hd xs).s.hs.rd = 0 := by kernel_rfl
  rw [e]; exact blt_iff.1 (by kernel_rfl)
theorem enA_w (xs : List Int) (hx : xs.length ≤ 18446744073709551615) : (enA_hd xs).s.hs.wr < bitOf 1 := by
  have e : (enA_hd xs).s.hs.wr = 0 := by kernel_rfl
  rw [e]; exact blt_iff.1 (by kernel_rfl)
theorem enA_e0 (xs : List Int) (hx : xs.length ≤ 18446744073709551615) : beginS Try.prog [(.slot 3, 71)] 1 41 (sameB 1 1) [7, 15, 31, 23, 11, 19, 35, 27, 5, 9, 17, 33, 25, 13, 21, 29, 8, 16, 32, 24, 12, 20, 36, 28, 6, 10, 18, 34, 26, 14, 22, 30] 2 1 0 (enA_hd xs).s = some (enA_S xs [] ((0 : Int))) := by
  have h : beginS Try.prog [(.slot 3, 71)] 1 41 (sameB 1 1) [7, 15, 31, 23, 11, 19, 35, 27, 5, 9, 17, 33, 25, 13, 21, 29, 8, 16, 32, 24, 12, 20, 36, 28, 6, 10, 18, 34, 26, 14, 22, 30] 2 1 0 (enA_hd xs).s = some (enA_R xs #[] 0 ((0 : Int))) := by kernel_rfl
  refine h.trans (congrArg some ?_)
  show enA_R xs #[] 0 ((0 : Int)) = enA_R xs (rowA gE ([] : List En).reverse) ([] : List En).length ((0 : Int))
  simp only [List.reverse_nil, rowA_nil, List.length_nil, List.reverse_reverse, List.length_reverse]
theorem enA_e1 (xs : List Int) (hx : xs.length ≤ 18446744073709551615) : beginOk Try.prog [(.slot 3, 71)] 1 41 (sameB 1 1) 2 (enA_hd xs).s = true := by kernel_rfl
theorem enA_p0 (xs : List Int) (hx : xs.length ≤ 18446744073709551615) (y0 : List En) (y1 : Int) (hi : (decide (0 ≤ y1 ∧ y1 ≤ 20 ∧ (y0.length : Int) ≤ y1)) = true) (hq0 : (decide (y1 < (↑xs.length : Int))) = true) (hq1 : (decide (y1 < (20 : Int))) = true) (hq2 : (decide ((0 : Int) ≤ y1)) = true) (hq3 : (decide ((y0.length + (1 : Nat)) * (64 : Nat) < (1000000000 : Nat))) = true) : bodyR Try.prog ([] : Vars).length tabM 3000 (enA_hd xs) (enA_S xs y0 y1 ) [(0, .b 1), (3, .b 1), (4, .b 1), (5, .b 1), (6, .vals ([Value.int IntKind.i64 (el xs y1)])), (13, .b 1), (14, .yes), (15, .arr (rowA (gE) (((y1, IntKind.i64.wrap ((1 : Int) + (IntKind.i64.wrap ((IntKind.i64.wrap (modV (el xs y1) (1000 : Int) + (7 : Int))).tdiv (8 : Int))).tmod (2 : Int)), (0 : Int), { data := #[] }, IntKind.i64.wrap ((1 : Int) + (modV (el xs y1) (1000 : Int)).tmod (3 : Int)), (IntKind.i64.wrap ((modV (el xs y1) (1000 : Int)).tdiv (3 : Int))).tmod (8 : Int), (0 : Int)) :: y0).reverse)))] 1 41 [(3, 1)] [7, 15, 31, 23, 11, 19, 35, 27, 5, 9, 17, 33, 25, 13, 21, 29, 8, 16, 32, 24, 12, 20, 36, 28, 6, 10, 18, 34, 26, 14, 22, 30] 2 1 0 = some (.normal, (enA_S xs ((y1, IntKind.i64.wrap ((1 : Int) + (IntKind.i64.wrap ((IntKind.i64.wrap (modV (el xs y1) (1000 : Int) + (7 : Int))).tdiv (8 : Int))).tmod (2 : Int)), (0 : Int), { data := #[] }, IntKind.i64.wrap ((1 : Int) + (modV (el xs y1) (1000 : Int)).tmod (3 : Int)), (IntKind.i64.wrap ((modV (el xs y1) (1000 : Int)).tdiv (3 : Int))).tmod (8 : Int), (0 : Int)) :: y0) (IntKind.i64.wrap (y1 + (1 : Int)))), [((rowA (gE) (y0.reverse)).toList ++ ([Value.int IntKind.i64 y1, Value.int IntKind.i64 (IntKind.i64.wrap ((1 : Int) + (IntKind.i64.wrap ((IntKind.i64.wrap (modV (el xs y1) (1000 : Int) + (7 : Int))).tdiv (8 : Int))).tmod (2 : Int))), Value.int IntKind.i64 (0 : Int), Value.string { data := #[] }, Value.int IntKind.i64 (IntKind.i64.wrap ((1 : Int) + (modV (el xs y1) (1000 : Int)).tmod (3 : Int))), Value.int IntKind.i64 ((IntKind.i64.wrap ((modV (el xs y1) (1000 : Int)).tdiv (3 : Int))).tmod (8 : Int)), Value.int IntKind.i64 (0 : Int)])).toArray = rowA (gE) (((y1, IntKind.i64.wrap ((1 : Int) + (IntKind.i64.wrap ((IntKind.i64.wrap (modV (el xs y1) (1000 : Int) + (7 : Int))).tdiv (8 : Int))).tmod (2 : Int)), (0 : Int), { data := #[] }, IntKind.i64.wrap ((1 : Int) + (modV (el xs y1) (1000 : Int)).tmod (3 : Int)), (IntKind.i64.wrap ((modV (el xs y1) (1000 : Int)).tdiv (3 : Int))).tmod (8 : Int), (0 : Int)) :: y0).reverse), ((rowA gE y0.reverse).size.beq (y0.length.mul Try.prog.types[(71 : Nat)].size)) = true, (decide ((y0.length + (1 : Nat)) * (64 : Nat) < (1000000000 : Nat))) = true, segC (rowA (gI) (xs)) (((y1).toNat) * 1 + 0) 1 = some ([Value.int IntKind.i64 (el xs y1)]), (decide (y1 < (↑xs.length : Int))) = true, (decide ((0 : Int) ≤ y1)) = true, (decide (y1 < (20 : Int))) = true, (decide (y1 < (↑xs.length : Int))) = true]) := by kernel_rfl
theorem enA_p1 (xs : List Int) (hx : xs.length ≤ 18446744073709551615) (y0 : List En) (y1 : Int) (hi : (decide (0 ≤ y1 ∧ y1 ≤ 20 ∧ (y0.length : Int) ≤ y1)) = true) (hq0 : (decide (y1 < (↑xs.length : Int))) = true) (hq1 : (decide (y1 < (20 : Int))) = false) : bodyR Try.prog ([] : Vars).length tabM 3000 (enA_hd xs) (enA_S xs y0 y1 ) [(0, .b 1), (3, .b 0)] 1 41 [(1, 1)] [7, 15, 31, 23, 11, 19, 35, 27, 5, 9, 17, 33, 25, 13, 21, 29, 8, 16, 32, 24, 12, 20, 36, 28, 6, 10, 18, 34, 26, 14, 22, 30] 41 1 0 = some (.exit 0, bodySt (bodyR Try.prog ([] : Vars).length tabM 3000 (enA_hd xs) (enA_S xs y0 y1 ) [(0, .b 1), (3, .b 0)] 1 41 [(1, 1)] [7, 15, 31, 23, 11, 19, 35, 27, 5, 9, 17, 33, 25, 13, 21, 29, 8, 16, 32, 24, 12, 20, 36, 28, 6, 10, 18, 34, 26, 14, 22, 30] 41 1 0), [(decide (y1 < (20 : Int))) = false, (decide (y1 < (↑xs.length : Int))) = true]) := by kernel_rfl
theorem enA_q1 (xs : List Int) (hx : xs.length ≤ 18446744073709551615) (y0 : List En) (y1 : Int) (hi : (decide (0 ≤ y1 ∧ y1 ≤ 20 ∧ (y0.length : Int) ≤ y1)) = true) (hq0 : (decide (y1 < (↑xs.length : Int))) = true) (hq1 : (decide (y1 < (20 : Int))) = false) : (bodySt (bodyR Try.prog ([] : Vars).length tabM 3000 (enA_hd xs) (enA_S xs y0 y1 ) [(0, .b 1), (3, .b 0)] 1 41 [(1, 1)] [7, 15, 31, 23, 11, 19, 35, 27, 5, 9, 17, 33, 25, 13, 21, 29, 8, 16, 32, 24, 12, 20, 36, 28, 6, 10, 18, 34, 26, 14, 22, 30] 41 1 0)).hs.next = 41 := by kernel_rfl
theorem enA_p2 (xs : List Int) (hx : xs.length ≤ 18446744073709551615) (y0 : List En) (y1 : Int) (hi : (decide (0 ≤ y1 ∧ y1 ≤ 20 ∧ (y0.length : Int) ≤ y1)) = true) (hq0 : (decide (y1 < (↑xs.length : Int))) = false) : bodyR Try.prog ([] : Vars).length tabM 3000 (enA_hd xs) (enA_S xs y0 y1 ) [(0, .b 0)] 1 41 [(1, 1)] [7, 15, 31, 23, 11, 19, 35, 27, 5, 9, 17, 33, 25, 13, 21, 29, 8, 16, 32, 24, 12, 20, 36, 28, 6, 10, 18, 34, 26, 14, 22, 30] 41 1 0 = some (.exit 0, bodySt (bodyR Try.prog ([] : Vars).length tabM 3000 (enA_hd xs) (enA_S xs y0 y1 ) [(0, .b 0)] 1 41 [(1, 1)] [7, 15, 31, 23, 11, 19, 35, 27, 5, 9, 17, 33, 25, 13, 21, 29, 8, 16, 32, 24, 12, 20, 36, 28, 6, 10, 18, 34, 26, 14, 22, 30] 41 1 0), [(decide (y1 < (↑xs.length : Int))) = false]) := by kernel_rfl
theorem enA_q2 (xs : List Int) (hx : xs.length ≤ 18446744073709551615) (y0 : List En) (y1 : Int) (hi : (decide (0 ≤ y1 ∧ y1 ≤ 20 ∧ (y0.length : Int) ≤ y1)) = true) (hq0 : (decide (y1 < (↑xs.length : Int))) = false) : (bodySt (bodyR Try.prog ([] : Vars).length tabM 3000 (enA_hd xs) (enA_S xs y0 y1 ) [(0, .b 0)] 1 41 [(1, 1)] [7, 15, 31, 23, 11, 19, 35, 27, 5, 9, 17, 33, 25, 13, 21, 29, 8, 16, 32, 24, 12, 20, 36, 28, 6, 10, 18, 34, 26, 14, 22, 30] 41 1 0)).hs.next = 41 := by kernel_rfl
theorem enA_d0 (xs : List Int) (hx : xs.length ≤ 18446744073709551615) (y0 : List En) (y1 : Int) (hi : (decide (0 ≤ y1 ∧ y1 ≤ 20 ∧ (y0.length : Int) ≤ y1)) = true) (hq0 : (decide (y1 < (↑xs.length : Int))) = true) (hq1 : (decide (y1 < (20 : Int))) = true) : (decide ((0 : Int) ≤ y1)) = true := by
  rcases Bool.eq_false_or_eq_true (decide ((0 : Int) ≤ y1)) with h | h
  · exact h
  · exfalso; (first | (simp_all only [Bool.and_eq_true, Bool.not_eq_true', Bool.false_eq_true, Bool.true_eq_false, reduceCtorEq]; done) | (simp_all; done) | (simp only [sx, sy, eq_self, ne_eq, IntKind.wrap_i64, wrapU64, Int.reduceLT] at * <;> first | contradiction | omega))
theorem enA_d1 (xs : List Int) (hx : xs.length ≤ 18446744073709551615) (y0 : List En) (y1 : Int) (hi : (decide (0 ≤ y1 ∧ y1 ≤ 20 ∧ (y0.length : Int) ≤ y1)) = true) (hq0 : (decide (y1 < (↑xs.length : Int))) = true) (hq1 : (decide (y1 < (20 : Int))) = true) (hq2 : (decide ((0 : Int) ≤ y1)) = true) : (decide ((y0.length + (1 : Nat)) * (64 : Nat) < (1000000000 : Nat))) = true := by
  rcases Bool.eq_false_or_eq_true (decide ((y0.length + (1 : Nat)) * (64 : Nat) < (1000000000 : Nat))) with h | h
  · exact h
  · exfalso; (first | (simp_all only [Bool.and_eq_true, Bool.not_eq_true', Bool.false_eq_true, Bool.true_eq_false, reduceCtorEq]; done) | (simp_all; done) | (simp only [sx, sy, eq_self, ne_eq, IntKind.wrap_i64, wrapU64, Int.reduceLT] at * <;> first | contradiction | omega))
def enA_X : Nat → VX
  | 0 => .exit 0
  | 1 => .exit 0
  | _ => .normal
noncomputable def enA_E (kE : Nat) (xs : List Int) (y0 : List En) (y1 : Int) : St := match kE with
  | 0 => bodySt (bodyR Try.prog ([] : Vars).length tabM 3000 (enA_hd xs) (enA_S xs y0 y1 ) [(0, .b 1), (3, .b 0)] 1 41 [(1, 1)] [7, 15, 31, 23, 11, 19, 35, 27, 5, 9, 17, 33, 25, 13, 21, 29, 8, 16, 32, 24, 12, 20, 36, 28, 6, 10, 18, 34, 26, 14, 22, 30] 41 1 0)
  | 1 => bodySt (bodyR Try.prog ([] : Vars).length tabM 3000 (enA_hd xs) (enA_S xs y0 y1 ) [(0, .b 0)] 1 41 [(1, 1)] [7, 15, 31, 23, 11, 19, 35, 27, 5, 9, 17, 33, 25, 13, 21, 29, 8, 16, 32, 24, 12, 20, 36, 28, 6, 10, 18, 34, 26, 14, 22, 30] 41 1 0)
  | _ => (enA_hd xs).s
noncomputable def enA_f (xs : List Int) : Nat → List En → Int → Option (Nat × (List En × Int))
  | 0, _, _ => none
  | fu + 1, y0, y1 => (bif (decide (0 ≤ y1 ∧ y1 ≤ 20 ∧ (y0.length : Int) ≤ y1)) then (bif (decide (y1 < (↑xs.length : Int))) then (bif (decide (y1 < (20 : Int))) then enA_f xs fu ((y1, IntKind.i64.wrap ((1 : Int) + (IntKind.i64.wrap ((IntKind.i64.wrap (modV (el xs y1) (1000 : Int) + (7 : Int))).tdiv (8 : Int))).tmod (2 : Int)), (0 : Int), { data := #[] }, IntKind.i64.wrap ((1 : Int) + (modV (el xs y1) (1000 : Int)).tmod (3 : Int)), (IntKind.i64.wrap ((modV (el xs y1) (1000 : Int)).tdiv (3 : Int))).tmod (8 : Int), (0 : Int)) :: y0) (IntKind.i64.wrap (y1 + (1 : Int))) else some (0, (y0, y1))) else some (1, (y0, y1))) else none)
theorem enA_fs (xs : List Int) (fu : Nat) (y0 : List En) (y1 : Int) : enA_f xs (fu + 1) y0 y1 = (bif (decide (0 ≤ y1 ∧ y1 ≤ 20 ∧ (y0.length : Int) ≤ y1)) then (bif (decide (y1 < (↑xs.length : Int))) then (bif (decide (y1 < (20 : Int))) then enA_f xs fu ((y1, IntKind.i64.wrap ((1 : Int) + (IntKind.i64.wrap ((IntKind.i64.wrap (modV (el xs y1) (1000 : Int) + (7 : Int))).tdiv (8 : Int))).tmod (2 : Int)), (0 : Int), { data := #[] }, IntKind.i64.wrap ((1 : Int) + (modV (el xs y1) (1000 : Int)).tmod (3 : Int)), (IntKind.i64.wrap ((modV (el xs y1) (1000 : Int)).tdiv (3 : Int))).tmod (8 : Int), (0 : Int)) :: y0) (IntKind.i64.wrap (y1 + (1 : Int))) else some (0, (y0, y1))) else some (1, (y0, y1))) else none) := rfl
theorem enA_f0 (xs : List Int) (y0 : List En) (y1 : Int) : enA_f xs 0 y0 y1 = none := rfl
theorem enA_loop (xs : List Int) (hx : xs.length ≤ 18446744073709551615) : ∀ (fu : Nat) (y0 : List En) (y1 : Int) (kk : Nat) (zz : List En × Int), enA_f xs fu y0 y1 = some (kk, zz) → VStep (enA_hd xs).s.hs (enA_S xs y0 y1 ).hs → RoundsC Try.prog [] 1 41 (enA_hd xs).s.hs (enA_hd xs).ro (enA_hd xs).a (enA_S xs y0 y1 ) (enA_X kk) (enA_E kk xs zz.1 zz.2 ) ∧ ((enA_E kk xs zz.1 zz.2 )).hs.next = 41 := by
  intro fu
  induction fu with
  | zero =>
    intro y0 y1 kk zz hf hSz
    have hf := (enA_f0 xs y0 y1 ).symm.trans hf
    simp at hf
  | succ fu ih =>
    intro y0 y1 kk zz hf hSz
    have hf := (enA_fs xs fu y0 y1 ).symm.trans hf
    rcases bif_or hf with ⟨hi, hf⟩ | ⟨hi, hf⟩
    case inr => cases hf
    rcases bif_or hf with ⟨hq0, hf⟩ | ⟨hq0, hf⟩
    ·
      rcases bif_or hf with ⟨hq1, hf⟩ | ⟨hq1, hf⟩
      ·
        have hq2 := enA_d0 xs hx  y0 y1 hi hq0 hq1 
        have hq3 := enA_d1 xs hx  y0 y1 hi hq0 hq1 hq2 
        have hb1 := enA_p0 xs hx  y0 y1 hi  hq0 hq1 hq2 hq3; have hb2 := body_canonR hb1; have hb3 := hb2 ⟨(row_snoc (g := (gE)) rfl), (fact_size (g := (gE)) (k := 7) (fun _ => rfl) (by simp)), hq3, (seg_row (g := (gI)) (k := 1) (fun _ => rfl) (by first | exact of_decide_eq_true hq2 | simpa using of_decide_eq_true hq2) (by first | exact of_decide_eq_true hq0 | simpa using of_decide_eq_true hq0) (by decide) rfl), hq0, hq2, hq1, hq0, trivial⟩; obtain ⟨sz1, kz1, kz2, kz3⟩ := hb3; obtain ⟨gz1, gz2⟩ := ih ((y1, IntKind.i64.wrap ((1 : Int) + (IntKind.i64.wrap ((IntKind.i64.wrap (modV (el xs y1) (1000 : Int) + (7 : Int))).tdiv (8 : Int))).tmod (2 : Int)), (0 : Int), { data := #[] }, IntKind.i64.wrap ((1 : Int) + (modV (el xs y1) (1000 : Int)).tmod (3 : Int)), (IntKind.i64.wrap ((modV (el xs y1) (1000 : Int)).tdiv (3 : Int))).tmod (8 : Int), (0 : Int)) :: y0) (IntKind.i64.wrap (y1 + (1 : Int))) kk zz hf (rounds_step mix (T := tabM) tabM_ok (enA_n xs hx  ) (enA_r xs hx  ) (enA_w xs hx  ) kz1 hSz kz2 kz3); exact ⟨rounds_next mix (T := tabM) tabM_ok (enA_n xs hx  ) (enA_r xs hx  ) (enA_w xs hx  ) kz1 hSz kz2 kz3 (fun _ => gz1), gz2⟩
      ·
        injection hf with hf; injection hf with e1 e2; subst e1; subst e2; have hb1 := enA_p1 xs hx  y0 y1 hi  hq0 hq1; have hb2 := body_canonR hb1; have hb3 := hb2 ⟨hq1, hq0, trivial⟩; obtain ⟨sz1, kz1, kz2, kz3⟩ := hb3; exact ⟨rounds_end mix (T := tabM) tabM_ok (enA_n xs hx  ) (enA_r xs hx  ) (enA_w xs hx  ) kz1 (fun h => by cases h) hSz kz2 kz3, enA_q1 xs hx  y0 y1 hi  hq0 hq1⟩
    ·
      injection hf with hf; injection hf with e1 e2; subst e1; subst e2; have hb1 := enA_p2 xs hx  y0 y1 hi  hq0; have hb2 := body_canonR hb1; have hb3 := hb2 ⟨hq0, trivial⟩; obtain ⟨sz1, kz1, kz2, kz3⟩ := hb3; exact ⟨rounds_end mix (T := tabM) tabM_ok (enA_n xs hx  ) (enA_r xs hx  ) (enA_w xs hx  ) kz1 (fun h => by cases h) hSz kz2 kz3, enA_q2 xs hx  y0 y1 hi  hq0⟩
theorem enA_ok (xs : List Int) (hx : xs.length ≤ 18446744073709551615) (fu kk : Nat) (zz : List En × Int) (hf : enA_f xs fu [] ((0 : Int)) = some (kk, zz)) : ∀ B : Bd, B.L = [] → LoopOk Try.prog B (enA_hd xs).ro (enA_hd xs).a (enA_hd xs).s (enA_X kk) (enA_E kk xs zz.1 zz.2 ) := by
  obtain ⟨sb1, sb2, sb3, sb4⟩ := begin_open (enA_e0 xs hx  ) (enA_e1 xs hx  )
  have hSz := begin_step2 (enA_n xs hx  ) (enA_r xs hx  ) (enA_w xs hx  ) sb2 sb3 sb4
  obtain ⟨gz1, gz2⟩ := enA_loop xs hx  fu [] ((0 : Int)) kk zz hf hSz
  exact rounds_ok (enA_n xs hx  ) (Nat.le_of_ble_eq_true (by kernel_rfl)) gz2 (rounds_begin2 (enA_n xs hx  ) (enA_r xs hx  ) (enA_w xs hx  ) sb2 sb3 sb4 (fun _ => gz1))

noncomputable def enE_c0 (xs : List Int) (enA_z0 : List En) (enA_z1 : Int)  : List En := (enA_z0.reverse)
theorem enE_p0 (xs : List Int) (enA_z0 : List En) (enA_z1 : Int)  (hx : xs.length ≤ 18446744073709551615) (enA_l : ∀ B : Bd, B.L = [] → LoopOk Try.prog B (enA_hd xs).ro (enA_hd xs).a (enA_hd xs).s (enA_X 0) (enA_E 0 xs enA_z0 enA_z1 )) : KnownR Try.prog [] 35 [.list (rowA gI xs) xs.length] (.complex .f64 0 ((enA_z0.reverse)).length) [(rowA gE ((enA_z0.reverse)), 71)] :=
  knownR_eq (v := Value.complex FloatKind.f64 (nat_lit 0) enA_z0.length) (bs := [(rowA gE enA_z0.reverse, nat_lit 71)]) (open_resD mix (GOk.add tabM_ok enA_l) (T := (GTab.add tabM 4 (enA_hd xs).ro (enA_hd xs).a (enA_hd xs).s (enA_X 0) (enA_E 0 xs enA_z0 enA_z1 ) (by kernel_rfl))) (fuel := 3000) (es := [71]) (ans := [(0, .loop (enA_X 0) (enA_E 0 xs enA_z0 enA_z1 )), ]) (log := [LoopRes Try.prog ([] : Vars).length (GTab.add tabM 4 (enA_hd xs).ro (enA_hd xs).a (enA_hd xs).s (enA_X 0) (enA_E 0 xs enA_z0 enA_z1 ) (by kernel_rfl)) (enA_hd xs).ro (enA_hd xs).a (enA_hd xs).s (enA_X 0) (enA_E 0 xs enA_z0 enA_z1 )]) (by kernel_rfl) ⟨(loop_known2 add_eq), trivial⟩ (by kernel_rfl)) (by first | rfl | simp) (by first | rfl | simp [rowA_nil])
set_option maxHeartbeats 8000000 in
theorem enE (xs : List Int) (enA_z0 : List En) (enA_z1 : Int)  (hx : xs.length ≤ 18446744073709551615) (enA_l : ∀ B : Bd, B.L = [] → LoopOk Try.prog B (enA_hd xs).ro (enA_hd xs).a (enA_hd xs).s (enA_X 0) (enA_E 0 xs enA_z0 enA_z1 )) : KnownR Try.prog [] 35 [.list (rowA gI xs) xs.length] (.complex .f64 0 ((enE_c0 xs enA_z0 enA_z1)).length) [(rowA gE ((enE_c0 xs enA_z0 enA_z1)), 71)] := by
  have e0 : enE_c0 xs enA_z0 enA_z1 = (enA_z0.reverse) := rfl; rw [e0]; exact enE_p0 xs enA_z0 enA_z1 hx enA_l

noncomputable def enG_c0 (xs : List Int) (enA_z0 : List En) (enA_z1 : Int)  : List En := (enA_z0.reverse)
theorem enG_p0 (xs : List Int) (enA_z0 : List En) (enA_z1 : Int)  (hx : xs.length ≤ 18446744073709551615) (enA_l : ∀ B : Bd, B.L = [] → LoopOk Try.prog B (enA_hd xs).ro (enA_hd xs).a (enA_hd xs).s (enA_X 1) (enA_E 1 xs enA_z0 enA_z1 )) : KnownR Try.prog [] 35 [.list (rowA gI xs) xs.length] (.complex .f64 0 ((enA_z0.reverse)).length) [(rowA gE ((enA_z0.reverse)), 71)] :=
  knownR_eq (v := Value.complex FloatKind.f64 (nat_lit 0) enA_z0.length) (bs := [(rowA gE enA_z0.reverse, nat_lit 71)]) (open_resD mix (GOk.add tabM_ok enA_l) (T := (GTab.add tabM 4 (enA_hd xs).ro (enA_hd xs).a (enA_hd xs).s (enA_X 1) (enA_E 1 xs enA_z0 enA_z1 ) (by kernel_rfl))) (fuel := 3000) (es := [71]) (ans := [(0, .loop (enA_X 1) (enA_E 1 xs enA_z0 enA_z1 )), ]) (log := [LoopRes Try.prog ([] : Vars).length (GTab.add tabM 4 (enA_hd xs).ro (enA_hd xs).a (enA_hd xs).s (enA_X 1) (enA_E 1 xs enA_z0 enA_z1 ) (by kernel_rfl)) (enA_hd xs).ro (enA_hd xs).a (enA_hd xs).s (enA_X 1) (enA_E 1 xs enA_z0 enA_z1 )]) (by kernel_rfl) ⟨(loop_known2 add_eq), trivial⟩ (by kernel_rfl)) (by first | rfl | simp) (by first | rfl | simp [rowA_nil])
set_option maxHeartbeats 8000000 in
theorem enG (xs : List Int) (enA_z0 : List En) (enA_z1 : Int)  (hx : xs.length ≤ 18446744073709551615) (enA_l : ∀ B : Bd, B.L = [] → LoopOk Try.prog B (enA_hd xs).ro (enA_hd xs).a (enA_hd xs).s (enA_X 1) (enA_E 1 xs enA_z0 enA_z1 )) : KnownR Try.prog [] 35 [.list (rowA gI xs) xs.length] (.complex .f64 0 ((enG_c0 xs enA_z0 enA_z1)).length) [(rowA gE ((enG_c0 xs enA_z0 enA_z1)), 71)] := by
  have e0 : enG_c0 xs enA_z0 enA_z1 = (enA_z0.reverse) := rfl; rw [e0]; exact enG_p0 xs enA_z0 enA_z1 hx enA_l

noncomputable def hsA_hd (xs : List Int) (v : Int) : Hd := headD Try.prog [] GTab.none 3000 36 [.list (rowA gI xs) xs.length, .val (.int .i64 v)] [(0, .stop)]
noncomputable def hsA_S (xs : List Int) (v : Int) (y0 : Int) : St := ((entryK 1 41 [7, 15, 11, 9, 17, 13, 8, 16, 12, 6, 10, 14] 1 0 (hsA_hd xs v).s).updF [(5, .int .i64 y0)] [])
theorem hsA_n (xs : List Int) (v : Int) (hx : xs.length ≤ 20000) : 1 = (hsA_hd xs v).s.hs.next := by kernel_rfl
theorem hsA_r (xs : List Int) (v : Int) (hx : xs.length ≤ 20000) : (hsA_hd xs v).s.hs.rd < bitOf 1 := by
  have e : (hsA_hd xs v).s.hs.rd = 0 := by kernel_rfl
  rw [e]; exact blt_iff.1 (by kernel_rfl)
theorem hsA_w (xs : List Int) (v : Int) (hx : xs.length ≤ 20000) : (hsA_hd xs v).s.hs.wr < bitOf 1 := by
  have e : (hsA_hd xs v).s.hs.wr = 0 := by kernel_rfl
  rw [e]; exact blt_iff.1 (by kernel_rfl)
theorem hsA_e0 (xs : List Int) (v : Int) (hx : xs.length ≤ 20000) : canonS 1 41 [] [7, 15, 11, 9, 17, 13, 8, 16, 12, 6, 10, 14] 1 1 0 (hsA_hd xs v).s = some (hsA_S xs v ((0 : Int))) := by kernel_rfl
theorem hsA_e1 (xs : List Int) (v : Int) (hx : xs.length ≤ 20000) : canonOk 1 41 [] 1 (hsA_hd xs v).s = true := canonOkF_eq.symm.trans (by kernel_rfl)
theorem hsA_p0 (xs : List Int) (v : Int) (hx : xs.length ≤ 20000) (y0 : Int) (hi : (decide (0 ≤ y0 ∧ y0 ≤ 20000)) = true) (hq0 : (decide (y0 < (↑xs.length : Int))) = true) (hq1 : (decide ((0 : Int) ≤ y0)) = true) (hq2 : (el xs y0 == v) = true) : bodyK Try.prog ([] : Vars).length GTab.none 3000 (hsA_hd xs v) (hsA_S xs v y0 ) [(0, .b 1), (1, .b 1), (2, .b 1), (3, .vals ([Value.int IntKind.i64 (el xs y0)])), (4, .b 1)] 1 41 [7, 15, 11, 9, 17, 13, 8, 16, 12, 6, 10, 14] 41 1 0 = some (.ret, bodySt (bodyK Try.prog ([] : Vars).length GTab.none 3000 (hsA_hd xs v) (hsA_S xs v y0 ) [(0, .b 1), (1, .b 1), (2, .b 1), (3, .vals ([Value.int IntKind.i64 (el xs y0)])), (4, .b 1)] 1 41 [7, 15, 11, 9, 17, 13, 8, 16, 12, 6, 10, 14] 41 1 0), [(el xs y0 == v) = true, segC (rowA (gI) (xs)) (((y0).toNat) * 1 + 0) 1 = some ([Value.int IntKind.i64 (el xs y0)]), (decide (y0 < (↑xs.length : Int))) = true, (decide ((0 : Int) ≤ y0)) = true, (decide (y0 < (↑xs.length : Int))) = true]) := by kernel_rfl
theorem hsA_q0 (xs : List Int) (v : Int) (hx : xs.length ≤ 20000) (y0 : Int) (hi : (decide (0 ≤ y0 ∧ y0 ≤ 20000)) = true) (hq0 : (decide (y0 < (↑xs.length : Int))) = true) (hq1 : (decide ((0 : Int) ≤ y0)) = true) (hq2 : (el xs y0 == v) = true) : (bodySt (bodyK Try.prog ([] : Vars).length GTab.none 3000 (hsA_hd xs v) (hsA_S xs v y0 ) [(0, .b 1), (1, .b 1), (2, .b 1), (3, .vals ([Value.int IntKind.i64 (el xs y0)])), (4, .b 1)] 1 41 [7, 15, 11, 9, 17, 13, 8, 16, 12, 6, 10, 14] 41 1 0)).hs.next = 41 := by kernel_rfl
theorem hsA_p1 (xs : List Int) (v : Int) (hx : xs.length ≤ 20000) (y0 : Int) (hi : (decide (0 ≤ y0 ∧ y0 ≤ 20000)) = true) (hq0 : (decide (y0 < (↑xs.length : Int))) = true) (hq1 : (decide ((0 : Int) ≤ y0)) = true) (hq2 : (el xs y0 == v) = false) : bodyK Try.prog ([] : Vars).length GTab.none 3000 (hsA_hd xs v) (hsA_S xs v y0 ) [(0, .b 1), (1, .b 1), (2, .b 1), (3, .vals ([Value.int IntKind.i64 (el xs y0)])), (4, .b 0)] 1 41 [7, 15, 11, 9, 17, 13, 8, 16, 12, 6, 10, 14] 1 1 0 = some (.normal, (hsA_S xs v (IntKind.i64.wrap (y0 + (1 : Int)))), [(el xs y0 == v) = false, segC (rowA (gI) (xs)) (((y0).toNat) * 1 + 0) 1 = some ([Value.int IntKind.i64 (el xs y0)]), (decide (y0 < (↑xs.length : Int))) = true, (decide ((0 : Int) ≤ y0)) = true, (decide (y0 < (↑xs.length : Int))) = true]) := by kernel_rfl
theorem hsA_p2 (xs : List Int) (v : Int) (hx : xs.length ≤ 20000) (y0 : Int) (hi : (decide (0 ≤ y0 ∧ y0 ≤ 20000)) = true) (hq0 : (decide (y0 < (↑xs.length : Int))) = false) : bodyK Try.prog ([] : Vars).length GTab.none 3000 (hsA_hd xs v) (hsA_S xs v y0 ) [(0, .b 0)] 1 41 [7, 15, 11, 9, 17, 13, 8, 16, 12, 6, 10, 14] 41 1 0 = some (.exit 0, bodySt (bodyK Try.prog ([] : Vars).length GTab.none 3000 (hsA_hd xs v) (hsA_S xs v y0 ) [(0, .b 0)] 1 41 [7, 15, 11, 9, 17, 13, 8, 16, 12, 6, 10, 14] 41 1 0), [(decide (y0 < (↑xs.length : Int))) = false]) := by kernel_rfl
theorem hsA_q2 (xs : List Int) (v : Int) (hx : xs.length ≤ 20000) (y0 : Int) (hi : (decide (0 ≤ y0 ∧ y0 ≤ 20000)) = true) (hq0 : (decide (y0 < (↑xs.length : Int))) = false) : (bodySt (bodyK Try.prog ([] : Vars).length GTab.none 3000 (hsA_hd xs v) (hsA_S xs v y0 ) [(0, .b 0)] 1 41 [7, 15, 11, 9, 17, 13, 8, 16, 12, 6, 10, 14] 41 1 0)).hs.next = 41 := by kernel_rfl
theorem hsA_d0 (xs : List Int) (v : Int) (hx : xs.length ≤ 20000) (y0 : Int) (hi : (decide (0 ≤ y0 ∧ y0 ≤ 20000)) = true) (hq0 : (decide (y0 < (↑xs.length : Int))) = true) : (decide ((0 : Int) ≤ y0)) = true := by
  rcases Bool.eq_false_or_eq_true (decide ((0 : Int) ≤ y0)) with h | h
  · exact h
  · exfalso; (first | (simp_all only [Bool.and_eq_true, Bool.not_eq_true', Bool.false_eq_true, Bool.true_eq_false, reduceCtorEq]; done) | (simp_all; done) | (simp only [sx, sy, eq_self, ne_eq, IntKind.wrap_i64, wrapU64, Int.reduceLT] at * <;> first | contradiction | omega))
def hsA_X : Nat → VX
  | 0 => .ret
  | 1 => .exit 0
  | _ => .normal
noncomputable def hsA_E (kE : Nat) (xs : List Int) (v : Int) (y0 : Int) : St := match kE with
  | 0 => bodySt (bodyK Try.prog ([] : Vars).length GTab.none 3000 (hsA_hd xs v) (hsA_S xs v y0 ) [(0, .b 1), (1, .b 1), (2, .b 1), (3, .vals ([Value.int IntKind.i64 (el xs y0)])), (4, .b 1)] 1 41 [7, 15, 11, 9, 17, 13, 8, 16, 12, 6, 10, 14] 41 1 0)
  | 1 => bodySt (bodyK Try.prog ([] : Vars).length GTab.none 3000 (hsA_hd xs v) (hsA_S xs v y0 ) [(0, .b 0)] 1 41 [7, 15, 11, 9, 17, 13, 8, 16, 12, 6, 10, 14] 41 1 0)
  | _ => (hsA_hd xs v).s
noncomputable def hsA_f (xs : List Int) (v : Int) : Nat → Int → Option (Nat × (Int))
  | 0, _ => none
  | fu + 1, y0 => (bif (decide (0 ≤ y0 ∧ y0 ≤ 20000)) then (bif (decide (y0 < (↑xs.length : Int))) then (bif (el xs y0 == v) then some (0, y0) else hsA_f xs v fu (IntKind.i64.wrap (y0 + (1 : Int)))) else some (1, y0)) else none)
theorem hsA_fs (xs : List Int) (v : Int) (fu : Nat) (y0 : Int) : hsA_f xs v (fu + 1) y0 = (bif (decide (0 ≤ y0 ∧ y0 ≤ 20000)) then (bif (decide (y0 < (↑xs.length : Int))) then (bif (el xs y0 == v) then some (0, y0) else hsA_f xs v fu (IntKind.i64.wrap (y0 + (1 : Int)))) else some (1, y0)) else none) := rfl
theorem hsA_f0 (xs : List Int) (v : Int) (y0 : Int) : hsA_f xs v 0 y0 = none := rfl
theorem hsA_loop (xs : List Int) (v : Int) (hx : xs.length ≤ 20000) : ∀ (fu : Nat) (y0 : Int) (kk : Nat) (zz : Int), hsA_f xs v fu y0 = some (kk, zz) → VStep (hsA_hd xs v).s.hs (hsA_S xs v y0 ).hs → RoundsC Try.prog [] 1 41 (hsA_hd xs v).s.hs (hsA_hd xs v).ro (hsA_hd xs v).a (hsA_S xs v y0 ) (hsA_X kk) (hsA_E kk xs v zz ) ∧ ((hsA_E kk xs v zz )).hs.next = 41 := by
  intro fu
  induction fu with
  | zero =>
    intro y0 kk zz hf hSz
    have hf := (hsA_f0 xs v y0 ).symm.trans hf
    simp at hf
  | succ fu ih =>
    intro y0 kk zz hf hSz
    have hf := (hsA_fs xs v fu y0 ).symm.trans hf
    rcases bif_or hf with ⟨hi, hf⟩ | ⟨hi, hf⟩
    case inr => cases hf
    rcases bif_or hf with ⟨hq0, hf⟩ | ⟨hq0, hf⟩
    ·
      have hq1 := hsA_d0 xs v hx  y0 hi hq0 
      rcases bif_or hf with ⟨hq2, hf⟩ | ⟨hq2, hf⟩
      ·
        injection hf with hf; injection hf with e1 e2; subst e1; subst e2; have hb1 := hsA_p0 xs v hx  y0 hi  hq0 hq1 hq2; have hb2 := body_canon hb1; have hb3 := hb2 ⟨hq2, (seg_row (g := (gI)) (k := 1) (fun _ => rfl) (by first | exact of_decide_eq_true hq1 | simpa using of_decide_eq_true hq1) (by first | exact of_decide_eq_true hq0 | simpa using of_decide_eq_true hq0) (by decide) rfl), hq0, hq1, hq0, trivial⟩; obtain ⟨sz1, kz1, kz2, kz3⟩ := hb3; exact ⟨rounds_end mix (T := GTab.none) GOk.none (hsA_n xs v hx  ) (hsA_r xs v hx  ) (hsA_w xs v hx  ) kz1 (fun h => by cases h) hSz kz2 kz3, hsA_q0 xs v hx  y0 hi  hq0 hq1 hq2⟩
      ·
        have hb1 := hsA_p1 xs v hx  y0 hi  hq0 hq1 hq2; have hb2 := body_canon hb1; have hb3 := hb2 ⟨hq2, (seg_row (g := (gI)) (k := 1) (fun _ => rfl) (by first | exact of_decide_eq_true hq1 | simpa using of_decide_eq_true hq1) (by first | exact of_decide_eq_true hq0 | simpa using of_decide_eq_true hq0) (by decide) rfl), hq0, hq1, hq0, trivial⟩; obtain ⟨sz1, kz1, kz2, kz3⟩ := hb3; obtain ⟨gz1, gz2⟩ := ih (IntKind.i64.wrap (y0 + (1 : Int))) kk zz hf (rounds_step mix (T := GTab.none) GOk.none (hsA_n xs v hx  ) (hsA_r xs v hx  ) (hsA_w xs v hx  ) kz1 hSz kz2 kz3); exact ⟨rounds_next mix (T := GTab.none) GOk.none (hsA_n xs v hx  ) (hsA_r xs v hx  ) (hsA_w xs v hx  ) kz1 hSz kz2 kz3 (fun _ => gz1), gz2⟩
    ·
      injection hf with hf; injection hf with e1 e2; subst e1; subst e2; have hb1 := hsA_p2 xs v hx  y0 hi  hq0; have hb2 := body_canon hb1; have hb3 := hb2 ⟨hq0, trivial⟩; obtain ⟨sz1, kz1, kz2, kz3⟩ := hb3; exact ⟨rounds_end mix (T := GTab.none) GOk.none (hsA_n xs v hx  ) (hsA_r xs v hx  ) (hsA_w xs v hx  ) kz1 (fun h => by cases h) hSz kz2 kz3, hsA_q2 xs v hx  y0 hi  hq0⟩
theorem hsA_ok (xs : List Int) (v : Int) (hx : xs.length ≤ 20000) (fu kk : Nat) (zz : Int) (hf : hsA_f xs v fu ((0 : Int)) = some (kk, zz)) : ∀ B : Bd, B.L = [] → LoopOk Try.prog B (hsA_hd xs v).ro (hsA_hd xs v).a (hsA_hd xs v).s (hsA_X kk) (hsA_E kk xs v zz ) := by
  have hSz := begin_step (hsA_n xs v hx  ) (hsA_r xs v hx  ) (hsA_w xs v hx  ) (hsA_e0 xs v hx  ) (hsA_e1 xs v hx  )
  obtain ⟨gz1, gz2⟩ := hsA_loop xs v hx  fu ((0 : Int)) kk zz hf hSz
  exact rounds_ok (hsA_n xs v hx  ) (Nat.le_of_ble_eq_true (by kernel_rfl)) gz2 (rounds_begin (hsA_n xs v hx  ) (hsA_r xs v hx  ) (hsA_w xs v hx  ) (hsA_e0 xs v hx  ) (hsA_e1 xs v hx  ) (fun _ => gz1))

theorem hsE_p0 (xs : List Int) (v : Int) (hsA_z0 : Int)  (hx : xs.length ≤ 20000) (hsA_l : ∀ B : Bd, B.L = [] → LoopOk Try.prog B (hsA_hd xs v).ro (hsA_hd xs v).a (hsA_hd xs v).s (hsA_X 0) (hsA_E 0 xs v hsA_z0 )) : KnownR Try.prog [] 36 [.list (rowA gI xs) xs.length, .val (.int .i64 v)] (.bool (true)) [] :=
  knownR_eq (v := Value.bool true) (bs := []) (open_resD mix (GOk.add GOk.none hsA_l) (T := (GTab.add GTab.none 3 (hsA_hd xs v).ro (hsA_hd xs v).a (hsA_hd xs v).s (hsA_X 0) (hsA_E 0 xs v hsA_z0 ) (by kernel_rfl))) (fuel := 3000) (es := []) (ans := [(0, .loop (hsA_X 0) (hsA_E 0 xs v hsA_z0 )), ]) (log := [LoopRes Try.prog ([] : Vars).length (GTab.add GTab.none 3 (hsA_hd xs v).ro (hsA_hd xs v).a (hsA_hd xs v).s (hsA_X 0) (hsA_E 0 xs v hsA_z0 ) (by kernel_rfl)) (hsA_hd xs v).ro (hsA_hd xs v).a (hsA_hd xs v).s (hsA_X 0) (hsA_E 0 xs v hsA_z0 )]) (by kernel_rfl) ⟨(loop_known2 add_eq), trivial⟩ (by kernel_rfl)) (by first | rfl | simp) (by first | rfl | simp [rowA_nil])
set_option maxHeartbeats 8000000 in
theorem hsE (xs : List Int) (v : Int) (hsA_z0 : Int)  (hx : xs.length ≤ 20000) (hsA_l : ∀ B : Bd, B.L = [] → LoopOk Try.prog B (hsA_hd xs v).ro (hsA_hd xs v).a (hsA_hd xs v).s (hsA_X 0) (hsA_E 0 xs v hsA_z0 )) : KnownR Try.prog [] 36 [.list (rowA gI xs) xs.length, .val (.int .i64 v)] (.bool (true)) [] := by
  exact hsE_p0 xs v hsA_z0 hx hsA_l

theorem hsF_p0 (xs : List Int) (v : Int) (hsA_z0 : Int)  (hx : xs.length ≤ 20000) (hsA_l : ∀ B : Bd, B.L = [] → LoopOk Try.prog B (hsA_hd xs v).ro (hsA_hd xs v).a (hsA_hd xs v).s (hsA_X 1) (hsA_E 1 xs v hsA_z0 )) : KnownR Try.prog [] 36 [.list (rowA gI xs) xs.length, .val (.int .i64 v)] (.bool (false)) [] :=
  knownR_eq (v := Value.bool false) (bs := []) (open_resD mix (GOk.add GOk.none hsA_l) (T := (GTab.add GTab.none 3 (hsA_hd xs v).ro (hsA_hd xs v).a (hsA_hd xs v).s (hsA_X 1) (hsA_E 1 xs v hsA_z0 ) (by kernel_rfl))) (fuel := 3000) (es := []) (ans := [(0, .loop (hsA_X 1) (hsA_E 1 xs v hsA_z0 )), ]) (log := [LoopRes Try.prog ([] : Vars).length (GTab.add GTab.none 3 (hsA_hd xs v).ro (hsA_hd xs v).a (hsA_hd xs v).s (hsA_X 1) (hsA_E 1 xs v hsA_z0 ) (by kernel_rfl)) (hsA_hd xs v).ro (hsA_hd xs v).a (hsA_hd xs v).s (hsA_X 1) (hsA_E 1 xs v hsA_z0 )]) (by kernel_rfl) ⟨(loop_known2 add_eq), trivial⟩ (by kernel_rfl)) (by first | rfl | simp) (by first | rfl | simp [rowA_nil])
set_option maxHeartbeats 8000000 in
theorem hsF (xs : List Int) (v : Int) (hsA_z0 : Int)  (hx : xs.length ≤ 20000) (hsA_l : ∀ B : Bd, B.L = [] → LoopOk Try.prog B (hsA_hd xs v).ro (hsA_hd xs v).a (hsA_hd xs v).s (hsA_X 1) (hsA_E 1 xs v hsA_z0 )) : KnownR Try.prog [] 36 [.list (rowA gI xs) xs.length, .val (.int .i64 v)] (.bool (false)) [] := by
  exact hsF_p0 xs v hsA_z0 hx hsA_l

noncomputable def owI_c0 (xs : List Int) : List Int := (xs)
theorem owI_p0 (xs : List Int) (hl : xs.length ≤ 10010) (hq0 : (decide (xs.length * (8 : Nat) < (1000000000 : Nat))) = true) : KnownR Try.prog [] 11 [.list (rowA gI xs) xs.length] (.complex .f64 0 ((xs)).length) [(rowA gI ((xs)), 3)] :=
  knownR_eq (v := Value.complex FloatKind.f64 (nat_lit 0) xs.length) (bs := [(rowA gI xs, nat_lit 3)]) (open_resD mix GOk.none (T := GTab.none) (fuel := 3000) (es := [3]) (ans := [(0, .vals (List.flatMap (gI) (xs))), (1, .b 1), (2, .arr (rowA (gI) (xs)))]) (log := [(List.flatMap (gI) (xs)).toArray = rowA (gI) (xs), (decide (xs.length * (8 : Nat) < (1000000000 : Nat))) = true, segC (rowA (gI) (xs)) 0 ((xs.length) * 1) = some (List.flatMap (gI) (xs))]) (by kernel_rfl) ⟨(row_new (g := (gI)) rfl), hq0, (seg_all2 (g := (gI)) (k := 1) (fun _ => rfl) (by first | rfl | simp)), trivial⟩ (by kernel_rfl)) (by first | rfl | simp) (by first | rfl | simp [rowA_nil])
set_option maxHeartbeats 8000000 in
theorem owI (xs : List Int) (hl : xs.length ≤ 10010) : KnownR Try.prog [] 11 [.list (rowA gI xs) xs.length] (.complex .f64 0 ((owI_c0 xs)).length) [(rowA gI ((owI_c0 xs)), 3)] := by
  have hq0 : (decide (xs.length * (8 : Nat) < (1000000000 : Nat))) = true := by
    rcases Bool.eq_false_or_eq_true (decide (xs.length * (8 : Nat) < (1000000000 : Nat))) with h | h
    · exact h
    · exfalso; (first | (simp_all only [Bool.and_eq_true, Bool.not_eq_true', Bool.false_eq_true, Bool.true_eq_false, reduceCtorEq]; done) | (simp_all; done) | (simp only [sx, sy, eq_self, ne_eq, IntKind.wrap_i64, wrapU64, Int.reduceLT] at * <;> first | contradiction | omega))
  have e0 : owI_c0 xs = (xs) := rfl; rw [e0]; exact owI_p0 xs hl hq0

end Go.Proofs.Ythjdoeeefighkaa
