/- Layer 1: the laws' own functions; FixKnown. -/
import Derived.Test.YteohnhjhdlcpiaaFI
namespace Go.Proofs.Yteohnhjhdlcpiaa
open Go.RowKit
set_option linter.unusedVariables false

theorem all_any (w : World) : Calls Try.prog 31 #[] w fun e w' => e = .returned (.agg #[.int .i64 (-9223372036854775808), .int .i64 9223372036854775807]) ∧ Below w.heap.size w w' := by
  have y0 := ((((show Below ((w.alloc (.cells #[.int .i64 0, .int .i64 0] 23))).heap.size ((w.alloc (.cells #[.int .i64 0, .int .i64 0] 23))) (w.alloc (.cells #[.int .i64 0, .int .i64 0] 23)) from (by repeat (first | exact Below.refl _ _ | apply keep_alloc | apply keep_drew | apply keep_drewN | refine keep_step (by assumption) ?_ (by rfl) | refine keep_set ?_ _ _ (by first | exact Nat.le_refl _ | (show _ ≤ _; simp; done) | (show _ ≤ _; simp; omega))))).cell (p := ⟨w.heap.size, 0, none⟩) (by simp <;> omega)).trans (by simp [go_sem])) : ((w.alloc (.cells #[.int .i64 0, .int .i64 0] 23))).cell? ⟨w.heap.size, 0, none⟩ = some (.int .i64 0))
  have y1 := ((((show Below ((w.alloc (.cells #[.int .i64 0, .int .i64 0] 23))).heap.size ((w.alloc (.cells #[.int .i64 0, .int .i64 0] 23))) (w.alloc (.cells #[.int .i64 0, .int .i64 0] 23)) from (by repeat (first | exact Below.refl _ _ | apply keep_alloc | apply keep_drew | apply keep_drewN | refine keep_step (by assumption) ?_ (by rfl) | refine keep_set ?_ _ _ (by first | exact Nat.le_refl _ | (show _ ≤ _; simp; done) | (show _ ≤ _; simp; omega))))).cell (p := ⟨w.heap.size, 1, none⟩) (by simp <;> omega)).trans (by simp [go_sem])) : ((w.alloc (.cells #[.int .i64 0, .int .i64 0] 23))).cell? ⟨w.heap.size, 1, none⟩ = some (.int .i64 0))
  go_enter Try.func31, Try.ntmps31
  go_wp2
  refine bodyPost_ret (v := .agg #[.int .i64 (-9223372036854775808), .int .i64 9223372036854775807]) (by simp [results, Try.results31, go_sem, set2 y0 y1]) rfl ?_
  exact ⟨rfl, (by repeat (first | exact Below.refl _ _ | apply keep_alloc | apply keep_drew | apply keep_drewN | refine keep_step (by assumption) ?_ (by rfl) | refine keep_set ?_ _ _ (by first | exact Nat.le_refl _ | (show _ ≤ _; simp; done) | (show _ ≤ _; simp; omega))))⟩
theorem ten_any (w : World) : Calls Try.prog 35 #[] w fun e w' => e = .returned (.agg #[.int .i64 (-10), .int .i64 10]) ∧ Below w.heap.size w w' := by
  have y0 := ((((show Below ((w.alloc (.cells #[.int .i64 0, .int .i64 0] 23))).heap.size ((w.alloc (.cells #[.int .i64 0, .int .i64 0] 23))) (w.alloc (.cells #[.int .i64 0, .int .i64 0] 23)) from (by repeat (first | exact Below.refl _ _ | apply keep_alloc | apply keep_drew | apply keep_drewN | refine keep_step (by assumption) ?_ (by rfl) | refine keep_set ?_ _ _ (by first | exact Nat.le_refl _ | (show _ ≤ _; simp; done) | (show _ ≤ _; simp; omega))))).cell (p := ⟨w.heap.size, 0, none⟩) (by simp <;> omega)).trans (by simp [go_sem])) : ((w.alloc (.cells #[.int .i64 0, .int .i64 0] 23))).cell? ⟨w.heap.size, 0, none⟩ = some (.int .i64 0))
  have y1 := ((((show Below ((w.alloc (.cells #[.int .i64 0, .int .i64 0] 23))).heap.size ((w.alloc (.cells #[.int .i64 0, .int .i64 0] 23))) (w.alloc (.cells #[.int .i64 0, .int .i64 0] 23)) from (by repeat (first | exact Below.refl _ _ | apply keep_alloc | apply keep_drew | apply keep_drewN | refine keep_step (by assumption) ?_ (by rfl) | refine keep_set ?_ _ _ (by first | exact Nat.le_refl _ | (show _ ≤ _; simp; done) | (show _ ≤ _; simp; omega))))).cell (p := ⟨w.heap.size, 1, none⟩) (by simp <;> omega)).trans (by simp [go_sem])) : ((w.alloc (.cells #[.int .i64 0, .int .i64 0] 23))).cell? ⟨w.heap.size, 1, none⟩ = some (.int .i64 0))
  go_enter Try.func35, Try.ntmps35
  go_wp2
  refine bodyPost_ret (v := .agg #[.int .i64 (-10), .int .i64 10]) (by simp [results, Try.results35, go_sem, set2 y0 y1]) rfl ?_
  exact ⟨rfl, (by repeat (first | exact Below.refl _ _ | apply keep_alloc | apply keep_drew | apply keep_drewN | refine keep_step (by assumption) ?_ (by rfl) | refine keep_set ?_ _ _ (by first | exact Nat.le_refl _ | (show _ ≤ _; simp; done) | (show _ ≤ _; simp; omega))))⟩
theorem gives_true (n : Int) (w : World) : Calls Try.prog 33 #[.int .i64 n, .int .i64 0, .int .i64 n] w fun e w' => e = .returned (.bool true) ∧ Below w.heap.size w w' := by
  go_enter Try.func33, Try.ntmps33
  go_wp2
  go_ret
  exact ⟨by simp, (by repeat (first | exact Below.refl _ _ | apply keep_alloc | apply keep_drew | apply keep_drewN | refine keep_step (by assumption) ?_ (by rfl) | refine keep_set ?_ _ _ (by first | exact Nat.le_refl _ | (show _ ≤ _; simp; done) | (show _ ≤ _; simp; omega))))⟩
theorem over_true (w : World) : Calls Try.prog 32 #[.int .i64 0, .int .i64 14] w fun e w' => e = .returned (.bool true) ∧ Below w.heap.size w w' := by
  go_enter Try.func32, Try.ntmps32
  go_wp2
  go_ret
  exact ⟨rfl, (by repeat (first | exact Below.refl _ _ | apply keep_alloc | apply keep_drew | apply keep_drewN | refine keep_step (by assumption) ?_ (by rfl) | refine keep_set ?_ _ _ (by first | exact Nat.le_refl _ | (show _ ≤ _; simp; done) | (show _ ≤ _; simp; omega))))⟩
theorem div_true (a c how want : Int) (w : World) (ha : In64 a) (hc : In64 c) (hhow : how = 1 ∨ how = 2 ∨ how = 3) (hc0 : c ≠ 0) (h1 : okV (-10) 10 (scl a c how) = want) (h2 : okE (-10) 10 (scl a c how) = 0) :
    Calls Try.prog 34 #[.int .i64 a, .int .i64 c, .int .i64 how, .int .i64 want] w fun e w' => e = .returned (.bool true) ∧ Below w.heap.size w w' := by
  have H := fun W => pDiv (-10) 10 a c how W (by unfold In64; omega) (by unfold In64; omega) ha hc (by omega) hhow hc0
  rw [h1, h2] at H
  have HH := Lib.hid H
  clear H h1 h2 hhow hc0
  go_enter Try.func34, Try.ntmps34
  go_wp2_with fail
  refine (ten_any _).mono ?_
  rintro _ w1 ⟨rfl, hb1⟩
  go_wp2_with fail
  refine (HH.out _).mono ?_
  rintro _ w2 ⟨rfl, hb2⟩
  go_wp2_with fail
  refine (gives_true want _).mono ?_
  rintro _ w3 ⟨rfl, hb3⟩
  go_wp2
  go_ret
  exact ⟨rfl, (by repeat (first | exact Below.refl _ _ | apply keep_alloc | apply keep_drew | apply keep_drewN | refine keep_step (by assumption) ?_ (by rfl) | refine keep_set ?_ _ _ (by first | exact Nat.le_refl _ | (show _ ≤ _; simp; done) | (show _ ≤ _; simp; omega))))⟩
theorem scale_true (lo hi a b c how want : Int) (w : World) (hlo : In64 lo) (hhi : In64 hi) (ha : In64 a) (hb : In64 b) (hc : In64 c) (hlh : lo ≤ hi) (hhow : how = 1 ∨ how = 2 ∨ how = 3) (hc0 : c ≠ 0) (hS : SplitOK (mag (a * b)) (mag c)) (h1 : okV lo hi (scl (a * b) c how) = want) (h2 : okE lo hi (scl (a * b) c how) = 0) :
    Calls Try.prog 36 #[.agg #[.int .i64 lo, .int .i64 hi], .int .i64 a, .int .i64 b, .int .i64 c, .int .i64 how, .int .i64 want] w fun e w' => e = .returned (.bool true) ∧ Below w.heap.size w w' := by
  have H := fun W => pScale lo hi a b c how W hlo hhi ha hb hc hlh hhow hc0 hS
  rw [h1, h2] at H
  have HH := Lib.hid H
  clear H h1 h2 hhow hc0 hS
  go_enter Try.func36, Try.ntmps36
  go_wp2_with fail
  refine (HH.out _).mono ?_
  rintro _ w2 ⟨rfl, hb2⟩
  go_wp2_with fail
  refine (gives_true want _).mono ?_
  rintro _ w3 ⟨rfl, hb3⟩
  go_wp2
  go_ret
  exact ⟨rfl, (by repeat (first | exact Below.refl _ _ | apply keep_alloc | apply keep_drew | apply keep_drewN | refine keep_step (by assumption) ?_ (by rfl) | refine keep_set ?_ _ _ (by first | exact Nat.le_refl _ | (show _ ≤ _; simp; done) | (show _ ≤ _; simp; omega))))⟩
theorem split_true (n p : Nat) (B : Option Addr) (k cap : Nat) (w : World) (hn : n ≤ 9223372036854775807) (hp : 1 ≤ p) (hp2 : p ≤ 1000) (hk : k = p) (hB : Ints w B (spl n p p)) :
    Calls Try.prog 37 #[.int .i64 n, .int .i64 p, .slice B k cap] w fun e w' => e = .returned (.bool true) ∧ Below w.heap.size w w' := by
  subst hk
  go_enter Try.func37, Try.ntmps37
  go_wp2_with fail
  refine (pSplit n k _ hn hp hp2).mono ?_
  rintro _ w1 ⟨A, rfl, hi1, hb1⟩
  go_wp2_with fail
  refine (sameInts_same A B (spl n k k) k _ _ _ (spl_len _ _ _) (by unfold maxLen; omega) hi1 (hB.step (by repeat (first | exact Below.refl _ _ | apply keep_alloc | apply keep_drew | apply keep_drewN | refine keep_step (by assumption) ?_ (by rfl) | refine keep_set ?_ _ _ (by first | exact Nat.le_refl _ | (show _ ≤ _; simp; done) | (show _ ≤ _; simp; omega)))))).mono ?_
  rintro _ w2 ⟨rfl, hb2⟩
  go_wp2
  go_ret
  exact ⟨rfl, (by repeat (first | exact Below.refl _ _ | apply keep_alloc | apply keep_drew | apply keep_drewN | refine keep_step (by assumption) ?_ (by rfl) | refine keep_set ?_ _ _ (by first | exact Nat.le_refl _ | (show _ ≤ _; simp; done) | (show _ ≤ _; simp; omega))))⟩
theorem split_big' : SplitOK (mag (9223372036854775807 * 9223372036854775807)) (mag 9223372036854775807) := by
  rw [show mag (9223372036854775807 * 9223372036854775807) = 85070591730234615847396907784232501249 by decide, show mag 9223372036854775807 = 9223372036854775807 by decide]
  exact split_big
theorem in_four : ∀ x ∈ ([5, 5, 5, -9] : List Int), In64 x := by intro x hx; simp at hx; unfold In64; omega
theorem in_three : ∀ x ∈ ([9223372036854775807, 1, -9223372036854775807] : List Int), In64 x := by intro x hx; simp at hx; unfold In64; omega

set_option maxRecDepth 20000 in
set_option maxHeartbeats 8000000 in
theorem awake_true (w : World) : Calls Try.prog 20 #[] w fun e w' => e = .returned (.bool true) ∧ Below w.heap.size w w' := by
  go_enter Try.func20, Try.ntmps20
  go_wp2_with fail
  refine (ten_any _).mono ?_
  rintro _ w1 ⟨rfl, hb1⟩
  go_wp2_with fail
  refine (pAdd (-10) 10 7 3 _ (by unfold In64; omega) (by unfold In64; omega) (by unfold In64; omega) (by unfold In64; omega)).mono ?_
  rintro _ w2 ⟨rfl, hb2⟩
  rw [show bnV (-10) 10 (7 + 3) = 10 by decide, show bnE (-10) 10 (7 + 3) = 0 by decide]
  go_wp2_with fail
  refine (ten_any _).mono ?_
  rintro _ w3 ⟨rfl, hb3⟩
  go_wp2_with fail
  refine (pAdd (-10) 10 7 4 _ (by unfold In64; omega) (by unfold In64; omega) (by unfold In64; omega) (by unfold In64; omega)).mono ?_
  rintro _ w4 ⟨rfl, hb4⟩
  rw [show bnV (-10) 10 (7 + 4) = 0 by decide, show bnE (-10) 10 (7 + 4) = 14 by decide]
  go_wp2_with fail
  refine (ten_any _).mono ?_
  rintro _ w5 ⟨rfl, hb5⟩
  go_wp2_with fail
  refine (pMul (-10) 10 (-3) 3 _ (by unfold In64; omega) (by unfold In64; omega) (by unfold In64; omega) (by unfold In64; omega)).mono ?_
  rintro _ w6 ⟨rfl, hb6⟩
  rw [show bnV (-10) 10 (-3 * 3) = -9 by decide, show bnE (-10) 10 (-3 * 3) = 0 by decide]
  go_wp2_with fail
  refine (ten_any _).mono ?_
  rintro _ w7 ⟨rfl, hb7⟩
  go_wp2_with fail
  refine (pSum (-10) 10 [5, 5, 5, -9] _ 4 4 _ (by unfold In64; omega) (by unfold In64; omega) rfl (by decide) in_four (ints_new _ (by simp) (by rfl))).mono ?_
  rintro _ w8 ⟨rfl, hb8⟩
  rw [show smV (-10) 10 [5, 5, 5, -9] = 6 by decide, show smE (-10) 10 [5, 5, 5, -9] = 0 by decide]
  go_wp2_with fail
  refine (gives_true 10 _).mono ?_
  rintro _ w9 ⟨rfl, hb9⟩
  go_wp2_with fail
  refine (over_true _).mono ?_
  rintro _ w10 ⟨rfl, hb10⟩
  go_wp2_with fail
  refine (gives_true (-9) _).mono ?_
  rintro _ w11 ⟨rfl, hb11⟩
  go_wp2_with fail
  refine (gives_true 6 _).mono ?_
  rintro _ w12 ⟨rfl, hb12⟩
  go_wp2_with fail
  refine (div_true 7 2 1 3 _ (by unfold In64; omega) (by unfold In64; omega) (by omega) (by omega) (by decide) (by decide)).mono ?_
  rintro _ w13 ⟨rfl, hb13⟩
  go_wp2_with fail
  refine (div_true (-7) 2 3 (-4) _ (by unfold In64; omega) (by unfold In64; omega) (by omega) (by omega) (by decide) (by decide)).mono ?_
  rintro _ w14 ⟨rfl, hb14⟩
  go_wp2_with fail
  refine (ten_any _).mono ?_
  rintro _ w15 ⟨rfl, hb15⟩
  go_wp2_with fail
  refine (scale_true (-10) 10 10 10 30 2 4 _ (by unfold In64; omega) (by unfold In64; omega) (by unfold In64; omega) (by unfold In64; omega) (by unfold In64; omega) (by omega) (by omega) (by omega) (split_small (by decide) (by decide) (by decide) (by decide)) (by decide) (by decide)).mono ?_
  rintro _ w16 ⟨rfl, hb16⟩
  go_wp2
  go_ret
  exact ⟨rfl, (by repeat (first | exact Below.refl _ _ | apply keep_alloc | apply keep_drew | apply keep_drewN | refine keep_step (by assumption) ?_ (by rfl) | refine keep_set ?_ _ _ (by first | exact Nat.le_refl _ | (show _ ≤ _; simp; done) | (show _ ≤ _; simp; omega))))⟩

set_option maxRecDepth 20000 in
set_option maxHeartbeats 16000000 in
theorem fixKnown_true (w : World) : Calls Try.prog 6 #[] w fun e w' => e = .returned (.bool true) ∧ Below w.heap.size w w' := by
  go_enter Try.func6, Try.ntmps6
  go_wp2_with fail
  refine (all_any _).mono ?_
  rintro _ w1 ⟨rfl, hb1⟩
  go_wp2_with fail
  refine (pAdd (-9223372036854775808) 9223372036854775807 9223372036854775807 1 _ (by unfold In64; omega) (by unfold In64; omega) (by unfold In64; omega) (by unfold In64; omega)).mono ?_
  rintro _ w2 ⟨rfl, hb2⟩
  rw [show bnV (-9223372036854775808) 9223372036854775807 (9223372036854775807 + 1) = 0 by decide, show bnE (-9223372036854775808) 9223372036854775807 (9223372036854775807 + 1) = 14 by decide]
  go_wp2_with fail
  refine (all_any _).mono ?_
  rintro _ w3 ⟨rfl, hb3⟩
  go_wp2_with fail
  refine (pSub (-9223372036854775808) 9223372036854775807 0 (-9223372036854775808) _ (by unfold In64; omega) (by unfold In64; omega) (by unfold In64; omega) (by unfold In64; omega)).mono ?_
  rintro _ w4 ⟨rfl, hb4⟩
  rw [show bnV (-9223372036854775808) 9223372036854775807 (0 - (-9223372036854775808)) = 0 by decide, show bnE (-9223372036854775808) 9223372036854775807 (0 - (-9223372036854775808)) = 14 by decide]
  go_wp2_with fail
  refine (all_any _).mono ?_
  rintro _ w5 ⟨rfl, hb5⟩
  go_wp2_with fail
  refine (pSub (-9223372036854775808) 9223372036854775807 (-1) (-9223372036854775808) _ (by unfold In64; omega) (by unfold In64; omega) (by unfold In64; omega) (by unfold In64; omega)).mono ?_
  rintro _ w6 ⟨rfl, hb6⟩
  rw [show bnV (-9223372036854775808) 9223372036854775807 (-1 - (-9223372036854775808)) = 9223372036854775807 by decide, show bnE (-9223372036854775808) 9223372036854775807 (-1 - (-9223372036854775808)) = 0 by decide]
  go_wp2_with fail
  refine (all_any _).mono ?_
  rintro _ w7 ⟨rfl, hb7⟩
  go_wp2_with fail
  refine (pMul (-9223372036854775808) 9223372036854775807 9223372036854775807 (-1) _ (by unfold In64; omega) (by unfold In64; omega) (by unfold In64; omega) (by unfold In64; omega)).mono ?_
  rintro _ w8 ⟨rfl, hb8⟩
  rw [show bnV (-9223372036854775808) 9223372036854775807 (9223372036854775807 * (-1)) = -9223372036854775807 by decide, show bnE (-9223372036854775808) 9223372036854775807 (9223372036854775807 * (-1)) = 0 by decide]
  go_wp2_with fail
  refine (all_any _).mono ?_
  rintro _ w9 ⟨rfl, hb9⟩
  go_wp2_with fail
  refine (pMul (-9223372036854775808) 9223372036854775807 (-9223372036854775808) (-1) _ (by unfold In64; omega) (by unfold In64; omega) (by unfold In64; omega) (by unfold In64; omega)).mono ?_
  rintro _ w10 ⟨rfl, hb10⟩
  rw [show bnV (-9223372036854775808) 9223372036854775807 ((-9223372036854775808) * (-1)) = 0 by decide, show bnE (-9223372036854775808) 9223372036854775807 ((-9223372036854775808) * (-1)) = 14 by decide]
  go_wp2_with fail
  refine (all_any _).mono ?_
  rintro _ w11 ⟨rfl, hb11⟩
  go_wp2_with fail
  refine (pMul (-9223372036854775808) 9223372036854775807 4294967296 4294967296 _ (by unfold In64; omega) (by unfold In64; omega) (by unfold In64; omega) (by unfold In64; omega)).mono ?_
  rintro _ w12 ⟨rfl, hb12⟩
  rw [show bnV (-9223372036854775808) 9223372036854775807 (4294967296 * 4294967296) = 0 by decide, show bnE (-9223372036854775808) 9223372036854775807 (4294967296 * 4294967296) = 14 by decide]
  go_wp2_with fail
  refine (over_true _).mono ?_
  rintro _ w13 ⟨rfl, hb13⟩
  go_wp2_with fail
  refine (over_true _).mono ?_
  rintro _ w14 ⟨rfl, hb14⟩
  go_wp2_with fail
  refine (gives_true 9223372036854775807 _).mono ?_
  rintro _ w15 ⟨rfl, hb15⟩
  go_wp2_with fail
  refine (gives_true (-9223372036854775807) _).mono ?_
  rintro _ w16 ⟨rfl, hb16⟩
  go_wp2_with fail
  refine (over_true _).mono ?_
  rintro _ w17 ⟨rfl, hb17⟩
  go_wp2_with fail
  refine (over_true _).mono ?_
  rintro _ w18 ⟨rfl, hb18⟩
  go_wp2_with fail
  refine (div_true 7 2 2 4 _ (by unfold In64; omega) (by unfold In64; omega) (by omega) (by omega) (by decide) (by decide)).mono ?_
  rintro _ w19 ⟨rfl, hb19⟩
  go_wp2_with fail
  refine (div_true 7 2 3 4 _ (by unfold In64; omega) (by unfold In64; omega) (by omega) (by omega) (by decide) (by decide)).mono ?_
  rintro _ w20 ⟨rfl, hb20⟩
  go_wp2_with fail
  refine (div_true (-7) 2 1 (-4) _ (by unfold In64; omega) (by unfold In64; omega) (by omega) (by omega) (by decide) (by decide)).mono ?_
  rintro _ w21 ⟨rfl, hb21⟩
  go_wp2_with fail
  refine (div_true (-7) 2 2 (-3) _ (by unfold In64; omega) (by unfold In64; omega) (by omega) (by omega) (by decide) (by decide)).mono ?_
  rintro _ w22 ⟨rfl, hb22⟩
  go_wp2_with fail
  refine (div_true 5 2 3 2 _ (by unfold In64; omega) (by unfold In64; omega) (by omega) (by omega) (by decide) (by decide)).mono ?_
  rintro _ w23 ⟨rfl, hb23⟩
  go_wp2_with fail
  refine (div_true 7 (-2) 1 (-4) _ (by unfold In64; omega) (by unfold In64; omega) (by omega) (by omega) (by decide) (by decide)).mono ?_
  rintro _ w24 ⟨rfl, hb24⟩
  go_wp2_with fail
  refine (ten_any _).mono ?_
  rintro _ w25 ⟨rfl, hb25⟩
  go_wp2_with fail
  refine (pDivZ (-10) 10 7 1 _ (by omega) (by omega) (by omega)).mono ?_
  rintro _ w26 ⟨rfl, hb26⟩
  go_wp2_with fail
  refine (ten_any _).mono ?_
  rintro _ w27 ⟨rfl, hb27⟩
  go_wp2_with fail
  refine (pDivK (-10) 10 7 2 4 _ (by omega) (by omega)).mono ?_
  rintro _ w28 ⟨rfl, hb28⟩
  go_wp2_with fail
  refine (ten_any _).mono ?_
  rintro _ w29 ⟨rfl, hb29⟩
  go_wp2_with fail
  refine (pDiv (-10) 10 99 9 1 _ (by unfold In64; omega) (by unfold In64; omega) (by unfold In64; omega) (by unfold In64; omega) (by omega) (by omega) (by omega)).mono ?_
  rintro _ w30 ⟨rfl, hb30⟩
  rw [show okV (-10) 10 (scl 99 9 1) = 0 by decide, show okE (-10) 10 (scl 99 9 1) = 14 by decide]
  go_wp2_with fail
  refine (all_any _).mono ?_
  rintro _ w31 ⟨rfl, hb31⟩
  go_wp2_with fail
  refine (pDiv (-9223372036854775808) 9223372036854775807 (-9223372036854775808) (-1) 1 _ (by unfold In64; omega) (by unfold In64; omega) (by unfold In64; omega) (by unfold In64; omega) (by omega) (by omega) (by omega)).mono ?_
  rintro _ w32 ⟨rfl, hb32⟩
  rw [show okV (-9223372036854775808) 9223372036854775807 (scl (-9223372036854775808) (-1) 1) = 0 by decide, show okE (-9223372036854775808) 9223372036854775807 (scl (-9223372036854775808) (-1) 1) = 14 by decide]
  go_wp2_with fail
  refine (over_true _).mono ?_
  rintro _ w33 ⟨rfl, hb33⟩
  go_wp2_with fail
  refine (over_true _).mono ?_
  rintro _ w34 ⟨rfl, hb34⟩
  go_wp2_with fail
  refine (all_any _).mono ?_
  rintro _ w35 ⟨rfl, hb35⟩
  go_wp2_with fail
  refine (scale_true (-9223372036854775808) 9223372036854775807 9223372036854775807 9223372036854775807 9223372036854775807 1 9223372036854775807 _ (by unfold In64; omega) (by unfold In64; omega) (by unfold In64; omega) (by unfold In64; omega) (by unfold In64; omega) (by omega) (by omega) (by omega) split_big' (by decide) (by decide)).mono ?_
  rintro _ w36 ⟨rfl, hb36⟩
  go_wp2_with fail
  refine (all_any _).mono ?_
  rintro _ w37 ⟨rfl, hb37⟩
  go_wp2_with fail
  refine (scale_true (-9223372036854775808) 9223372036854775807 9223372036854775807 2 3 3 6148914691236517205 _ (by unfold In64; omega) (by unfold In64; omega) (by unfold In64; omega) (by unfold In64; omega) (by unfold In64; omega) (by omega) (by omega) (by omega) (split_small (by decide) (by decide) (by decide) (by decide)) (by decide) (by decide)).mono ?_
  rintro _ w38 ⟨rfl, hb38⟩
  go_wp2_with fail
  refine (all_any _).mono ?_
  rintro _ w39 ⟨rfl, hb39⟩
  go_wp2_with fail
  refine (pSum (-9223372036854775808) 9223372036854775807 [9223372036854775807, 1, -9223372036854775807] _ 3 3 _ (by unfold In64; omega) (by unfold In64; omega) rfl (by decide) in_three (ints_new _ (by simp) (by rfl))).mono ?_
  rintro _ w40 ⟨rfl, hb40⟩
  rw [show smV (-9223372036854775808) 9223372036854775807 [9223372036854775807, 1, -9223372036854775807] = 1 by decide, show smE (-9223372036854775808) 9223372036854775807 [9223372036854775807, 1, -9223372036854775807] = 0 by decide]
  go_wp2_with fail
  refine (pSum 1 2 [] none 0 0 _ (by unfold In64; omega) (by unfold In64; omega) rfl (by decide) (by intro x hx; simp at hx) (.inl rfl)).mono ?_
  rintro _ w41 ⟨rfl, hb41⟩
  rw [show smV 1 2 [] = 0 by decide, show smE 1 2 [] = 14 by decide]
  go_wp2_with fail
  refine (ten_any _).mono ?_
  rintro _ w42 ⟨rfl, hb42⟩
  go_wp2_with fail
  refine (pClamp (-10) 10 99 _).mono ?_
  rintro _ w43 ⟨rfl, hb43⟩
  rw [show clV (-10) 10 99 = 10 by decide, show chkW (-10) 10 = 0 by decide]
  go_wp2_with fail
  refine (ten_any _).mono ?_
  rintro _ w44 ⟨rfl, hb44⟩
  go_wp2_with fail
  refine (pClamp (-10) 10 (-99) _).mono ?_
  rintro _ w45 ⟨rfl, hb45⟩
  rw [show clV (-10) 10 (-99) = -10 by decide, show chkW (-10) 10 = 0 by decide]
  go_wp2_with fail
  refine (pSplitE (-1) 2 _ (.inl (by omega))).mono ?_
  rintro _ w46 ⟨rfl, hb46⟩
  go_wp2_with fail
  refine (pSplitE 1 0 _ (.inr ⟨by omega, by omega⟩)).mono ?_
  rintro _ w47 ⟨rfl, hb47⟩
  go_wp2_with fail
  refine (gives_true 1 _).mono ?_
  rintro _ w48 ⟨rfl, hb48⟩
  go_wp2_with fail
  refine (over_true _).mono ?_
  rintro _ w49 ⟨rfl, hb49⟩
  go_wp2_with fail
  refine (gives_true 10 _).mono ?_
  rintro _ w50 ⟨rfl, hb50⟩
  go_wp2_with fail
  refine (gives_true (-10) _).mono ?_
  rintro _ w51 ⟨rfl, hb51⟩
  go_wp2_with fail
  refine (split_true 7 3 _ 3 _ _ (by decide) (by decide) (by decide) rfl ((show spl 7 3 3 = [3, 2, 2] by decide) ▸ ints_new _ (by simp) (by rfl))).mono ?_
  rintro _ w52 ⟨rfl, hb52⟩
  go_wp2_with fail
  refine (split_true 2 3 _ 3 _ _ (by decide) (by decide) (by decide) rfl ((show spl 2 3 3 = [1, 1, 0] by decide) ▸ ints_new _ (by simp) (by rfl))).mono ?_
  rintro _ w53 ⟨rfl, hb53⟩
  go_wp2_with fail
  refine (split_true 0 2 _ 2 _ _ (by decide) (by decide) (by decide) rfl ((show spl 0 2 2 = [0, 0] by decide) ▸ ints_new _ (by simp) (by rfl))).mono ?_
  rintro _ w54 ⟨rfl, hb54⟩
  go_wp2_with fail
  refine (awake_true _).mono ?_
  rintro _ w55 ⟨rfl, hb55⟩
  go_wp2_with fail
  refine (pfixCheck 3 2 _).mono ?_
  rintro _ w56 ⟨rfl, hb56⟩
  rw [show chkW 3 2 = 2 by decide]
  go_wp2
  go_ret
  exact ⟨rfl, (by repeat (first | exact Below.refl _ _ | apply keep_alloc | apply keep_drew | apply keep_drewN | refine keep_step (by assumption) ?_ (by rfl) | refine keep_set ?_ _ _ (by first | exact Nat.le_refl _ | (show _ ≤ _; simp; done) | (show _ ≤ _; simp; omega))))⟩
end Go.Proofs.Yteohnhjhdlcpiaa
