/- Layer 10: BrakeKnown. -/
import Derived.Test.YtmlalncohkingaaBN
namespace Go.Proofs.Ytmlalncohkingaa
open Go.RowKit
set_option linter.unusedVariables false

theorem kCheck1 (w : World) : Calls Try.prog 22 #[(.agg #[.int .i64 1, .int .i64 3]), .int .i64 2] w fun x w' => x = .returned (.int .i64 2) ∧ Below w.heap.size w w' := pchk 1 3 2 w
theorem kCheck2 (w : World) : Calls Try.prog 22 #[(.agg #[.int .i64 2, .int .i64 1]), .int .i64 2] w fun x w' => x = .returned (.int .i64 2) ∧ Below w.heap.size w w' := pchk 2 1 2 w
theorem kCheck3 (w : World) : Calls Try.prog 22 #[(.agg #[.int .i64 0, .int .i64 0]), .int .i64 6] w fun x w' => x = .returned (.int .i64 2) ∧ Below w.heap.size w w' := pchk 0 0 6 w

set_option maxRecDepth 20000 in
set_option maxHeartbeats 16000000 in
theorem brakeKnown_true (w : World) : Calls Try.prog 3 #[] w fun e w' => e = .returned (.bool true) ∧ Below w.heap.size w w' := by
  have r1 : Hid (stOut 0 2 = [2, 2]) := Lib.hid (by decide)
  have r2 : Hid (stE 0 2 = 0) := Lib.hid (by decide)
  go_enter Try.func3, Try.ntmps3
  go_wp2_with fail
  refine (at_any 1 1 _).mono ?_
  rintro _ w1 ⟨rfl, hbw1⟩
  skip
  try (replace kA := kA.below hbw1 kA.lt)
  try (replace kB := kB.below hbw1 kB.lt)
  try (replace kC := kC.below hbw1 kC.lt)
  try (replace kD := kD.below hbw1 kD.lt)
  try clear x0 x1 x2 x3
  try clear y0 y1 y2 y3
  try clear z0 z1 z2 z3
  try clear v0 v1 v2 v3
  try (obtain ⟨⟨x0, x1⟩, x2, x3⟩ := id kA)
  try (obtain ⟨⟨y0, y1⟩, y2, y3⟩ := id kB)
  try (obtain ⟨⟨z0, z1⟩, z2, z3⟩ := id kC)
  try (obtain ⟨⟨v0, v1⟩, v2, v3⟩ := id kD)
  try (have lta := kA.lt)
  try (have ltb := kB.lt)
  try (have ltc := kC.lt)
  try (have ltd := kD.lt)
  go_wp2_with fail
  refine (pStep 1 1 2 _).mono ?_
  rintro _ w2 ⟨rfl, hb2⟩
  rw [show runS 1 1 2 1 = 2 by decide, show runL 1 1 2 1 = 0 by decide, show runE 1 1 2 1 = 0 by decide]
  go_wp2_with fail
  obtain ⟨w3, hk⟩ : ∃ w3, w3 = (w2).alloc (.cells #[.int .i64 (2), .int .i64 (0)] 23) := ⟨_, rfl⟩
  obtain ⟨ga, hgg⟩ : ∃ ga, ga = (w2).heap.size := ⟨_, rfl⟩
  obtain ⟨kA, hbw3⟩ := new_brk hk
  rw [← hk, ← hgg]
  rw [← hgg] at kA
  have hgaw : w.heap.size ≤ ga := by
    have := (show Below w.heap.size w (w2) from (by repeat (first | exact Below.refl _ _ | apply keep_alloc | apply keep_drew | apply keep_drewN | refine keep_step (by assumption) ?_ (by rfl) | refine keep_set ?_ _ _ (by first | exact Nat.le_refl _ | (show _ ≤ _; simp; done) | (show _ ≤ _; simp; omega))))).size
    omega
  try (have naga : ga < ga := by have := kA.lt; omega)
  try (have nbga : gb < ga := by have := kB.lt; omega)
  try (have ncga : gc < ga := by have := kC.lt; omega)
  clear hk hgg
  try (replace kA := kA.below hbw3 kA.lt)
  try (replace kB := kB.below hbw3 kB.lt)
  try (replace kC := kC.below hbw3 kC.lt)
  try (replace kD := kD.below hbw3 kD.lt)
  try clear x0 x1 x2 x3
  try clear y0 y1 y2 y3
  try clear z0 z1 z2 z3
  try clear v0 v1 v2 v3
  try (obtain ⟨⟨x0, x1⟩, x2, x3⟩ := id kA)
  try (obtain ⟨⟨y0, y1⟩, y2, y3⟩ := id kB)
  try (obtain ⟨⟨z0, z1⟩, z2, z3⟩ := id kC)
  try (obtain ⟨⟨v0, v1⟩, v2, v3⟩ := id kD)
  try (have lta := kA.lt)
  try (have ltb := kB.lt)
  try (have ltc := kC.lt)
  try (have ltd := kD.lt)
  refine (at_any 2 0 _).mono ?_
  rintro _ w4 ⟨rfl, hbw4⟩
  skip
  try (replace kA := kA.below hbw4 kA.lt)
  try (replace kB := kB.below hbw4 kB.lt)
  try (replace kC := kC.below hbw4 kC.lt)
  try (replace kD := kD.below hbw4 kD.lt)
  try clear x0 x1 x2 x3
  try clear y0 y1 y2 y3
  try clear z0 z1 z2 z3
  try clear v0 v1 v2 v3
  try (obtain ⟨⟨x0, x1⟩, x2, x3⟩ := id kA)
  try (obtain ⟨⟨y0, y1⟩, y2, y3⟩ := id kB)
  try (obtain ⟨⟨z0, z1⟩, z2, z3⟩ := id kC)
  try (obtain ⟨⟨v0, v1⟩, v2, v3⟩ := id kD)
  try (have lta := kA.lt)
  try (have ltb := kB.lt)
  try (have ltc := kC.lt)
  try (have ltd := kD.lt)
  go_wp2_with fail
  refine (pApply 2 0 2 _).mono ?_
  rintro _ w5 ⟨rfl, hb5⟩
  rw [show begS 2 0 2 2 3 = 3 by decide, show begL 2 0 2 2 = 2 by decide, show begE 2 0 2 2 = 0 by decide]
  try (replace kA := kA.below hb5 kA.lt)
  try (replace kB := kB.below hb5 kB.lt)
  try (replace kC := kC.below hb5 kC.lt)
  try (replace kD := kD.below hb5 kD.lt)
  try clear x0 x1 x2 x3
  try clear y0 y1 y2 y3
  try clear z0 z1 z2 z3
  try clear v0 v1 v2 v3
  try (obtain ⟨⟨x0, x1⟩, x2, x3⟩ := id kA)
  try (obtain ⟨⟨y0, y1⟩, y2, y3⟩ := id kB)
  try (obtain ⟨⟨z0, z1⟩, z2, z3⟩ := id kC)
  try (obtain ⟨⟨v0, v1⟩, v2, v3⟩ := id kD)
  try (have lta := kA.lt)
  try (have ltb := kB.lt)
  try (have ltc := kC.lt)
  try (have ltd := kD.lt)
  go_wp2_with fail
  obtain ⟨w6, hk⟩ : ∃ w6, w6 = (w5).alloc (.cells #[.int .i64 (3), .int .i64 (2)] 23) := ⟨_, rfl⟩
  obtain ⟨gb, hgg⟩ : ∃ gb, gb = (w5).heap.size := ⟨_, rfl⟩
  obtain ⟨kB, hbw6⟩ := new_brk hk
  rw [← hk, ← hgg]
  rw [← hgg] at kB
  have hgbw : w.heap.size ≤ gb := by
    have := (show Below w.heap.size w (w5) from (by repeat (first | exact Below.refl _ _ | apply keep_alloc | apply keep_drew | apply keep_drewN | refine keep_step (by assumption) ?_ (by rfl) | refine keep_set ?_ _ _ (by first | exact Nat.le_refl _ | (show _ ≤ _; simp; done) | (show _ ≤ _; simp; omega))))).size
    omega
  try (have nagb : ga < gb := by have := kA.lt; omega)
  try (have nbgb : gb < gb := by have := kB.lt; omega)
  try (have ncgb : gc < gb := by have := kC.lt; omega)
  clear hk hgg
  try (replace kA := kA.below hbw6 kA.lt)
  try (replace kB := kB.below hbw6 kB.lt)
  try (replace kC := kC.below hbw6 kC.lt)
  try (replace kD := kD.below hbw6 kD.lt)
  try clear x0 x1 x2 x3
  try clear y0 y1 y2 y3
  try clear z0 z1 z2 z3
  try clear v0 v1 v2 v3
  try (obtain ⟨⟨x0, x1⟩, x2, x3⟩ := id kA)
  try (obtain ⟨⟨y0, y1⟩, y2, y3⟩ := id kB)
  try (obtain ⟨⟨z0, z1⟩, z2, z3⟩ := id kC)
  try (obtain ⟨⟨v0, v1⟩, v2, v3⟩ := id kD)
  try (have lta := kA.lt)
  try (have ltb := kB.lt)
  try (have ltc := kC.lt)
  try (have ltd := kD.lt)
  refine (at_any 2 0 _).mono ?_
  rintro _ w7 ⟨rfl, hbw7⟩
  skip
  try (replace kA := kA.below hbw7 kA.lt)
  try (replace kB := kB.below hbw7 kB.lt)
  try (replace kC := kC.below hbw7 kC.lt)
  try (replace kD := kD.below hbw7 kD.lt)
  try clear x0 x1 x2 x3
  try clear y0 y1 y2 y3
  try clear z0 z1 z2 z3
  try clear v0 v1 v2 v3
  try (obtain ⟨⟨x0, x1⟩, x2, x3⟩ := id kA)
  try (obtain ⟨⟨y0, y1⟩, y2, y3⟩ := id kB)
  try (obtain ⟨⟨z0, z1⟩, z2, z3⟩ := id kC)
  try (obtain ⟨⟨v0, v1⟩, v2, v3⟩ := id kD)
  try (have lta := kA.lt)
  try (have ltb := kB.lt)
  try (have ltc := kC.lt)
  try (have ltd := kD.lt)
  go_wp2_with fail
  refine (pApply 2 0 0 _).mono ?_
  rintro _ w8 ⟨rfl, hb8⟩
  rw [show begS 2 0 0 2 3 = 0 by decide, show begL 2 0 0 2 = 0 by decide, show begE 2 0 0 2 = 0 by decide]
  try (replace kA := kA.below hb8 kA.lt)
  try (replace kB := kB.below hb8 kB.lt)
  try (replace kC := kC.below hb8 kC.lt)
  try (replace kD := kD.below hb8 kD.lt)
  try clear x0 x1 x2 x3
  try clear y0 y1 y2 y3
  try clear z0 z1 z2 z3
  try clear v0 v1 v2 v3
  try (obtain ⟨⟨x0, x1⟩, x2, x3⟩ := id kA)
  try (obtain ⟨⟨y0, y1⟩, y2, y3⟩ := id kB)
  try (obtain ⟨⟨z0, z1⟩, z2, z3⟩ := id kC)
  try (obtain ⟨⟨v0, v1⟩, v2, v3⟩ := id kD)
  try (have lta := kA.lt)
  try (have ltb := kB.lt)
  try (have ltc := kC.lt)
  try (have ltd := kD.lt)
  go_wp2_with fail
  obtain ⟨w9, hk⟩ : ∃ w9, w9 = (w8).alloc (.cells #[.int .i64 (0), .int .i64 (0)] 23) := ⟨_, rfl⟩
  obtain ⟨gc, hgg⟩ : ∃ gc, gc = (w8).heap.size := ⟨_, rfl⟩
  obtain ⟨kC, hbw9⟩ := new_brk hk
  rw [← hk, ← hgg]
  rw [← hgg] at kC
  have hgcw : w.heap.size ≤ gc := by
    have := (show Below w.heap.size w (w8) from (by repeat (first | exact Below.refl _ _ | apply keep_alloc | apply keep_drew | apply keep_drewN | refine keep_step (by assumption) ?_ (by rfl) | refine keep_set ?_ _ _ (by first | exact Nat.le_refl _ | (show _ ≤ _; simp; done) | (show _ ≤ _; simp; omega))))).size
    omega
  try (have nagc : ga < gc := by have := kA.lt; omega)
  try (have nbgc : gb < gc := by have := kB.lt; omega)
  try (have ncgc : gc < gc := by have := kC.lt; omega)
  clear hk hgg
  try (replace kA := kA.below hbw9 kA.lt)
  try (replace kB := kB.below hbw9 kB.lt)
  try (replace kC := kC.below hbw9 kC.lt)
  try (replace kD := kD.below hbw9 kD.lt)
  try clear x0 x1 x2 x3
  try clear y0 y1 y2 y3
  try clear z0 z1 z2 z3
  try clear v0 v1 v2 v3
  try (obtain ⟨⟨x0, x1⟩, x2, x3⟩ := id kA)
  try (obtain ⟨⟨y0, y1⟩, y2, y3⟩ := id kB)
  try (obtain ⟨⟨z0, z1⟩, z2, z3⟩ := id kC)
  try (obtain ⟨⟨v0, v1⟩, v2, v3⟩ := id kD)
  try (have lta := kA.lt)
  try (have ltb := kB.lt)
  try (have ltc := kC.lt)
  try (have ltd := kD.lt)
  refine (pNew _).mono ?_
  rintro _ w10 ⟨rfl, hbw10⟩
  skip
  try (replace kA := kA.below hbw10 kA.lt)
  try (replace kB := kB.below hbw10 kB.lt)
  try (replace kC := kC.below hbw10 kC.lt)
  try (replace kD := kD.below hbw10 kD.lt)
  try clear x0 x1 x2 x3
  try clear y0 y1 y2 y3
  try clear z0 z1 z2 z3
  try clear v0 v1 v2 v3
  try (obtain ⟨⟨x0, x1⟩, x2, x3⟩ := id kA)
  try (obtain ⟨⟨y0, y1⟩, y2, y3⟩ := id kB)
  try (obtain ⟨⟨z0, z1⟩, z2, z3⟩ := id kC)
  try (obtain ⟨⟨v0, v1⟩, v2, v3⟩ := id kD)
  try (have lta := kA.lt)
  try (have ltb := kB.lt)
  try (have ltc := kC.lt)
  try (have ltd := kD.lt)
  go_wp2_with fail
  refine (pRelease 0 0 0 _).mono ?_
  rintro _ w11 ⟨rfl, hb11⟩
  rw [show begS 0 0 0 0 1 = 2 by decide, show begL 0 0 0 0 = 0 by decide, show begE 0 0 0 0 = 0 by decide]
  try (replace kA := kA.below hb11 kA.lt)
  try (replace kB := kB.below hb11 kB.lt)
  try (replace kC := kC.below hb11 kC.lt)
  try (replace kD := kD.below hb11 kD.lt)
  try clear x0 x1 x2 x3
  try clear y0 y1 y2 y3
  try clear z0 z1 z2 z3
  try clear v0 v1 v2 v3
  try (obtain ⟨⟨x0, x1⟩, x2, x3⟩ := id kA)
  try (obtain ⟨⟨y0, y1⟩, y2, y3⟩ := id kB)
  try (obtain ⟨⟨z0, z1⟩, z2, z3⟩ := id kC)
  try (obtain ⟨⟨v0, v1⟩, v2, v3⟩ := id kD)
  try (have lta := kA.lt)
  try (have ltb := kB.lt)
  try (have ltc := kC.lt)
  try (have ltd := kD.lt)
  go_wp2_with fail
  obtain ⟨w12, hk⟩ : ∃ w12, w12 = (w11).alloc (.cells #[.int .i64 (2), .int .i64 (0)] 23) := ⟨_, rfl⟩
  obtain ⟨gd, hgg⟩ : ∃ gd, gd = (w11).heap.size := ⟨_, rfl⟩
  obtain ⟨kD, hbw12⟩ := new_brk hk
  rw [← hk, ← hgg]
  rw [← hgg] at kD
  have hgdw : w.heap.size ≤ gd := by
    have := (show Below w.heap.size w (w11) from (by repeat (first | exact Below.refl _ _ | apply keep_alloc | apply keep_drew | apply keep_drewN | refine keep_step (by assumption) ?_ (by rfl) | refine keep_set ?_ _ _ (by first | exact Nat.le_refl _ | (show _ ≤ _; simp; done) | (show _ ≤ _; simp; omega))))).size
    omega
  try (have nagd : ga < gd := by have := kA.lt; omega)
  try (have nbgd : gb < gd := by have := kB.lt; omega)
  try (have ncgd : gc < gd := by have := kC.lt; omega)
  clear hk hgg
  try (replace kA := kA.below hbw12 kA.lt)
  try (replace kB := kB.below hbw12 kB.lt)
  try (replace kC := kC.below hbw12 kC.lt)
  try (replace kD := kD.below hbw12 kD.lt)
  try clear x0 x1 x2 x3
  try clear y0 y1 y2 y3
  try clear z0 z1 z2 z3
  try clear v0 v1 v2 v3
  try (obtain ⟨⟨x0, x1⟩, x2, x3⟩ := id kA)
  try (obtain ⟨⟨y0, y1⟩, y2, y3⟩ := id kB)
  try (obtain ⟨⟨z0, z1⟩, z2, z3⟩ := id kC)
  try (obtain ⟨⟨v0, v1⟩, v2, v3⟩ := id kD)
  try (have lta := kA.lt)
  try (have ltb := kB.lt)
  try (have ltc := kC.lt)
  try (have ltd := kD.lt)
  (refine wp_region_calm (C := fun x => ∃ y : Later w12, x = y.w) (by kernel_rfl) (by kernel_rfl) (later_start w12) ?_; have hlat := later_cell w12; (repeat (go_big_quiet_step ((first | (go_at_call 11; apply later_of; (first | (with_reducible exact at_any) | (apply at_any <;> first | (with_reducible assumption) | (first | omega | (subst_vars; omega) | (simp only [Bool.not_eq_true', Bool.not_eq_false', beq_iff_eq, beq_eq_false_iff_ne, ne_eq, bne_iff_ne, bne_eq_false_iff_eq, Bool.not_eq_true, Bool.not_eq_false, decide_eq_true_eq, decide_eq_false_iff_not, Bool.and_eq_true, Bool.or_eq_true] at *; first | omega | (subst_vars; omega)) | (simp only [Bool.not_eq_true', Bool.not_eq_false', beq_iff_eq, beq_eq_false_iff_ne, ne_eq, bne_iff_ne, bne_eq_false_iff_eq, Bool.not_eq_true, Bool.not_eq_false, decide_eq_true_eq, decide_eq_false_iff_not, Bool.and_eq_true, Bool.or_eq_true, wrap64] at *; first | omega | (subst_vars; omega)))))) | (go_at_call 15; apply later_of; (first | (with_reducible exact is_true) | (apply is_true <;> first | (with_reducible assumption) | (first | omega | (subst_vars; omega) | (simp only [Bool.not_eq_true', Bool.not_eq_false', beq_iff_eq, beq_eq_false_iff_ne, ne_eq, bne_iff_ne, bne_eq_false_iff_eq, Bool.not_eq_true, Bool.not_eq_false, decide_eq_true_eq, decide_eq_false_iff_not, Bool.and_eq_true, Bool.or_eq_true] at *; first | omega | (subst_vars; omega)) | (simp only [Bool.not_eq_true', Bool.not_eq_false', beq_iff_eq, beq_eq_false_iff_ne, ne_eq, bne_iff_ne, bne_eq_false_iff_eq, Bool.not_eq_true, Bool.not_eq_false, decide_eq_true_eq, decide_eq_false_iff_not, Bool.and_eq_true, Bool.or_eq_true, wrap64] at *; first | omega | (subst_vars; omega)))))))))); refine wpQuiet_nil ?_; rintro w' ⟨⟨xq, hb⟩, hxq⟩; have hxq2 : w' = xq := hxq; clear hxq; subst hxq2; clear hlat)
  try (replace kA := kA.below hb kA.lt)
  try (replace kB := kB.below hb kB.lt)
  try (replace kC := kC.below hb kC.lt)
  try (replace kD := kD.below hb kD.lt)
  try clear x0 x1 x2 x3
  try clear y0 y1 y2 y3
  try clear z0 z1 z2 z3
  try clear v0 v1 v2 v3
  try (obtain ⟨⟨x0, x1⟩, x2, x3⟩ := id kA)
  try (obtain ⟨⟨y0, y1⟩, y2, y3⟩ := id kB)
  try (obtain ⟨⟨z0, z1⟩, z2, z3⟩ := id kC)
  try (obtain ⟨⟨v0, v1⟩, v2, v3⟩ := id kD)
  try (have lta := kA.lt)
  try (have ltb := kB.lt)
  try (have ltc := kC.lt)
  try (have ltd := kD.lt)
  have hbw13 := hb
  clear hb
  go_wp2_with fail
  refine (at_any 2 0 _).mono ?_
  rintro _ w14 ⟨rfl, hbw14⟩
  skip
  try (replace kA := kA.below hbw14 kA.lt)
  try (replace kB := kB.below hbw14 kB.lt)
  try (replace kC := kC.below hbw14 kC.lt)
  try (replace kD := kD.below hbw14 kD.lt)
  try clear x0 x1 x2 x3
  try clear y0 y1 y2 y3
  try clear z0 z1 z2 z3
  try clear v0 v1 v2 v3
  try (obtain ⟨⟨x0, x1⟩, x2, x3⟩ := id kA)
  try (obtain ⟨⟨y0, y1⟩, y2, y3⟩ := id kB)
  try (obtain ⟨⟨z0, z1⟩, z2, z3⟩ := id kC)
  try (obtain ⟨⟨v0, v1⟩, v2, v3⟩ := id kD)
  try (have lta := kA.lt)
  try (have ltb := kB.lt)
  try (have ltc := kC.lt)
  try (have ltd := kD.lt)
  go_wp2_with fail
  refine (pRelease 2 0 2 _).mono ?_
  rintro _ w15 ⟨rfl, hb15⟩
  rw [show begS 2 0 2 0 1 = 0 by decide, show begL 2 0 2 0 = 0 by decide, show begE 2 0 2 0 = 9 by decide]
  try (replace kA := kA.below hb15 kA.lt)
  try (replace kB := kB.below hb15 kB.lt)
  try (replace kC := kC.below hb15 kC.lt)
  try (replace kD := kD.below hb15 kD.lt)
  try clear x0 x1 x2 x3
  try clear y0 y1 y2 y3
  try clear z0 z1 z2 z3
  try clear v0 v1 v2 v3
  try (obtain ⟨⟨x0, x1⟩, x2, x3⟩ := id kA)
  try (obtain ⟨⟨y0, y1⟩, y2, y3⟩ := id kB)
  try (obtain ⟨⟨z0, z1⟩, z2, z3⟩ := id kC)
  try (obtain ⟨⟨v0, v1⟩, v2, v3⟩ := id kD)
  try (have lta := kA.lt)
  try (have ltb := kB.lt)
  try (have ltc := kC.lt)
  try (have ltd := kD.lt)
  go_wp2_with fail
  refine (pNew _).mono ?_
  rintro _ w16 ⟨rfl, hbw16⟩
  skip
  try (replace kA := kA.below hbw16 kA.lt)
  try (replace kB := kB.below hbw16 kB.lt)
  try (replace kC := kC.below hbw16 kC.lt)
  try (replace kD := kD.below hbw16 kD.lt)
  try clear x0 x1 x2 x3
  try clear y0 y1 y2 y3
  try clear z0 z1 z2 z3
  try clear v0 v1 v2 v3
  try (obtain ⟨⟨x0, x1⟩, x2, x3⟩ := id kA)
  try (obtain ⟨⟨y0, y1⟩, y2, y3⟩ := id kB)
  try (obtain ⟨⟨z0, z1⟩, z2, z3⟩ := id kC)
  try (obtain ⟨⟨v0, v1⟩, v2, v3⟩ := id kD)
  try (have lta := kA.lt)
  try (have ltb := kB.lt)
  try (have ltc := kC.lt)
  try (have ltd := kD.lt)
  go_wp2_with fail
  refine (pApply 0 0 2 _).mono ?_
  rintro _ w17 ⟨rfl, hb17⟩
  rw [show begS 0 0 2 2 3 = 0 by decide, show begL 0 0 2 2 = 0 by decide, show begE 0 0 2 2 = 9 by decide]
  try (replace kA := kA.below hb17 kA.lt)
  try (replace kB := kB.below hb17 kB.lt)
  try (replace kC := kC.below hb17 kC.lt)
  try (replace kD := kD.below hb17 kD.lt)
  try clear x0 x1 x2 x3
  try clear y0 y1 y2 y3
  try clear z0 z1 z2 z3
  try clear v0 v1 v2 v3
  try (obtain ⟨⟨x0, x1⟩, x2, x3⟩ := id kA)
  try (obtain ⟨⟨y0, y1⟩, y2, y3⟩ := id kB)
  try (obtain ⟨⟨z0, z1⟩, z2, z3⟩ := id kC)
  try (obtain ⟨⟨v0, v1⟩, v2, v3⟩ := id kD)
  try (have lta := kA.lt)
  try (have ltb := kB.lt)
  try (have ltc := kC.lt)
  try (have ltd := kD.lt)
  go_wp2_with fail
  refine (at_any 1 1 _).mono ?_
  rintro _ w18 ⟨rfl, hbw18⟩
  skip
  try (replace kA := kA.below hbw18 kA.lt)
  try (replace kB := kB.below hbw18 kB.lt)
  try (replace kC := kC.below hbw18 kC.lt)
  try (replace kD := kD.below hbw18 kD.lt)
  try clear x0 x1 x2 x3
  try clear y0 y1 y2 y3
  try clear z0 z1 z2 z3
  try clear v0 v1 v2 v3
  try (obtain ⟨⟨x0, x1⟩, x2, x3⟩ := id kA)
  try (obtain ⟨⟨y0, y1⟩, y2, y3⟩ := id kB)
  try (obtain ⟨⟨z0, z1⟩, z2, z3⟩ := id kC)
  try (obtain ⟨⟨v0, v1⟩, v2, v3⟩ := id kD)
  try (have lta := kA.lt)
  try (have ltb := kB.lt)
  try (have ltc := kC.lt)
  try (have ltd := kD.lt)
  go_wp2_with fail
  refine (pRelease 1 1 2 _).mono ?_
  rintro _ w19 ⟨rfl, hb19⟩
  rw [show begS 1 1 2 0 1 = 0 by decide, show begL 1 1 2 0 = 0 by decide, show begE 1 1 2 0 = 9 by decide]
  try (replace kA := kA.below hb19 kA.lt)
  try (replace kB := kB.below hb19 kB.lt)
  try (replace kC := kC.below hb19 kC.lt)
  try (replace kD := kD.below hb19 kD.lt)
  try clear x0 x1 x2 x3
  try clear y0 y1 y2 y3
  try clear z0 z1 z2 z3
  try clear v0 v1 v2 v3
  try (obtain ⟨⟨x0, x1⟩, x2, x3⟩ := id kA)
  try (obtain ⟨⟨y0, y1⟩, y2, y3⟩ := id kB)
  try (obtain ⟨⟨z0, z1⟩, z2, z3⟩ := id kC)
  try (obtain ⟨⟨v0, v1⟩, v2, v3⟩ := id kD)
  try (have lta := kA.lt)
  try (have ltb := kB.lt)
  try (have ltc := kC.lt)
  try (have ltd := kD.lt)
  go_wp2_with fail
  refine (at_any 1 2 _).mono ?_
  rintro _ w20 ⟨rfl, hbw20⟩
  skip
  try (replace kA := kA.below hbw20 kA.lt)
  try (replace kB := kB.below hbw20 kB.lt)
  try (replace kC := kC.below hbw20 kC.lt)
  try (replace kD := kD.below hbw20 kD.lt)
  try clear x0 x1 x2 x3
  try clear y0 y1 y2 y3
  try clear z0 z1 z2 z3
  try clear v0 v1 v2 v3
  try (obtain ⟨⟨x0, x1⟩, x2, x3⟩ := id kA)
  try (obtain ⟨⟨y0, y1⟩, y2, y3⟩ := id kB)
  try (obtain ⟨⟨z0, z1⟩, z2, z3⟩ := id kC)
  try (obtain ⟨⟨v0, v1⟩, v2, v3⟩ := id kD)
  try (have lta := kA.lt)
  try (have ltb := kB.lt)
  try (have ltc := kC.lt)
  try (have ltd := kD.lt)
  go_wp2_with fail
  refine (pRun 1 2 2 1 _).mono ?_
  rintro _ w21 ⟨rfl, hb21⟩
  rw [show runS 1 2 2 1 = 1 by decide, show runL 1 2 2 1 = 1 by decide, show runE 1 2 2 1 = 0 by decide]
  try (replace kA := kA.below hb21 kA.lt)
  try (replace kB := kB.below hb21 kB.lt)
  try (replace kC := kC.below hb21 kC.lt)
  try (replace kD := kD.below hb21 kD.lt)
  try clear x0 x1 x2 x3
  try clear y0 y1 y2 y3
  try clear z0 z1 z2 z3
  try clear v0 v1 v2 v3
  try (obtain ⟨⟨x0, x1⟩, x2, x3⟩ := id kA)
  try (obtain ⟨⟨y0, y1⟩, y2, y3⟩ := id kB)
  try (obtain ⟨⟨z0, z1⟩, z2, z3⟩ := id kC)
  try (obtain ⟨⟨v0, v1⟩, v2, v3⟩ := id kD)
  try (have lta := kA.lt)
  try (have ltb := kB.lt)
  try (have ltc := kC.lt)
  try (have ltd := kD.lt)
  go_wp2_with fail
  obtain ⟨w22, hk⟩ : ∃ w22, w22 = ((w21).setCell ⟨ga, 0, none⟩ (.int .i64 (1))).setCell ⟨ga, 1, none⟩ (.int .i64 (1)) := ⟨_, rfl⟩
  rw [← hk]
  obtain ⟨hx', ht⟩ := (kA).sets hk
  have hbw22 : Below w.heap.size w w22 := keep_turn ht (by repeat (first | exact Below.refl _ _ | apply keep_alloc | apply keep_drew | apply keep_drewN | refine keep_step (by assumption) ?_ (by rfl) | refine keep_set ?_ _ _ (by first | exact Nat.le_refl _ | (show _ ≤ _; simp; done) | (show _ ≤ _; simp; omega)))) (by assumption)
  try (replace kA := kA.turn ht (by omega))
  try (replace kB := kB.turn ht (by omega))
  try (replace kC := kC.turn ht (by omega))
  try (replace kD := kD.turn ht (by omega))
  try (replace kA := hx')
  clear hk ht
  try clear hx'
  try clear x0 x1 x2 x3
  try clear y0 y1 y2 y3
  try clear z0 z1 z2 z3
  try clear v0 v1 v2 v3
  try (obtain ⟨⟨x0, x1⟩, x2, x3⟩ := id kA)
  try (obtain ⟨⟨y0, y1⟩, y2, y3⟩ := id kB)
  try (obtain ⟨⟨z0, z1⟩, z2, z3⟩ := id kC)
  try (obtain ⟨⟨v0, v1⟩, v2, v3⟩ := id kD)
  try (have lta := kA.lt)
  try (have ltb := kB.lt)
  try (have ltc := kC.lt)
  try (have ltd := kD.lt)
  refine (at_any 1 2 _).mono ?_
  rintro _ w23 ⟨rfl, hbw23⟩
  skip
  try (replace kA := kA.below hbw23 kA.lt)
  try (replace kB := kB.below hbw23 kB.lt)
  try (replace kC := kC.below hbw23 kC.lt)
  try (replace kD := kD.below hbw23 kD.lt)
  try clear x0 x1 x2 x3
  try clear y0 y1 y2 y3
  try clear z0 z1 z2 z3
  try clear v0 v1 v2 v3
  try (obtain ⟨⟨x0, x1⟩, x2, x3⟩ := id kA)
  try (obtain ⟨⟨y0, y1⟩, y2, y3⟩ := id kB)
  try (obtain ⟨⟨z0, z1⟩, z2, z3⟩ := id kC)
  try (obtain ⟨⟨v0, v1⟩, v2, v3⟩ := id kD)
  try (have lta := kA.lt)
  try (have ltb := kB.lt)
  try (have ltc := kC.lt)
  try (have ltd := kD.lt)
  go_wp2_with fail
  refine (pRun 1 2 2 9 _).mono ?_
  rintro _ w24 ⟨rfl, hb24⟩
  rw [show runS 1 2 2 9 = 2 by decide, show runL 1 2 2 9 = 0 by decide, show runE 1 2 2 9 = 0 by decide]
  try (replace kA := kA.below hb24 kA.lt)
  try (replace kB := kB.below hb24 kB.lt)
  try (replace kC := kC.below hb24 kC.lt)
  try (replace kD := kD.below hb24 kD.lt)
  try clear x0 x1 x2 x3
  try clear y0 y1 y2 y3
  try clear z0 z1 z2 z3
  try clear v0 v1 v2 v3
  try (obtain ⟨⟨x0, x1⟩, x2, x3⟩ := id kA)
  try (obtain ⟨⟨y0, y1⟩, y2, y3⟩ := id kB)
  try (obtain ⟨⟨z0, z1⟩, z2, z3⟩ := id kC)
  try (obtain ⟨⟨v0, v1⟩, v2, v3⟩ := id kD)
  try (have lta := kA.lt)
  try (have ltb := kB.lt)
  try (have ltc := kC.lt)
  try (have ltd := kD.lt)
  go_wp2_with fail
  obtain ⟨w25, hk⟩ : ∃ w25, w25 = ((w24).setCell ⟨gb, 0, none⟩ (.int .i64 (2))).setCell ⟨gb, 1, none⟩ (.int .i64 (0)) := ⟨_, rfl⟩
  rw [← hk]
  obtain ⟨hx', ht⟩ := (kB).sets hk
  have hbw25 : Below w.heap.size w w25 := keep_turn ht (by repeat (first | exact Below.refl _ _ | apply keep_alloc | apply keep_drew | apply keep_drewN | refine keep_step (by assumption) ?_ (by rfl) | refine keep_set ?_ _ _ (by first | exact Nat.le_refl _ | (show _ ≤ _; simp; done) | (show _ ≤ _; simp; omega)))) (by assumption)
  try (replace kA := kA.turn ht (by omega))
  try (replace kB := kB.turn ht (by omega))
  try (replace kC := kC.turn ht (by omega))
  try (replace kD := kD.turn ht (by omega))
  try (replace kB := hx')
  clear hk ht
  try clear hx'
  try clear x0 x1 x2 x3
  try clear y0 y1 y2 y3
  try clear z0 z1 z2 z3
  try clear v0 v1 v2 v3
  try (obtain ⟨⟨x0, x1⟩, x2, x3⟩ := id kA)
  try (obtain ⟨⟨y0, y1⟩, y2, y3⟩ := id kB)
  try (obtain ⟨⟨z0, z1⟩, z2, z3⟩ := id kC)
  try (obtain ⟨⟨v0, v1⟩, v2, v3⟩ := id kD)
  try (have lta := kA.lt)
  try (have ltb := kB.lt)
  try (have ltc := kC.lt)
  try (have ltd := kD.lt)
  refine (at_any 1 2 _).mono ?_
  rintro _ w26 ⟨rfl, hbw26⟩
  skip
  try (replace kA := kA.below hbw26 kA.lt)
  try (replace kB := kB.below hbw26 kB.lt)
  try (replace kC := kC.below hbw26 kC.lt)
  try (replace kD := kD.below hbw26 kD.lt)
  try clear x0 x1 x2 x3
  try clear y0 y1 y2 y3
  try clear z0 z1 z2 z3
  try clear v0 v1 v2 v3
  try (obtain ⟨⟨x0, x1⟩, x2, x3⟩ := id kA)
  try (obtain ⟨⟨y0, y1⟩, y2, y3⟩ := id kB)
  try (obtain ⟨⟨z0, z1⟩, z2, z3⟩ := id kC)
  try (obtain ⟨⟨v0, v1⟩, v2, v3⟩ := id kD)
  try (have lta := kA.lt)
  try (have ltb := kB.lt)
  try (have ltc := kC.lt)
  try (have ltd := kD.lt)
  go_wp2_with fail
  refine (pEnds 1 2 2 _).mono ?_
  rintro _ w27 ⟨rfl, hb27⟩
  rw [show enS 1 2 2 = 2 by decide, show enL 1 2 2 = 0 by decide, show enK 1 2 2 = 2 by decide]
  rw [show chk 1 2 2 = 0 by decide]
  try (replace kA := kA.below hb27 kA.lt)
  try (replace kB := kB.below hb27 kB.lt)
  try (replace kC := kC.below hb27 kC.lt)
  try (replace kD := kD.below hb27 kD.lt)
  try clear x0 x1 x2 x3
  try clear y0 y1 y2 y3
  try clear z0 z1 z2 z3
  try clear v0 v1 v2 v3
  try (obtain ⟨⟨x0, x1⟩, x2, x3⟩ := id kA)
  try (obtain ⟨⟨y0, y1⟩, y2, y3⟩ := id kB)
  try (obtain ⟨⟨z0, z1⟩, z2, z3⟩ := id kC)
  try (obtain ⟨⟨v0, v1⟩, v2, v3⟩ := id kD)
  try (have lta := kA.lt)
  try (have ltb := kB.lt)
  try (have ltc := kC.lt)
  try (have ltd := kD.lt)
  go_wp2_with fail
  obtain ⟨w28, hk⟩ : ∃ w28, w28 = ((w27).setCell ⟨gc, 0, none⟩ (.int .i64 (2))).setCell ⟨gc, 1, none⟩ (.int .i64 (0)) := ⟨_, rfl⟩
  rw [← hk]
  obtain ⟨hx', ht⟩ := (kC).sets hk
  have hbw28 : Below w.heap.size w w28 := keep_turn ht (by repeat (first | exact Below.refl _ _ | apply keep_alloc | apply keep_drew | apply keep_drewN | refine keep_step (by assumption) ?_ (by rfl) | refine keep_set ?_ _ _ (by first | exact Nat.le_refl _ | (show _ ≤ _; simp; done) | (show _ ≤ _; simp; omega)))) (by assumption)
  try (replace kA := kA.turn ht (by omega))
  try (replace kB := kB.turn ht (by omega))
  try (replace kC := kC.turn ht (by omega))
  try (replace kD := kD.turn ht (by omega))
  try (replace kC := hx')
  clear hk ht
  try clear hx'
  try clear x0 x1 x2 x3
  try clear y0 y1 y2 y3
  try clear z0 z1 z2 z3
  try clear v0 v1 v2 v3
  try (obtain ⟨⟨x0, x1⟩, x2, x3⟩ := id kA)
  try (obtain ⟨⟨y0, y1⟩, y2, y3⟩ := id kB)
  try (obtain ⟨⟨z0, z1⟩, z2, z3⟩ := id kC)
  try (obtain ⟨⟨v0, v1⟩, v2, v3⟩ := id kD)
  try (have lta := kA.lt)
  try (have ltb := kB.lt)
  try (have ltc := kC.lt)
  try (have ltd := kD.lt)
  (refine wp_region_calm (C := fun x => ∃ y : Later w28, x = y.w) (by kernel_rfl) (by kernel_rfl) (later_start w28) ?_; have hlat := later_cell w28; (repeat (go_big_quiet_step ((first | (go_at_call 11; apply later_of; (first | (with_reducible exact at_any) | (apply at_any <;> first | (with_reducible assumption) | (first | omega | (subst_vars; omega) | (simp only [Bool.not_eq_true', Bool.not_eq_false', beq_iff_eq, beq_eq_false_iff_ne, ne_eq, bne_iff_ne, bne_eq_false_iff_eq, Bool.not_eq_true, Bool.not_eq_false, decide_eq_true_eq, decide_eq_false_iff_not, Bool.and_eq_true, Bool.or_eq_true] at *; first | omega | (subst_vars; omega)) | (simp only [Bool.not_eq_true', Bool.not_eq_false', beq_iff_eq, beq_eq_false_iff_ne, ne_eq, bne_iff_ne, bne_eq_false_iff_eq, Bool.not_eq_true, Bool.not_eq_false, decide_eq_true_eq, decide_eq_false_iff_not, Bool.and_eq_true, Bool.or_eq_true, wrap64] at *; first | omega | (subst_vars; omega)))))) | (go_at_call 15; apply later_of; (first | (with_reducible exact is_true) | (apply is_true <;> first | (with_reducible assumption) | (first | omega | (subst_vars; omega) | (simp only [Bool.not_eq_true', Bool.not_eq_false', beq_iff_eq, beq_eq_false_iff_ne, ne_eq, bne_iff_ne, bne_eq_false_iff_eq, Bool.not_eq_true, Bool.not_eq_false, decide_eq_true_eq, decide_eq_false_iff_not, Bool.and_eq_true, Bool.or_eq_true] at *; first | omega | (subst_vars; omega)) | (simp only [Bool.not_eq_true', Bool.not_eq_false', beq_iff_eq, beq_eq_false_iff_ne, ne_eq, bne_iff_ne, bne_eq_false_iff_eq, Bool.not_eq_true, Bool.not_eq_false, decide_eq_true_eq, decide_eq_false_iff_not, Bool.and_eq_true, Bool.or_eq_true, wrap64] at *; first | omega | (subst_vars; omega)))))))))); refine wpQuiet_nil ?_; rintro w' ⟨⟨xq, hb⟩, hxq⟩; have hxq2 : w' = xq := hxq; clear hxq; subst hxq2; clear hlat)
  try (replace kA := kA.below hb kA.lt)
  try (replace kB := kB.below hb kB.lt)
  try (replace kC := kC.below hb kC.lt)
  try (replace kD := kD.below hb kD.lt)
  try clear x0 x1 x2 x3
  try clear y0 y1 y2 y3
  try clear z0 z1 z2 z3
  try clear v0 v1 v2 v3
  try (obtain ⟨⟨x0, x1⟩, x2, x3⟩ := id kA)
  try (obtain ⟨⟨y0, y1⟩, y2, y3⟩ := id kB)
  try (obtain ⟨⟨z0, z1⟩, z2, z3⟩ := id kC)
  try (obtain ⟨⟨v0, v1⟩, v2, v3⟩ := id kD)
  try (have lta := kA.lt)
  try (have ltb := kB.lt)
  try (have ltc := kC.lt)
  try (have ltd := kD.lt)
  have hbw29 := hb
  clear hb
  go_wp2_with fail
  refine (at_any 1 1 _).mono ?_
  rintro _ w30 ⟨rfl, hbw30⟩
  skip
  try (replace kA := kA.below hbw30 kA.lt)
  try (replace kB := kB.below hbw30 kB.lt)
  try (replace kC := kC.below hbw30 kC.lt)
  try (replace kD := kD.below hbw30 kD.lt)
  try clear x0 x1 x2 x3
  try clear y0 y1 y2 y3
  try clear z0 z1 z2 z3
  try clear v0 v1 v2 v3
  try (obtain ⟨⟨x0, x1⟩, x2, x3⟩ := id kA)
  try (obtain ⟨⟨y0, y1⟩, y2, y3⟩ := id kB)
  try (obtain ⟨⟨z0, z1⟩, z2, z3⟩ := id kC)
  try (obtain ⟨⟨v0, v1⟩, v2, v3⟩ := id kD)
  try (have lta := kA.lt)
  try (have ltb := kB.lt)
  try (have ltc := kC.lt)
  try (have ltd := kD.lt)
  go_wp2_with fail
  refine (pFree 1 1 2 _).mono ?_
  rintro _ w31 ⟨rfl, hb31⟩
  rw [show freeB 1 1 2 = false by decide, show chk 1 1 2 = 0 by decide]
  try (replace kA := kA.below hb31 kA.lt)
  try (replace kB := kB.below hb31 kB.lt)
  try (replace kC := kC.below hb31 kC.lt)
  try (replace kD := kD.below hb31 kD.lt)
  try clear x0 x1 x2 x3
  try clear y0 y1 y2 y3
  try clear z0 z1 z2 z3
  try clear v0 v1 v2 v3
  try (obtain ⟨⟨x0, x1⟩, x2, x3⟩ := id kA)
  try (obtain ⟨⟨y0, y1⟩, y2, y3⟩ := id kB)
  try (obtain ⟨⟨z0, z1⟩, z2, z3⟩ := id kC)
  try (obtain ⟨⟨v0, v1⟩, v2, v3⟩ := id kD)
  try (have lta := kA.lt)
  try (have ltb := kB.lt)
  try (have ltc := kC.lt)
  try (have ltd := kD.lt)
  go_wp2_with fail
  refine (at_any 2 0 _).mono ?_
  rintro _ w32 ⟨rfl, hbw32⟩
  skip
  try (replace kA := kA.below hbw32 kA.lt)
  try (replace kB := kB.below hbw32 kB.lt)
  try (replace kC := kC.below hbw32 kC.lt)
  try (replace kD := kD.below hbw32 kD.lt)
  try clear x0 x1 x2 x3
  try clear y0 y1 y2 y3
  try clear z0 z1 z2 z3
  try clear v0 v1 v2 v3
  try (obtain ⟨⟨x0, x1⟩, x2, x3⟩ := id kA)
  try (obtain ⟨⟨y0, y1⟩, y2, y3⟩ := id kB)
  try (obtain ⟨⟨z0, z1⟩, z2, z3⟩ := id kC)
  try (obtain ⟨⟨v0, v1⟩, v2, v3⟩ := id kD)
  try (have lta := kA.lt)
  try (have ltb := kB.lt)
  try (have ltc := kC.lt)
  try (have ltd := kD.lt)
  go_wp2_with fail
  refine (pFree 2 0 2 _).mono ?_
  rintro _ w33 ⟨rfl, hb33⟩
  rw [show freeB 2 0 2 = true by decide, show chk 2 0 2 = 0 by decide]
  try (replace kA := kA.below hb33 kA.lt)
  try (replace kB := kB.below hb33 kB.lt)
  try (replace kC := kC.below hb33 kC.lt)
  try (replace kD := kD.below hb33 kD.lt)
  try clear x0 x1 x2 x3
  try clear y0 y1 y2 y3
  try clear z0 z1 z2 z3
  try clear v0 v1 v2 v3
  try (obtain ⟨⟨x0, x1⟩, x2, x3⟩ := id kA)
  try (obtain ⟨⟨y0, y1⟩, y2, y3⟩ := id kB)
  try (obtain ⟨⟨z0, z1⟩, z2, z3⟩ := id kC)
  try (obtain ⟨⟨v0, v1⟩, v2, v3⟩ := id kD)
  try (have lta := kA.lt)
  try (have ltb := kB.lt)
  try (have ltc := kC.lt)
  try (have ltd := kD.lt)
  go_wp2_with fail
  refine (pStates 0 2 _).mono ?_
  rintro _ w34 ⟨A6, c6, rfl, hi6, hl6, hb6⟩
  rw [r1.out] at hi6
  rw [r1.out, r2.out]
  simp only [List.length_cons, List.length_nil]
  try (replace kA := kA.below hb6 kA.lt)
  try (replace kB := kB.below hb6 kB.lt)
  try (replace kC := kC.below hb6 kC.lt)
  try (replace kD := kD.below hb6 kD.lt)
  try clear x0 x1 x2 x3
  try clear y0 y1 y2 y3
  try clear z0 z1 z2 z3
  try clear v0 v1 v2 v3
  try (obtain ⟨⟨x0, x1⟩, x2, x3⟩ := id kA)
  try (obtain ⟨⟨y0, y1⟩, y2, y3⟩ := id kB)
  try (obtain ⟨⟨z0, z1⟩, z2, z3⟩ := id kC)
  try (obtain ⟨⟨v0, v1⟩, v2, v3⟩ := id kD)
  try (have lta := kA.lt)
  try (have ltb := kB.lt)
  try (have ltc := kC.lt)
  try (have ltd := kD.lt)
  go_wp2_with fail
  apply Calls.mono
  focus
    refine sameInts_same _ _ [2, 2] 2 _ _ _ rfl (by decide) ?_ ?_
    · exact hi6.step (by repeat (first | exact Below.refl _ _ | apply keep_alloc | apply keep_drew | apply keep_drewN | refine keep_step (by assumption) ?_ (by rfl) | refine keep_set ?_ _ _ (by first | exact Nat.le_refl _ | (show _ ≤ _; simp; done) | (show _ ≤ _; simp; omega))))
    · exact ints_new _ (by simp) (by rfl)
  rintro _ w35 ⟨rfl, hb35⟩
  have hbw35 : Below w.heap.size w w35 := (by repeat (first | exact Below.refl _ _ | apply keep_alloc | apply keep_drew | apply keep_drewN | refine keep_step (by assumption) ?_ (by rfl) | refine keep_set ?_ _ _ (by first | exact Nat.le_refl _ | (show _ ≤ _; simp; done) | (show _ ≤ _; simp; omega))))
  clear x0 x1 x2 x3 y0 y1 y2 y3 z0 z1 z2 z3 v0 v1 v2 v3 kA kB kC kD
  go_wp2_with fail
  refine (at_any 1 2 _).mono ?_
  rintro _ w40 ⟨rfl, hb40⟩
  go_wp2_with fail
  refine (pForce 1 2 _).mono ?_
  rintro _ w41 ⟨rfl, hb41⟩
  go_wp2_with fail
  refine (at_any 0 0 _).mono ?_
  rintro _ w42 ⟨rfl, hb42⟩
  go_wp2_with fail
  refine (at_any 1 3 _).mono ?_
  rintro _ w43 ⟨rfl, hb43⟩
  go_wp2_with fail
  refine (pchk 1 3 2 _).mono ?_
  rintro _ w44 ⟨rfl, hb44⟩
  rw [show chk 1 3 2 = 2 by decide]
  go_wp2_with fail
  refine (at_any 2 1 _).mono ?_
  rintro _ w45 ⟨rfl, hb45⟩
  go_wp2_with fail
  refine (pchk 2 1 2 _).mono ?_
  rintro _ w46 ⟨rfl, hb46⟩
  rw [show chk 2 1 2 = 2 by decide]
  go_wp2_with fail
  refine (pNew _).mono ?_
  rintro _ w47 ⟨rfl, hb47⟩
  go_wp2_with fail
  refine (pchk 0 0 6 _).mono ?_
  rintro _ w48 ⟨rfl, hb48⟩
  rw [show chk 0 0 6 = 2 by decide]
  go_wp2_with fail
  refine (awake_true _).mono ?_
  rintro _ w49 ⟨rfl, hb49⟩
  go_wp2
  go_ret
  exact ⟨rfl, (by repeat (first | exact Below.refl _ _ | apply keep_alloc | apply keep_drew | apply keep_drewN | refine keep_step (by assumption) ?_ (by rfl) | refine keep_set ?_ _ _ (by first | exact Nat.le_refl _ | (show _ ≤ _; simp; done) | (show _ ≤ _; simp; omega))))⟩
end Go.Proofs.Ytmlalncohkingaa
