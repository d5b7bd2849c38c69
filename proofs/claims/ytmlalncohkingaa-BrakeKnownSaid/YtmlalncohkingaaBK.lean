/- Layer 10: BrakeOrders, BrakeRuns. -/
import Derived.Test.YtmlalncohkingaaBJ
namespace Go.Proofs.Ytmlalncohkingaa
open Go.RowKit
set_option linter.unusedVariables false

set_option maxHeartbeats 16000000 in
theorem brakeOrders_true (s l n : Int) (w : World) (hs : In64 s) (hl : In64 l) (hn : In64 n) :
    Calls Try.prog 4 #[(.agg #[.int .i64 s, .int .i64 l]), .int .i64 n] w fun e w' => e = .returned (.bool true) ∧ Below w.heap.size w w' := by
  obtain ⟨p, hp⟩ : ∃ p, p = w.heap.size := ⟨_, rfl⟩
  go_enter Try.func4, Try.ntmps4
  go_wp2_with fail
  obtain ⟨w0, hw0⟩ : ∃ w0, w0 = (w.alloc (.cells #[.int .i64 s, .int .i64 l] 23)) := ⟨_, rfl⟩
  obtain ⟨hp0, hb0⟩ := new_brk hw0
  rw [← hw0, ← hp]
  rw [← hp] at hp0
  have hpw : w.heap.size ≤ p := by omega
  clear hw0 hp
  -- Release
  refine (pRelease s l n _).mono ?_
  rintro _ w1 ⟨rfl, hb1⟩
  have hp1 := hp0.below hb1 hp0.lt
  obtain ⟨⟨x0, x1⟩, x2, x3⟩ := id hp1
  have hq1 := hp1.lt
  go_wp2_with fail
  obtain ⟨w2, hw2⟩ : ∃ w2, w2 = w1.alloc (.cells #[.int .i64 (begS s l n 0 1), .int .i64 (begL s l n 0)] 23) := ⟨_, rfl⟩
  obtain ⟨gx, hgx⟩ : ∃ gx, gx = w1.heap.size := ⟨_, rfl⟩
  obtain ⟨hx2, hb2⟩ := new_brk hw2
  rw [← hw2, ← hgx]
  rw [← hgx] at hx2
  have hpx : p ≠ gx := by omega
  have hp2 := hp1.below hb2 hp1.lt
  have hgxw : w.heap.size ≤ gx := by omega
  clear hw2 hgx
  refine (rRelease s l n _).mono ?_
  rintro _ w3 ⟨rfl, hb3⟩
  have hp3 := hp2.below hb3 hp2.lt
  have hx3 := hx2.below hb3 hx2.lt
  clear x0 x1 x2 x3
  obtain ⟨⟨x0, x1⟩, x2, x3⟩ := id hp3
  obtain ⟨⟨y0, y1⟩, y2, y3⟩ := id hx3
  have hq2 := hp3.lt
  have hq3 := hx3.lt
  go_wp2_with fail
  obtain ⟨w4, hw4⟩ : ∃ w4, w4 = w3.alloc (.cells #[.int .i64 (begS s l n 0 1), .int .i64 (begL s l n 0)] 23) := ⟨_, rfl⟩
  obtain ⟨gy, hgy⟩ : ∃ gy, gy = w3.heap.size := ⟨_, rfl⟩
  obtain ⟨hy4, hb4⟩ := new_brk hw4
  rw [← hw4, ← hgy]
  rw [← hgy] at hy4
  have hpy : p ≠ gy := by omega
  have hxy : gx ≠ gy := by omega
  have hgyw : w.heap.size ≤ gy := by omega
  have hp4 := hp3.below hb4 hp3.lt
  have hx4 := hx3.below hb4 hx3.lt
  clear hw4 hgy x0 x1 x2 x3 y0 y1 y2 y3
  obtain ⟨⟨x0, x1⟩, x2, x3⟩ := id hp4
  obtain ⟨⟨y0, y1⟩, y2, y3⟩ := id hx4
  obtain ⟨⟨z0, z1⟩, z2, z3⟩ := id hy4
  have hl1 := hp4.lt
  have hl2 := hx4.lt
  have hl3 := hy4.lt
  (refine wp_region_calm (C := fun x => ∃ y : Later w4, x = y.w) (by kernel_rfl) (by kernel_rfl) (later_start w4) ?_; have hlat := later_cell w4; (repeat (go_big_quiet_step ((first | (go_at_call 14; apply later_of; (first | (with_reducible exact pNew) | (apply pNew <;> first | (with_reducible assumption) | (first | omega | (subst_vars; omega) | (simp only [Bool.not_eq_true', Bool.not_eq_false', beq_iff_eq, beq_eq_false_iff_ne, ne_eq, bne_iff_ne, bne_eq_false_iff_eq, Bool.not_eq_true, Bool.not_eq_false, decide_eq_true_eq, decide_eq_false_iff_not, Bool.and_eq_true, Bool.or_eq_true] at *; first | omega | (subst_vars; omega)) | (simp only [Bool.not_eq_true', Bool.not_eq_false', beq_iff_eq, beq_eq_false_iff_ne, ne_eq, bne_iff_ne, bne_eq_false_iff_eq, Bool.not_eq_true, Bool.not_eq_false, decide_eq_true_eq, decide_eq_false_iff_not, Bool.and_eq_true, Bool.or_eq_true, wrap64] at *; first | omega | (subst_vars; omega)))))) | (go_at_call 25; apply later_of; (first | (with_reducible exact rNew) | (apply rNew <;> first | (with_reducible assumption) | (first | omega | (subst_vars; omega) | (simp only [Bool.not_eq_true', Bool.not_eq_false', beq_iff_eq, beq_eq_false_iff_ne, ne_eq, bne_iff_ne, bne_eq_false_iff_eq, Bool.not_eq_true, Bool.not_eq_false, decide_eq_true_eq, decide_eq_false_iff_not, Bool.and_eq_true, Bool.or_eq_true] at *; first | omega | (subst_vars; omega)) | (simp only [Bool.not_eq_true', Bool.not_eq_false', beq_iff_eq, beq_eq_false_iff_ne, ne_eq, bne_iff_ne, bne_eq_false_iff_eq, Bool.not_eq_true, Bool.not_eq_false, decide_eq_true_eq, decide_eq_false_iff_not, Bool.and_eq_true, Bool.or_eq_true, wrap64] at *; first | omega | (subst_vars; omega)))))) | (go_at_call 22; apply later_of; (first | (with_reducible exact pchk) | (apply pchk <;> first | (with_reducible assumption) | (first | omega | (subst_vars; omega) | (simp only [Bool.not_eq_true', Bool.not_eq_false', beq_iff_eq, beq_eq_false_iff_ne, ne_eq, bne_iff_ne, bne_eq_false_iff_eq, Bool.not_eq_true, Bool.not_eq_false, decide_eq_true_eq, decide_eq_false_iff_not, Bool.and_eq_true, Bool.or_eq_true] at *; first | omega | (subst_vars; omega)) | (simp only [Bool.not_eq_true', Bool.not_eq_false', beq_iff_eq, beq_eq_false_iff_ne, ne_eq, bne_iff_ne, bne_eq_false_iff_eq, Bool.not_eq_true, Bool.not_eq_false, decide_eq_true_eq, decide_eq_false_iff_not, Bool.and_eq_true, Bool.or_eq_true, wrap64] at *; first | omega | (subst_vars; omega)))))) | (go_at_call 26; apply later_of; (first | (with_reducible exact rchk) | (apply rchk <;> first | (with_reducible assumption) | (first | omega | (subst_vars; omega) | (simp only [Bool.not_eq_true', Bool.not_eq_false', beq_iff_eq, beq_eq_false_iff_ne, ne_eq, bne_iff_ne, bne_eq_false_iff_eq, Bool.not_eq_true, Bool.not_eq_false, decide_eq_true_eq, decide_eq_false_iff_not, Bool.and_eq_true, Bool.or_eq_true] at *; first | omega | (subst_vars; omega)) | (simp only [Bool.not_eq_true', Bool.not_eq_false', beq_iff_eq, beq_eq_false_iff_ne, ne_eq, bne_iff_ne, bne_eq_false_iff_eq, Bool.not_eq_true, Bool.not_eq_false, decide_eq_true_eq, decide_eq_false_iff_not, Bool.and_eq_true, Bool.or_eq_true, wrap64] at *; first | omega | (subst_vars; omega)))))))))); refine wpQuiet_nil ?_; rintro w' ⟨⟨xq, hb⟩, hxq⟩; have hxq2 : w' = xq := hxq; clear hxq; subst hxq2; clear hlat)
  have hp := hp4
  have hx := hx4
  have hy := hy4
  clear hp0 hp1 hp2 hp3 hp4 hx2 hx3 hx4 hy4
  replace hp := hp.below hb hp.lt
  replace hx := hx.below hb hx.lt
  replace hy := hy.below hb hy.lt
  clear x0 x1 x2 x3 y0 y1 y2 y3 z0 z1 z2 z3
  obtain ⟨⟨x0, x1⟩, x2, x3⟩ := id hp
  obtain ⟨⟨y0, y1⟩, y2, y3⟩ := id hx
  obtain ⟨⟨z0, z1⟩, z2, z3⟩ := id hy
  have hl1 := hp.lt
  have hl2 := hx.lt
  have hl3 := hy.lt
  go_wp2_with fail
  refine (pApply s l n _).mono ?_
  rintro _ w5 ⟨rfl, hb5⟩
  replace hp := hp.below hb5 hp.lt
  replace hx := hx.below hb5 hx.lt
  replace hy := hy.below hb5 hy.lt
  clear x0 x1 x2 x3 y0 y1 y2 y3 z0 z1 z2 z3
  obtain ⟨⟨x0, x1⟩, x2, x3⟩ := id hp
  obtain ⟨⟨y0, y1⟩, y2, y3⟩ := id hx
  obtain ⟨⟨z0, z1⟩, z2, z3⟩ := id hy
  have hl1 := hp.lt
  have hl2 := hx.lt
  have hl3 := hy.lt
  go_wp2_with fail
  obtain ⟨w6, hk⟩ : ∃ w6, w6 = (w5.setCell ⟨gx, 0, none⟩ (.int .i64 (begS s l n 2 3))).setCell ⟨gx, 1, none⟩ (.int .i64 (begL s l n 2)) := ⟨_, rfl⟩
  rw [← hk]
  obtain ⟨hx', ht⟩ := hx.sets hk
  have hbw6 : Below w.heap.size w w6 := keep_turn ht (by repeat (first | exact Below.refl _ _ | apply keep_alloc | apply keep_drew | apply keep_drewN | refine keep_step (by assumption) ?_ (by rfl) | refine keep_set ?_ _ _ (by first | exact Nat.le_refl _ | (show _ ≤ _; simp; done) | (show _ ≤ _; simp; omega)))) hgxw
  replace hp := hp.turn ht hpx
  replace hy := hy.turn ht (Ne.symm hxy)
  replace hx := hx'
  clear hk ht hx'
  clear x0 x1 x2 x3 y0 y1 y2 y3 z0 z1 z2 z3
  obtain ⟨⟨x0, x1⟩, x2, x3⟩ := id hp
  obtain ⟨⟨y0, y1⟩, y2, y3⟩ := id hx
  obtain ⟨⟨z0, z1⟩, z2, z3⟩ := id hy
  have hl1 := hp.lt
  have hl2 := hx.lt
  have hl3 := hy.lt
  refine (rApply s l n _).mono ?_
  rintro _ w7 ⟨rfl, hb7⟩
  replace hp := hp.below hb7 hp.lt
  replace hx := hx.below hb7 hx.lt
  replace hy := hy.below hb7 hy.lt
  clear x0 x1 x2 x3 y0 y1 y2 y3 z0 z1 z2 z3
  obtain ⟨⟨x0, x1⟩, x2, x3⟩ := id hp
  obtain ⟨⟨y0, y1⟩, y2, y3⟩ := id hx
  obtain ⟨⟨z0, z1⟩, z2, z3⟩ := id hy
  have hl1 := hp.lt
  have hl2 := hx.lt
  have hl3 := hy.lt
  go_wp2_with fail
  obtain ⟨w8, hk⟩ : ∃ w8, w8 = (w7.setCell ⟨gy, 0, none⟩ (.int .i64 (begS s l n 2 3))).setCell ⟨gy, 1, none⟩ (.int .i64 (begL s l n 2)) := ⟨_, rfl⟩
  rw [← hk]
  obtain ⟨hy', ht⟩ := hy.sets hk
  have hbw8 : Below w.heap.size w w8 := keep_turn ht (by repeat (first | exact Below.refl _ _ | apply keep_alloc | apply keep_drew | apply keep_drewN | refine keep_step (by assumption) ?_ (by rfl) | refine keep_set ?_ _ _ (by first | exact Nat.le_refl _ | (show _ ≤ _; simp; done) | (show _ ≤ _; simp; omega)))) hgyw
  replace hp := hp.turn ht hpy
  replace hx := hx.turn ht hxy
  replace hy := hy'
  clear hk ht hy'
  clear x0 x1 x2 x3 y0 y1 y2 y3 z0 z1 z2 z3
  obtain ⟨⟨x0, x1⟩, x2, x3⟩ := id hp
  obtain ⟨⟨y0, y1⟩, y2, y3⟩ := id hx
  obtain ⟨⟨z0, z1⟩, z2, z3⟩ := id hy
  have hl1 := hp.lt
  have hl2 := hx.lt
  have hl3 := hy.lt
  refine (pStep s l n _).mono ?_
  rintro _ w9 ⟨rfl, hb9⟩
  replace hp := hp.below hb9 hp.lt
  replace hx := hx.below hb9 hx.lt
  replace hy := hy.below hb9 hy.lt
  clear x0 x1 x2 x3 y0 y1 y2 y3 z0 z1 z2 z3
  obtain ⟨⟨x0, x1⟩, x2, x3⟩ := id hp
  obtain ⟨⟨y0, y1⟩, y2, y3⟩ := id hx
  obtain ⟨⟨z0, z1⟩, z2, z3⟩ := id hy
  have hl1 := hp.lt
  have hl2 := hx.lt
  have hl3 := hy.lt
  go_wp2_with fail
  obtain ⟨w10, hk⟩ : ∃ w10, w10 = (w9.setCell ⟨gx, 0, none⟩ (.int .i64 (runS s l n 1))).setCell ⟨gx, 1, none⟩ (.int .i64 (runL s l n 1)) := ⟨_, rfl⟩
  rw [← hk]
  obtain ⟨hx', ht⟩ := hx.sets hk
  have hbw10 : Below w.heap.size w w10 := keep_turn ht (by repeat (first | exact Below.refl _ _ | apply keep_alloc | apply keep_drew | apply keep_drewN | refine keep_step (by assumption) ?_ (by rfl) | refine keep_set ?_ _ _ (by first | exact Nat.le_refl _ | (show _ ≤ _; simp; done) | (show _ ≤ _; simp; omega)))) hgxw
  replace hp := hp.turn ht hpx
  replace hy := hy.turn ht (Ne.symm hxy)
  replace hx := hx'
  clear hk ht hx'
  clear x0 x1 x2 x3 y0 y1 y2 y3 z0 z1 z2 z3
  obtain ⟨⟨x0, x1⟩, x2, x3⟩ := id hp
  obtain ⟨⟨y0, y1⟩, y2, y3⟩ := id hx
  obtain ⟨⟨z0, z1⟩, z2, z3⟩ := id hy
  have hl1 := hp.lt
  have hl2 := hx.lt
  have hl3 := hy.lt
  refine (rStep s l n _).mono ?_
  rintro _ w11 ⟨rfl, hb11⟩
  replace hp := hp.below hb11 hp.lt
  replace hx := hx.below hb11 hx.lt
  replace hy := hy.below hb11 hy.lt
  clear x0 x1 x2 x3 y0 y1 y2 y3 z0 z1 z2 z3
  obtain ⟨⟨x0, x1⟩, x2, x3⟩ := id hp
  obtain ⟨⟨y0, y1⟩, y2, y3⟩ := id hx
  obtain ⟨⟨z0, z1⟩, z2, z3⟩ := id hy
  have hl1 := hp.lt
  have hl2 := hx.lt
  have hl3 := hy.lt
  go_wp2_with fail
  obtain ⟨w12, hk⟩ : ∃ w12, w12 = (w11.setCell ⟨gy, 0, none⟩ (.int .i64 (runS s l n 1))).setCell ⟨gy, 1, none⟩ (.int .i64 (runL s l n 1)) := ⟨_, rfl⟩
  rw [← hk]
  obtain ⟨hy', ht⟩ := hy.sets hk
  have hbw12 : Below w.heap.size w w12 := keep_turn ht (by repeat (first | exact Below.refl _ _ | apply keep_alloc | apply keep_drew | apply keep_drewN | refine keep_step (by assumption) ?_ (by rfl) | refine keep_set ?_ _ _ (by first | exact Nat.le_refl _ | (show _ ≤ _; simp; done) | (show _ ≤ _; simp; omega)))) hgyw
  replace hp := hp.turn ht hpy
  replace hx := hx.turn ht hxy
  replace hy := hy'
  clear hk ht hy'
  clear x0 x1 x2 x3 y0 y1 y2 y3 z0 z1 z2 z3
  obtain ⟨⟨x0, x1⟩, x2, x3⟩ := id hp
  obtain ⟨⟨y0, y1⟩, y2, y3⟩ := id hx
  obtain ⟨⟨z0, z1⟩, z2, z3⟩ := id hy
  have hl1 := hp.lt
  have hl2 := hx.lt
  have hl3 := hy.lt
  refine (pFree s l n _).mono ?_
  rintro _ w13 ⟨rfl, hb13⟩
  replace hp := hp.below hb13 hp.lt
  replace hx := hx.below hb13 hx.lt
  replace hy := hy.below hb13 hy.lt
  clear x0 x1 x2 x3 y0 y1 y2 y3 z0 z1 z2 z3
  obtain ⟨⟨x0, x1⟩, x2, x3⟩ := id hp
  obtain ⟨⟨y0, y1⟩, y2, y3⟩ := id hx
  obtain ⟨⟨z0, z1⟩, z2, z3⟩ := id hy
  have hl1 := hp.lt
  have hl2 := hx.lt
  have hl3 := hy.lt
  go_wp2_with fail
  refine (rFree s l n _).mono ?_
  rintro _ w14 ⟨rfl, hb14⟩
  replace hp := hp.below hb14 hp.lt
  replace hx := hx.below hb14 hx.lt
  replace hy := hy.below hb14 hy.lt
  clear x0 x1 x2 x3 y0 y1 y2 y3 z0 z1 z2 z3
  obtain ⟨⟨x0, x1⟩, x2, x3⟩ := id hp
  obtain ⟨⟨y0, y1⟩, y2, y3⟩ := id hx
  obtain ⟨⟨z0, z1⟩, z2, z3⟩ := id hy
  have hl1 := hp.lt
  have hl2 := hx.lt
  have hl3 := hy.lt
  go_wp2_with fail
  (refine wp_region_calm (C := fun x => ∃ y : Later w14, x = y.w) (by kernel_rfl) (by kernel_rfl) (later_start w14) ?_; have hlat := later_cell w14; (repeat (go_big_quiet_step ((first | (go_at_call 21; apply later_of; (first | (with_reducible exact pForce) | (apply pForce <;> first | (with_reducible assumption) | (first | omega | (subst_vars; omega) | (simp only [Bool.not_eq_true', Bool.not_eq_false', beq_iff_eq, beq_eq_false_iff_ne, ne_eq, bne_iff_ne, bne_eq_false_iff_eq, Bool.not_eq_true, Bool.not_eq_false, decide_eq_true_eq, decide_eq_false_iff_not, Bool.and_eq_true, Bool.or_eq_true] at *; first | omega | (subst_vars; omega)) | (simp only [Bool.not_eq_true', Bool.not_eq_false', beq_iff_eq, beq_eq_false_iff_ne, ne_eq, bne_iff_ne, bne_eq_false_iff_eq, Bool.not_eq_true, Bool.not_eq_false, decide_eq_true_eq, decide_eq_false_iff_not, Bool.and_eq_true, Bool.or_eq_true, wrap64] at *; first | omega | (subst_vars; omega)))))) | (go_at_call 30; apply later_of; (first | (with_reducible exact rForce) | (apply rForce <;> first | (with_reducible assumption) | (first | omega | (subst_vars; omega) | (simp only [Bool.not_eq_true', Bool.not_eq_false', beq_iff_eq, beq_eq_false_iff_ne, ne_eq, bne_iff_ne, bne_eq_false_iff_eq, Bool.not_eq_true, Bool.not_eq_false, decide_eq_true_eq, decide_eq_false_iff_not, Bool.and_eq_true, Bool.or_eq_true] at *; first | omega | (subst_vars; omega)) | (simp only [Bool.not_eq_true', Bool.not_eq_false', beq_iff_eq, beq_eq_false_iff_ne, ne_eq, bne_iff_ne, bne_eq_false_iff_eq, Bool.not_eq_true, Bool.not_eq_false, decide_eq_true_eq, decide_eq_false_iff_not, Bool.and_eq_true, Bool.or_eq_true, wrap64] at *; first | omega | (subst_vars; omega)))))) | (go_at_call 23; apply later_of; (first | (with_reducible exact awake_true) | (apply awake_true <;> first | (with_reducible assumption) | (first | omega | (subst_vars; omega) | (simp only [Bool.not_eq_true', Bool.not_eq_false', beq_iff_eq, beq_eq_false_iff_ne, ne_eq, bne_iff_ne, bne_eq_false_iff_eq, Bool.not_eq_true, Bool.not_eq_false, decide_eq_true_eq, decide_eq_false_iff_not, Bool.and_eq_true, Bool.or_eq_true] at *; first | omega | (subst_vars; omega)) | (simp only [Bool.not_eq_true', Bool.not_eq_false', beq_iff_eq, beq_eq_false_iff_ne, ne_eq, bne_iff_ne, bne_eq_false_iff_eq, Bool.not_eq_true, Bool.not_eq_false, decide_eq_true_eq, decide_eq_false_iff_not, Bool.and_eq_true, Bool.or_eq_true, wrap64] at *; first | omega | (subst_vars; omega)))))))))); refine wpQuiet_nil ?_; rintro w' ⟨⟨xq, hb⟩, hxq⟩; have hxq2 : w' = xq := hxq; clear hxq; subst hxq2; clear hlat)
  go_wp2
  go_ret
  exact ⟨rfl, (by repeat (first | exact Below.refl _ _ | apply keep_alloc | apply keep_drew | apply keep_drewN | refine keep_step (by assumption) ?_ (by rfl) | refine keep_set ?_ _ _ (by first | exact Nat.le_refl _ | (show _ ≤ _; simp; done) | (show _ ≤ _; simp; omega))))⟩
end Go.Proofs.Ytmlalncohkingaa
