/- Layer 10: BrakeRuns. -/
import Derived.Test.YtmlalncohkingaaBK
namespace Go.Proofs.Ytmlalncohkingaa
open Go.RowKit
set_option linter.unusedVariables false

set_option maxHeartbeats 16000000 in
theorem brakeRuns_true (s l n t : Int) (w : World) (hs : In64 s) (hl : In64 l) (hn : In64 n) (ht64 : In64 t) :
    Calls Try.prog 5 #[(.agg #[.int .i64 s, .int .i64 l]), .int .i64 n, .int .i64 t] w fun e w' => e = .returned (.bool true) ∧ Below w.heap.size w w' := by
  obtain ⟨p, hp⟩ : ∃ p, p = w.heap.size := ⟨_, rfl⟩
  go_enter Try.func5, Try.ntmps5
  go_wp2_with fail
  obtain ⟨w0, hw0⟩ : ∃ w0, w0 = (w.alloc (.cells #[.int .i64 s, .int .i64 l] 23)) := ⟨_, rfl⟩
  obtain ⟨hp0, hb0⟩ := new_brk hw0
  rw [← hw0, ← hp]
  rw [← hp] at hp0
  have hpw : w.heap.size ≤ p := by omega
  clear hw0 hp
  refine (pRun s l n t _).mono ?_
  rintro _ w1 ⟨rfl, hb1⟩
  have hp1 := hp0.below hb1 hp0.lt
  obtain ⟨⟨x0, x1⟩, x2, x3⟩ := id hp1
  have hq1 := hp1.lt
  go_wp2_with fail
  obtain ⟨w2, hw2⟩ : ∃ w2, w2 = w1.alloc (.cells #[.int .i64 (runS s l n t), .int .i64 (runL s l n t)] 23) := ⟨_, rfl⟩
  obtain ⟨gx, hgx⟩ : ∃ gx, gx = w1.heap.size := ⟨_, rfl⟩
  obtain ⟨hx2, hb2⟩ := new_brk hw2
  rw [← hw2, ← hgx]
  rw [← hgx] at hx2
  have hpx : p ≠ gx := by omega
  have hp2 := hp1.below hb2 hp1.lt
  have hgxw : w.heap.size ≤ gx := by omega
  clear hw2 hgx
  refine (rRun s l n t _ ht64).mono ?_
  rintro _ w3 ⟨rfl, hb3⟩
  have hp3 := hp2.below hb3 hp2.lt
  have hx3 := hx2.below hb3 hx2.lt
  clear x0 x1 x2 x3
  obtain ⟨⟨x0, x1⟩, x2, x3⟩ := id hp3
  obtain ⟨⟨y0, y1⟩, y2, y3⟩ := id hx3
  have hq2 := hp3.lt
  have hq3 := hx3.lt
  go_wp2_with fail
  obtain ⟨w4, hw4⟩ : ∃ w4, w4 = w3.alloc (.cells #[.int .i64 (runS s l n t), .int .i64 (runL s l n t)] 23) := ⟨_, rfl⟩
  obtain ⟨gy, hgy⟩ : ∃ gy, gy = w3.heap.size := ⟨_, rfl⟩
  obtain ⟨hy4, hb4⟩ := new_brk hw4
  rw [← hw4, ← hgy]
  rw [← hgy] at hy4
  have hpy : p ≠ gy := by omega
  have hxy : gx ≠ gy := by omega
  have hgyw : w.heap.size ≤ gy := by omega
  have hp := hp3.below hb4 hp3.lt
  have hx := hx3.below hb4 hx3.lt
  have hy := hy4
  clear hw4 hgy x0 x1 x2 x3 y0 y1 y2 y3 hp0 hp1 hp2 hp3 hx2 hx3 hy4
  obtain ⟨⟨x0, x1⟩, x2, x3⟩ := id hp
  obtain ⟨⟨y0, y1⟩, y2, y3⟩ := id hx
  obtain ⟨⟨z0, z1⟩, z2, z3⟩ := id hy
  have hl1 := hp.lt
  have hl2 := hx.lt
  have hl3 := hy.lt
  go_wp2_with fail
  refine (pEnds s l n _).mono ?_
  rintro _ w5 ⟨rfl, hb5⟩
  replace hp := hp.below hb5 hp.lt
  replace hx := hx.below hb5 hx.lt
  replace hy := hy.below hb5 hy.lt
  clear x0 x1 x2 x3 y0 y1 y2 y3 z0 z1 z2 z3
  obtain ⟨⟨x0, x1⟩, x2, x3⟩ := id hp
  obtain ⟨⟨y0, y1⟩, y2, y3⟩ := id hx
  obtain ⟨⟨z0, z1⟩, z2, z3⟩ := id hy
  have hl1 := hp.lt
  have hl2 := hx.lt
  have hl3 := hy.lt
  go_wp2_with fail
  obtain ⟨w6, hk⟩ : ∃ w6, w6 = (w5.setCell ⟨gx, 0, none⟩ (.int .i64 (enS s l n))).setCell ⟨gx, 1, none⟩ (.int .i64 (enL s l n)) := ⟨_, rfl⟩
  rw [← hk]
  obtain ⟨hx', ht⟩ := hx.sets hk
  have hbw6 : Below w.heap.size w w6 := keep_turn ht (by repeat (first | exact Below.refl _ _ | apply keep_alloc | apply keep_drew | apply keep_drewN | refine keep_step (by assumption) ?_ (by rfl) | refine keep_set ?_ _ _ (by first | exact Nat.le_refl _ | (show _ ≤ _; simp; done) | (show _ ≤ _; simp; omega)))) hgxw
  replace hp := hp.turn ht hpx
  replace hy := hy.turn ht (Ne.symm hxy)
  replace hx := hx'
  clear hk ht hx'
  clear x0 x1 x2 x3 y0 y1 y2 y3 z0 z1 z2 z3
  obtain ⟨⟨x0, x1⟩, x2, x3⟩ := id hp
  obtain ⟨⟨y0, y1⟩, y2, y3⟩ := id hx
  obtain ⟨⟨z0, z1⟩, z2, z3⟩ := id hy
  have hl1 := hp.lt
  have hl2 := hx.lt
  have hl3 := hy.lt
  refine (rEnds s l n _).mono ?_
  rintro _ w7 ⟨rfl, hb7⟩
  replace hp := hp.below hb7 hp.lt
  replace hx := hx.below hb7 hx.lt
  replace hy := hy.below hb7 hy.lt
  clear x0 x1 x2 x3 y0 y1 y2 y3 z0 z1 z2 z3
  obtain ⟨⟨x0, x1⟩, x2, x3⟩ := id hp
  obtain ⟨⟨y0, y1⟩, y2, y3⟩ := id hx
  obtain ⟨⟨z0, z1⟩, z2, z3⟩ := id hy
  have hl1 := hp.lt
  have hl2 := hx.lt
  have hl3 := hy.lt
  go_wp2_with fail
  obtain ⟨w8, hk⟩ : ∃ w8, w8 = (w7.setCell ⟨gy, 0, none⟩ (.int .i64 (enS s l n))).setCell ⟨gy, 1, none⟩ (.int .i64 (enL s l n)) := ⟨_, rfl⟩
  rw [← hk]
  obtain ⟨hy', ht⟩ := hy.sets hk
  have hbw8 : Below w.heap.size w w8 := keep_turn ht (by repeat (first | exact Below.refl _ _ | apply keep_alloc | apply keep_drew | apply keep_drewN | refine keep_step (by assumption) ?_ (by rfl) | refine keep_set ?_ _ _ (by first | exact Nat.le_refl _ | (show _ ≤ _; simp; done) | (show _ ≤ _; simp; omega)))) hgyw
  replace hp := hp.turn ht hpy
  replace hx := hx.turn ht hxy
  replace hy := hy'
  clear hk ht hy'
  clear x0 x1 x2 x3 y0 y1 y2 y3 z0 z1 z2 z3
  obtain ⟨⟨x0, x1⟩, x2, x3⟩ := id hp
  obtain ⟨⟨y0, y1⟩, y2, y3⟩ := id hx
  obtain ⟨⟨z0, z1⟩, z2, z3⟩ := id hy
  have hl1 := hp.lt
  have hl2 := hx.lt
  have hl3 := hy.lt
  refine (pStates n t _).mono ?_
  rintro _ w9 ⟨A9, c9, rfl, hi9, hl9, hb9⟩
  replace hp := hp.below hb9 hp.lt
  replace hx := hx.below hb9 hx.lt
  replace hy := hy.below hb9 hy.lt
  clear x0 x1 x2 x3 y0 y1 y2 y3 z0 z1 z2 z3
  obtain ⟨⟨x0, x1⟩, x2, x3⟩ := id hp
  obtain ⟨⟨y0, y1⟩, y2, y3⟩ := id hx
  obtain ⟨⟨z0, z1⟩, z2, z3⟩ := id hy
  have hl1 := hp.lt
  have hl2 := hx.lt
  have hl3 := hy.lt
  go_wp2_with fail
  refine (rStates n t _).mono ?_
  rintro _ w10 ⟨A10, c10, rfl, hi10, hl10, hb10⟩
  replace hp := hp.below hb10 hp.lt
  replace hx := hx.below hb10 hx.lt
  replace hy := hy.below hb10 hy.lt
  clear x0 x1 x2 x3 y0 y1 y2 y3 z0 z1 z2 z3
  obtain ⟨⟨x0, x1⟩, x2, x3⟩ := id hp
  obtain ⟨⟨y0, y1⟩, y2, y3⟩ := id hx
  obtain ⟨⟨z0, z1⟩, z2, z3⟩ := id hy
  have hl1 := hp.lt
  have hl2 := hx.lt
  have hl3 := hy.lt
  go_wp2_with fail
  refine (sameInts_same A9 A10 _ _ c9 c10 _ rfl hl9 (hi9.step (by repeat (first | exact Below.refl _ _ | apply keep_alloc | apply keep_drew | apply keep_drewN | refine keep_step (by assumption) ?_ (by rfl) | refine keep_set ?_ _ _ (by first | exact Nat.le_refl _ | (show _ ≤ _; simp; done) | (show _ ≤ _; simp; omega))))) (hi10.step (by repeat (first | exact Below.refl _ _ | apply keep_alloc | apply keep_drew | apply keep_drewN | refine keep_step (by assumption) ?_ (by rfl) | refine keep_set ?_ _ _ (by first | exact Nat.le_refl _ | (show _ ≤ _; simp; done) | (show _ ≤ _; simp; omega)))))).mono ?_
  rintro _ w11 ⟨rfl, hb11⟩
  go_wp2_with fail
  refine (awake_true _).mono ?_
  rintro _ w12 ⟨rfl, hb12⟩
  go_wp2
  go_ret
  exact ⟨rfl, (by repeat (first | exact Below.refl _ _ | apply keep_alloc | apply keep_drew | apply keep_drewN | refine keep_step (by assumption) ?_ (by rfl) | refine keep_set ?_ _ _ (by first | exact Nat.le_refl _ | (show _ ≤ _; simp; done) | (show _ ≤ _; simp; omega))))⟩
end Go.Proofs.Ytmlalncohkingaa
