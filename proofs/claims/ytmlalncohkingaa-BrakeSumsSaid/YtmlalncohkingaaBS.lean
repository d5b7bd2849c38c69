/- Layer 10: BrakeSums. -/
import Derived.Test.YtmlalncohkingaaBV
import Derived.Test.YtmlalncohkingaaBN
namespace Go.Proofs.Ytmlalncohkingaa
open Go.RowKit
set_option linter.unusedVariables false

theorem runOK {s l n t : Int} (h : chk s l n = 0) (ht : 0 ≤ t ∧ t ≤ 1000) : runE s l n t = 0 ∧ runS s l n t = (it s l t.toNat).1 ∧ runL s l n t = (it s l t.toNat).2 := by
  have h1 : runE s l n t = 0 := by unfold runE; rw [if_pos h, if_neg (by omega)]
  exact ⟨h1, by unfold runS; rw [h1]; rfl, by unfold runL; rw [h1]; rfl⟩

theorem sumFacts {s l m : Int} {p q : Nat} (h : chk s l m = 0) (hp : p < 500) (hq : q < 500) : ∃ sa la sc lc sz : Int,
    runE s l m p = 0 ∧ runS s l m p = sa ∧ runL s l m p = la ∧ runE sa la m q = 0 ∧ runS sa la m q = sc ∧ runL sa la m q = lc ∧
    runE s l m ((p : Int) + (q : Int)) = 0 ∧ runS s l m ((p : Int) + (q : Int)) = sc ∧ runL s l m ((p : Int) + (q : Int)) = lc ∧
    enS s l m = sz ∧ enL s l m = 0 ∧ enK s l m = l ∧ runE s l m l = 0 ∧ runS s l m l = sz ∧ runL s l m l = 0 ∧ 0 ≤ l := by
  have hr := chk_rng h
  have hl0 : 0 ≤ l := by omega
  have hl5 : l ≤ 5 := by omega
  obtain ⟨a1, a2, a3⟩ := runOK (t := p) h (by omega)
  have hv := it_ok h p
  obtain ⟨b1, b2, b3⟩ := runOK (t := q) hv (by omega)
  obtain ⟨c1, c2, c3⟩ := runOK (t := (p : Int) + (q : Int)) h (by omega)
  obtain ⟨d1, d2, d3⟩ := runOK (t := l) h (by omega)
  obtain ⟨e1, e2, e3⟩ := runOK (t := 5) h (by omega)
  obtain ⟨g1, g2⟩ := it_end h
  rw [show ((p : Int) + (q : Int)).toNat = p + q by omega, it_add] at c2 c3
  rw [show (p : Int).toNat = p by omega] at a2 a3
  rw [show (q : Int).toNat = q by omega] at b2 b3
  rw [show (5 : Int).toNat = 5 from rfl, g1] at e2 e3
  have z := g2 l.toNat (Nat.le_refl _)
  refine ⟨_, _, _, _, _, a1, a2, a3, b1, b2, b3, c1, c2, c3, e2, ?_, ?_, d1, d2, ?_, hl0⟩
  · show runL s l m 5 = 0
    rw [e3, z]; omega
  · unfold enK; rw [if_pos h]
  · rw [d3, z]; omega

theorem sums_ok0 {s : Int} {m : Nat} (hs : s = 0 ∨ s = 2) (hm : m < 6) : chk s 0 m = 0 := by unfold chk; rw [if_neg (by omega), if_pos hs, if_pos rfl]
theorem sums_ok1 {s l : Int} {m : Nat} (hs : s = 1 ∨ s = 3) (hm : m < 6) (hl : 1 ≤ l ∧ l ≤ m) : chk s l m = 0 := by unfold chk; rw [if_neg (by omega), if_neg (by omega), if_pos hs, if_pos hl]
theorem sums_bad {s : Int} (hs : s = 1 ∨ s = 3) : chk s 0 0 = 2 := by unfold chk; rw [if_neg (by omega), if_neg (by omega), if_pos hs, if_neg (by omega)]
/-- the second cell stored anew -/
theorem Brk.put1 {w : World} {g : Nat} {s l : Int} (h : Brk w g s l) {y : Int} {w' : World} (e : w' = w.setCell ⟨g, 1, none⟩ (.int .i64 y)) : Brk w' g s y ∧ Turn g w w' := by
  obtain ⟨⟨h0, h1⟩, f0, f1⟩ := h
  rw [e]
  refine ⟨⟨⟨(World.cell?_setCell_other _ _ _ _ (by simp)).trans h0, World.cell?_setCell_same _ _ _ h1⟩, ?_, ?_⟩, by (repeat (first | exact Turn.refl _ _ | apply Turn.set | apply Turn.alloc | apply Turn.drew | apply Turn.drewN | refine Turn.trans ?_ (by assumption) | refine Turn.below ?_ (by assumption) (by rfl) | refine Turn.setNew ?_ _ _ (by first | exact Nat.le_refl _ | (show _ ≤ _; simp; done) | (show _ ≤ _; simp; omega))))⟩
  all_goals (rw [World.frozen?_setCell]; assumption)

set_option maxRecDepth 20000 in
set_option maxHeartbeats 16000000 in
theorem brakeSums_true (t st lf x y : Int) (w : World) (ht64 : In64 t) (hst64 : In64 st) (hlf64 : In64 lf) (hx64 : In64 x) (hy64 : In64 y) :
    Calls Try.prog 8 #[.int .i64 t, .int .i64 st, .int .i64 lf, .int .i64 x, .int .i64 y] w fun e w' => e = .returned (.bool true) ∧ Below w.heap.size w w' := by
  obtain ⟨m, hm'⟩ : ∃ m : Nat, t % 6 = m := ⟨(t % 6).toNat, by omega⟩
  obtain ⟨s, hs'⟩ : ∃ s : Int, st % 4 = s := ⟨_, rfl⟩
  obtain ⟨p, hp'⟩ : ∃ p : Nat, x % 500 = p := ⟨(x % 500).toNat, by omega⟩
  obtain ⟨q, hq'⟩ : ∃ q : Nat, y % 500 = q := ⟨(y % 500).toNat, by omega⟩
  have hm6 : m < 6 := by omega
  have hs4 : 0 ≤ s ∧ s ≤ 3 := by omega
  have hp5 : p < 500 := by omega
  have hq5 : q < 500 := by omega
  have HM := Lib.hid hm'
  have HS := Lib.hid hs'
  have HP := Lib.hid hp'
  have HQ := Lib.hid hq'
  clear hm' hs' hp' hq'
  go_enter Try.func8, Try.ntmps8
  go_wp2_with fail
  refine (mod_any t 6 _ ht64 (by decide)).mono ?_
  rintro _ w0 ⟨rfl, hb0⟩
  rw [if_neg (by decide), HM.out]
  go_wp2_with fail
  refine (mod_any st 4 _ hst64 (by decide)).mono ?_
  rintro _ w1 ⟨rfl, hb1⟩
  rw [if_neg (by decide), HS.out]
  go_wp2_with fail
  refine (at_any s 0 _).mono ?_
  rintro _ w2 ⟨rfl, hb2⟩
  by_cases hms : s = 1 ∨ s = 3
  · by_cases hm0 : m = 0
    · subst hm0
      have BAD := Lib.hid (sums_bad hms)
      have hsb : (s == 1) = true ∨ (s == 1) = false := by cases (s == 1) <;> simp
      go_wp2_with fail
      obtain ⟨w3, hk⟩ : ∃ w3, w3 = (w2).alloc (.cells #[.int .i64 (s), .int .i64 (0)] 23) := ⟨_, rfl⟩
      obtain ⟨ga, hgg⟩ : ∃ ga, ga = (w2).heap.size := ⟨_, rfl⟩
      obtain ⟨kA, hbw3⟩ := new_brk hk
      rw [← hk, ← hgg]
      rw [← hgg] at kA
      have hgaw : w.heap.size ≤ ga := by
        have := (show Below w.heap.size w (w2) from (by repeat (first | exact Below.refl _ _ | apply keep_alloc | apply keep_drew | apply keep_drewN | refine keep_step (by assumption) ?_ (by rfl) | refine keep_set ?_ _ _ (by first | exact Nat.le_refl _ | (show _ ≤ _; simp; done) | (show _ ≤ _; simp; omega))))).size
        omega
      try (have naga : ga < ga := by have := kA.lt; omega)
      try (have nbga : gb < ga := by have := kB.lt; omega)
      try (have ncga : gc < ga := by have := kC.lt; omega)
      clear hk hgg
      try (replace kA := kA.below hbw3 kA.lt)
      try (replace kB := kB.below hbw3 kB.lt)
      try (replace kC := kC.below hbw3 kC.lt)
      try (replace kD := kD.below hbw3 kD.lt)
      try (replace kE := kE.below hbw3 kE.lt)
      try (replace kF := kF.below hbw3 kF.lt)
      try try clear x0 x1 x2 x3
      try clear y0 y1 y2 y3
      try clear z0 z1 z2 z3
      try clear v0 v1 v2 v3
      try clear u0 u1 u2 u3
      try clear t0 t1 t2 t3
      try (obtain ⟨⟨x0, x1⟩, x2, x3⟩ := id kA)
      try (obtain ⟨⟨y0, y1⟩, y2, y3⟩ := id kB)
      try (obtain ⟨⟨z0, z1⟩, z2, z3⟩ := id kC)
      try (obtain ⟨⟨v0, v1⟩, v2, v3⟩ := id kD)
      try (obtain ⟨⟨u0, u1⟩, u2, u3⟩ := id kE)
      try (obtain ⟨⟨t0, t1⟩, t2, t3⟩ := id kF)
      try (have lta := kA.lt)
      try (have ltb := kB.lt)
      try (have ltc := kC.lt)
      try (have ltd := kD.lt)
      try (have lte := kE.lt)
      try (have ltf := kF.lt)
      refine (pchk s 0 0 _).mono ?_
      rintro _ w5 ⟨rfl, hb5⟩
      rw [BAD.out]
      try (replace kA := kA.below hb5 kA.lt)
      try (replace kB := kB.below hb5 kB.lt)
      try (replace kC := kC.below hb5 kC.lt)
      try (replace kD := kD.below hb5 kD.lt)
      try (replace kE := kE.below hb5 kE.lt)
      try (replace kF := kF.below hb5 kF.lt)
      try try clear x0 x1 x2 x3
      try clear y0 y1 y2 y3
      try clear z0 z1 z2 z3
      try clear v0 v1 v2 v3
      try clear u0 u1 u2 u3
      try clear t0 t1 t2 t3
      try (obtain ⟨⟨x0, x1⟩, x2, x3⟩ := id kA)
      try (obtain ⟨⟨y0, y1⟩, y2, y3⟩ := id kB)
      try (obtain ⟨⟨z0, z1⟩, z2, z3⟩ := id kC)
      try (obtain ⟨⟨v0, v1⟩, v2, v3⟩ := id kD)
      try (obtain ⟨⟨u0, u1⟩, u2, u3⟩ := id kE)
      try (obtain ⟨⟨t0, t1⟩, t2, t3⟩ := id kF)
      try (have lta := kA.lt)
      try (have ltb := kB.lt)
      try (have ltc := kC.lt)
      try (have ltd := kD.lt)
      try (have lte := kE.lt)
      try (have ltf := kF.lt)
      go_wp2_with (first | (go_at_call 23; (apply Calls.mono; (focus ((first | (with_reducible exact awake_true) | (apply awake_true <;> first | (with_reducible assumption) | (first | omega | (subst_vars; omega) | (simp only [Bool.not_eq_true', Bool.not_eq_false', beq_iff_eq, beq_eq_false_iff_ne, ne_eq, bne_iff_ne, bne_eq_false_iff_eq, Bool.not_eq_true, Bool.not_eq_false, decide_eq_true_eq, decide_eq_false_iff_not, Bool.and_eq_true, Bool.or_eq_true] at *; first | omega | (subst_vars; omega)) | (simp only [Bool.not_eq_true', Bool.not_eq_false', beq_iff_eq, beq_eq_false_iff_ne, ne_eq, bne_iff_ne, bne_eq_false_iff_eq, Bool.not_eq_true, Bool.not_eq_false, decide_eq_true_eq, decide_eq_false_iff_not, Bool.and_eq_true, Bool.or_eq_true, wrap64] at *; first | omega | (subst_vars; omega))))); done))); rintro e w' ⟨rfl, hb⟩; obtain ⟨hc, hf⟩ := bcell (show Below w.heap.size w w' from (by repeat (first | exact Below.refl _ _ | apply keep_alloc | apply keep_drew | apply keep_drewN | refine keep_step (by assumption) ?_ (by rfl) | refine keep_set ?_ _ _ (by first | exact Nat.le_refl _ | (show _ ≤ _; simp; done) | (show _ ≤ _; simp; omega)))))))
      go_ret
      exact ⟨rfl, (by repeat (first | exact Below.refl _ _ | apply keep_alloc | apply keep_drew | apply keep_drewN | refine keep_step (by assumption) ?_ (by rfl) | refine keep_set ?_ _ _ (by first | exact Nat.le_refl _ | (show _ ≤ _; simp; done) | (show _ ≤ _; simp; omega))))⟩
    · have hpos : 0 < (m : Int) := by omega
      obtain ⟨l, hl'⟩ : ∃ l : Int, lf % (m : Int) = l := ⟨_, rfl⟩
      have hl2 : 0 ≤ l ∧ l < m := by
        have := Int.emod_nonneg lf (b := (m : Int)) (by omega)
        have := Int.emod_lt_of_pos lf hpos
        omega
      have ok := sums_ok1 (l := 1 + l) hms hm6 (by omega)
      have HLF := Lib.hid hl'
      have hm9 : (m : Int) ≤ 9223372036854775807 := by omega
      clear hl' hm0
      obtain ⟨sa, la, sc, lc, sz, f1, f2, f3, f4, f5, f6, f7, f8, f9, f10, f11, f12, f13, f14, f15, hl0⟩ := sumFacts ok hp5 hq5
      have VAL := Lib.hid ok
      have F1 := Lib.hid f1
      have F2 := Lib.hid f2
      have F3 := Lib.hid f3
      have F4 := Lib.hid f4
      have F5 := Lib.hid f5
      have F6 := Lib.hid f6
      have F7 := Lib.hid f7
      have F8 := Lib.hid f8
      have F9 := Lib.hid f9
      have F10 := Lib.hid f10
      have F11 := Lib.hid f11
      have F12 := Lib.hid f12
      have F13 := Lib.hid f13
      have F14 := Lib.hid f14
      have F15 := Lib.hid f15
      clear f1 f2 f3 f4 f5 f6 f7 f8 f9 f10 f11 f12 f13 f14 f15 ok
      rcases hms with rfl | rfl
      · go_wp2_with fail
        obtain ⟨w3, hk⟩ : ∃ w3, w3 = (w2).alloc (.cells #[.int .i64 (1), .int .i64 (0)] 23) := ⟨_, rfl⟩
        obtain ⟨ga, hgg⟩ : ∃ ga, ga = (w2).heap.size := ⟨_, rfl⟩
        obtain ⟨kA, hbw3⟩ := new_brk hk
        rw [← hk, ← hgg]
        rw [← hgg] at kA
        have hgaw : w.heap.size ≤ ga := by
          have := (show Below w.heap.size w (w2) from (by repeat (first | exact Below.refl _ _ | apply keep_alloc | apply keep_drew | apply keep_drewN | refine keep_step (by assumption) ?_ (by rfl) | refine keep_set ?_ _ _ (by first | exact Nat.le_refl _ | (show _ ≤ _; simp; done) | (show _ ≤ _; simp; omega))))).size
          omega
        try (have naga : ga < ga := by have := kA.lt; omega)
        try (have nbga : gb < ga := by have := kB.lt; omega)
        try (have ncga : gc < ga := by have := kC.lt; omega)
        clear hk hgg
        try (replace kA := kA.below hbw3 kA.lt)
        try (replace kB := kB.below hbw3 kB.lt)
        try (replace kC := kC.below hbw3 kC.lt)
        try (replace kD := kD.below hbw3 kD.lt)
        try (replace kE := kE.below hbw3 kE.lt)
        try (replace kF := kF.below hbw3 kF.lt)
        try try clear x0 x1 x2 x3
        try clear y0 y1 y2 y3
        try clear z0 z1 z2 z3
        try clear v0 v1 v2 v3
        try clear u0 u1 u2 u3
        try clear t0 t1 t2 t3
        try (obtain ⟨⟨x0, x1⟩, x2, x3⟩ := id kA)
        try (obtain ⟨⟨y0, y1⟩, y2, y3⟩ := id kB)
        try (obtain ⟨⟨z0, z1⟩, z2, z3⟩ := id kC)
        try (obtain ⟨⟨v0, v1⟩, v2, v3⟩ := id kD)
        try (obtain ⟨⟨u0, u1⟩, u2, u3⟩ := id kE)
        try (obtain ⟨⟨t0, t1⟩, t2, t3⟩ := id kF)
        try (have lta := kA.lt)
        try (have ltb := kB.lt)
        try (have ltc := kC.lt)
        try (have ltd := kD.lt)
        try (have lte := kE.lt)
        try (have ltf := kF.lt)
        refine (mod_any lf m _ hlf64 hm9).mono ?_
        rintro _ w4 ⟨rfl, hb4⟩
        rw [if_neg (by omega), HLF.out]
        try (replace kA := kA.below hb4 kA.lt)
        try (replace kB := kB.below hb4 kB.lt)
        try (replace kC := kC.below hb4 kC.lt)
        try (replace kD := kD.below hb4 kD.lt)
        try (replace kE := kE.below hb4 kE.lt)
        try (replace kF := kF.below hb4 kF.lt)
        try try clear x0 x1 x2 x3
        try clear y0 y1 y2 y3
        try clear z0 z1 z2 z3
        try clear v0 v1 v2 v3
        try clear u0 u1 u2 u3
        try clear t0 t1 t2 t3
        try (obtain ⟨⟨x0, x1⟩, x2, x3⟩ := id kA)
        try (obtain ⟨⟨y0, y1⟩, y2, y3⟩ := id kB)
        try (obtain ⟨⟨z0, z1⟩, z2, z3⟩ := id kC)
        try (obtain ⟨⟨v0, v1⟩, v2, v3⟩ := id kD)
        try (obtain ⟨⟨u0, u1⟩, u2, u3⟩ := id kE)
        try (obtain ⟨⟨t0, t1⟩, t2, t3⟩ := id kF)
        try (have lta := kA.lt)
        try (have ltb := kB.lt)
        try (have ltc := kC.lt)
        try (have ltd := kD.lt)
        try (have lte := kE.lt)
        try (have ltf := kF.lt)
        go_wp2_with fail
        obtain ⟨k9, hk9⟩ : ∃ k9, k9 = w4.setCell ⟨ga, 1, none⟩ (.int .i64 (1 + l)) := ⟨_, rfl⟩
        rw [← hk9]
        obtain ⟨hx', ht⟩ := kA.put1 hk9
        have hbk9 : Below w.heap.size w k9 := keep_turn ht (by repeat (first | exact Below.refl _ _ | apply keep_alloc | apply keep_drew | apply keep_drewN | refine keep_step (by assumption) ?_ (by rfl) | refine keep_set ?_ _ _ (by first | exact Nat.le_refl _ | (show _ ≤ _; simp; done) | (show _ ≤ _; simp; omega)))) (by assumption)
        replace kA := hx'
        clear hk9 ht hx'
        try try clear x0 x1 x2 x3
        try clear y0 y1 y2 y3
        try clear z0 z1 z2 z3
        try clear v0 v1 v2 v3
        try clear u0 u1 u2 u3
        try clear t0 t1 t2 t3
        try (obtain ⟨⟨x0, x1⟩, x2, x3⟩ := id kA)
        try (obtain ⟨⟨y0, y1⟩, y2, y3⟩ := id kB)
        try (obtain ⟨⟨z0, z1⟩, z2, z3⟩ := id kC)
        try (obtain ⟨⟨v0, v1⟩, v2, v3⟩ := id kD)
        try (obtain ⟨⟨u0, u1⟩, u2, u3⟩ := id kE)
        try (obtain ⟨⟨t0, t1⟩, t2, t3⟩ := id kF)
        try (have lta := kA.lt)
        try (have ltb := kB.lt)
        try (have ltc := kC.lt)
        try (have ltd := kD.lt)
        try (have lte := kE.lt)
        try (have ltf := kF.lt)
        refine (pchk (1) (1 + l) (m) _).mono ?_
        rintro _ w5 ⟨rfl, hb5⟩
        rw [VAL.out]
        try (replace kA := kA.below hb5 kA.lt)
        try (replace kB := kB.below hb5 kB.lt)
        try (replace kC := kC.below hb5 kC.lt)
        try (replace kD := kD.below hb5 kD.lt)
        try (replace kE := kE.below hb5 kE.lt)
        try (replace kF := kF.below hb5 kF.lt)
        try try clear x0 x1 x2 x3
        try clear y0 y1 y2 y3
        try clear z0 z1 z2 z3
        try clear v0 v1 v2 v3
        try clear u0 u1 u2 u3
        try clear t0 t1 t2 t3
        try (obtain ⟨⟨x0, x1⟩, x2, x3⟩ := id kA)
        try (obtain ⟨⟨y0, y1⟩, y2, y3⟩ := id kB)
        try (obtain ⟨⟨z0, z1⟩, z2, z3⟩ := id kC)
        try (obtain ⟨⟨v0, v1⟩, v2, v3⟩ := id kD)
        try (obtain ⟨⟨u0, u1⟩, u2, u3⟩ := id kE)
        try (obtain ⟨⟨t0, t1⟩, t2, t3⟩ := id kF)
        try (have lta := kA.lt)
        try (have ltb := kB.lt)
        try (have ltc := kC.lt)
        try (have ltd := kD.lt)
        try (have lte := kE.lt)
        try (have ltf := kF.lt)
        go_wp2_with fail
        refine (mod_any x 500 _ hx64 (by decide)).mono ?_
        rintro _ w6 ⟨rfl, hbw6⟩
        rw [if_neg (by decide), HP.out]
        try (replace kA := kA.below hbw6 kA.lt)
        try (replace kB := kB.below hbw6 kB.lt)
        try (replace kC := kC.below hbw6 kC.lt)
        try (replace kD := kD.below hbw6 kD.lt)
        try (replace kE := kE.below hbw6 kE.lt)
        try (replace kF := kF.below hbw6 kF.lt)
        try try clear x0 x1 x2 x3
        try clear y0 y1 y2 y3
        try clear z0 z1 z2 z3
        try clear v0 v1 v2 v3
        try clear u0 u1 u2 u3
        try clear t0 t1 t2 t3
        try (obtain ⟨⟨x0, x1⟩, x2, x3⟩ := id kA)
        try (obtain ⟨⟨y0, y1⟩, y2, y3⟩ := id kB)
        try (obtain ⟨⟨z0, z1⟩, z2, z3⟩ := id kC)
        try (obtain ⟨⟨v0, v1⟩, v2, v3⟩ := id kD)
        try (obtain ⟨⟨u0, u1⟩, u2, u3⟩ := id kE)
        try (obtain ⟨⟨t0, t1⟩, t2, t3⟩ := id kF)
        try (have lta := kA.lt)
        try (have ltb := kB.lt)
        try (have ltc := kC.lt)
        try (have ltd := kD.lt)
        try (have lte := kE.lt)
        try (have ltf := kF.lt)
        go_wp2_with fail
        refine (mod_any y 500 _ hy64 (by decide)).mono ?_
        rintro _ w7 ⟨rfl, hbw7⟩
        rw [if_neg (by decide), HQ.out]
        try (replace kA := kA.below hbw7 kA.lt)
        try (replace kB := kB.below hbw7 kB.lt)
        try (replace kC := kC.below hbw7 kC.lt)
        try (replace kD := kD.below hbw7 kD.lt)
        try (replace kE := kE.below hbw7 kE.lt)
        try (replace kF := kF.below hbw7 kF.lt)
        try try clear x0 x1 x2 x3
        try clear y0 y1 y2 y3
        try clear z0 z1 z2 z3
        try clear v0 v1 v2 v3
        try clear u0 u1 u2 u3
        try clear t0 t1 t2 t3
        try (obtain ⟨⟨x0, x1⟩, x2, x3⟩ := id kA)
        try (obtain ⟨⟨y0, y1⟩, y2, y3⟩ := id kB)
        try (obtain ⟨⟨z0, z1⟩, z2, z3⟩ := id kC)
        try (obtain ⟨⟨v0, v1⟩, v2, v3⟩ := id kD)
        try (obtain ⟨⟨u0, u1⟩, u2, u3⟩ := id kE)
        try (obtain ⟨⟨t0, t1⟩, t2, t3⟩ := id kF)
        try (have lta := kA.lt)
        try (have ltb := kB.lt)
        try (have ltc := kC.lt)
        try (have ltd := kD.lt)
        try (have lte := kE.lt)
        try (have ltf := kF.lt)
        go_wp2_with fail
        refine (pRun (1) (1 + l) (m) p _).mono ?_
        rintro _ w8 ⟨rfl, hb8⟩
        rw [F1.out, F2.out, F3.out]
        try (replace kA := kA.below hb8 kA.lt)
        try (replace kB := kB.below hb8 kB.lt)
        try (replace kC := kC.below hb8 kC.lt)
        try (replace kD := kD.below hb8 kD.lt)
        try (replace kE := kE.below hb8 kE.lt)
        try (replace kF := kF.below hb8 kF.lt)
        try try clear x0 x1 x2 x3
        try clear y0 y1 y2 y3
        try clear z0 z1 z2 z3
        try clear v0 v1 v2 v3
        try clear u0 u1 u2 u3
        try clear t0 t1 t2 t3
        try (obtain ⟨⟨x0, x1⟩, x2, x3⟩ := id kA)
        try (obtain ⟨⟨y0, y1⟩, y2, y3⟩ := id kB)
        try (obtain ⟨⟨z0, z1⟩, z2, z3⟩ := id kC)
        try (obtain ⟨⟨v0, v1⟩, v2, v3⟩ := id kD)
        try (obtain ⟨⟨u0, u1⟩, u2, u3⟩ := id kE)
        try (obtain ⟨⟨t0, t1⟩, t2, t3⟩ := id kF)
        try (have lta := kA.lt)
        try (have ltb := kB.lt)
        try (have ltc := kC.lt)
        try (have ltd := kD.lt)
        try (have lte := kE.lt)
        try (have ltf := kF.lt)
        go_wp2_with fail
        obtain ⟨w9, hk⟩ : ∃ w9, w9 = (w8).alloc (.cells #[.int .i64 (sa), .int .i64 (la)] 23) := ⟨_, rfl⟩
        obtain ⟨gb, hgg⟩ : ∃ gb, gb = (w8).heap.size := ⟨_, rfl⟩
        obtain ⟨kB, hbw9⟩ := new_brk hk
        rw [← hk, ← hgg]
        rw [← hgg] at kB
        have hgbw : w.heap.size ≤ gb := by
          have := (show Below w.heap.size w (w8) from (by repeat (first | exact Below.refl _ _ | apply keep_alloc | apply keep_drew | apply keep_drewN | refine keep_step (by assumption) ?_ (by rfl) | refine keep_set ?_ _ _ (by first | exact Nat.le_refl _ | (show _ ≤ _; simp; done) | (show _ ≤ _; simp; omega))))).size
          omega
        try (have nagb : ga < gb := by have := kA.lt; omega)
        try (have nbgb : gb < gb := by have := kB.lt; omega)
        try (have ncgb : gc < gb := by have := kC.lt; omega)
        clear hk hgg
        try (replace kA := kA.below hbw9 kA.lt)
        try (replace kB := kB.below hbw9 kB.lt)
        try (replace kC := kC.below hbw9 kC.lt)
        try (replace kD := kD.below hbw9 kD.lt)
        try (replace kE := kE.below hbw9 kE.lt)
        try (replace kF := kF.below hbw9 kF.lt)
        try try clear x0 x1 x2 x3
        try clear y0 y1 y2 y3
        try clear z0 z1 z2 z3
        try clear v0 v1 v2 v3
        try clear u0 u1 u2 u3
        try clear t0 t1 t2 t3
        try (obtain ⟨⟨x0, x1⟩, x2, x3⟩ := id kA)
        try (obtain ⟨⟨y0, y1⟩, y2, y3⟩ := id kB)
        try (obtain ⟨⟨z0, z1⟩, z2, z3⟩ := id kC)
        try (obtain ⟨⟨v0, v1⟩, v2, v3⟩ := id kD)
        try (obtain ⟨⟨u0, u1⟩, u2, u3⟩ := id kE)
        try (obtain ⟨⟨t0, t1⟩, t2, t3⟩ := id kF)
        try (have lta := kA.lt)
        try (have ltb := kB.lt)
        try (have ltc := kC.lt)
        try (have ltd := kD.lt)
        try (have lte := kE.lt)
        try (have ltf := kF.lt)
        refine (pRun sa la (m) q _).mono ?_
        rintro _ w10 ⟨rfl, hb10⟩
        rw [F4.out, F5.out, F6.out]
        try (replace kA := kA.below hb10 kA.lt)
        try (replace kB := kB.below hb10 kB.lt)
        try (replace kC := kC.below hb10 kC.lt)
        try (replace kD := kD.below hb10 kD.lt)
        try (replace kE := kE.below hb10 kE.lt)
        try (replace kF := kF.below hb10 kF.lt)
        try try clear x0 x1 x2 x3
        try clear y0 y1 y2 y3
        try clear z0 z1 z2 z3
        try clear v0 v1 v2 v3
        try clear u0 u1 u2 u3
        try clear t0 t1 t2 t3
        try (obtain ⟨⟨x0, x1⟩, x2, x3⟩ := id kA)
        try (obtain ⟨⟨y0, y1⟩, y2, y3⟩ := id kB)
        try (obtain ⟨⟨z0, z1⟩, z2, z3⟩ := id kC)
        try (obtain ⟨⟨v0, v1⟩, v2, v3⟩ := id kD)
        try (obtain ⟨⟨u0, u1⟩, u2, u3⟩ := id kE)
        try (obtain ⟨⟨t0, t1⟩, t2, t3⟩ := id kF)
        try (have lta := kA.lt)
        try (have ltb := kB.lt)
        try (have ltc := kC.lt)
        try (have ltd := kD.lt)
        try (have lte := kE.lt)
        try (have ltf := kF.lt)
        go_wp2_with fail
        obtain ⟨w11, hk⟩ : ∃ w11, w11 = (w10).alloc (.cells #[.int .i64 (sc), .int .i64 (lc)] 23) := ⟨_, rfl⟩
        obtain ⟨gc, hgg⟩ : ∃ gc, gc = (w10).heap.size := ⟨_, rfl⟩
        obtain ⟨kC, hbw11⟩ := new_brk hk
        rw [← hk, ← hgg]
        rw [← hgg] at kC
        have hgcw : w.heap.size ≤ gc := by
          have := (show Below w.heap.size w (w10) from (by repeat (first | exact Below.refl _ _ | apply keep_alloc | apply keep_drew | apply keep_drewN | refine keep_step (by assumption) ?_ (by rfl) | refine keep_set ?_ _ _ (by first | exact Nat.le_refl _ | (show _ ≤ _; simp; done) | (show _ ≤ _; simp; omega))))).size
          omega
        try (have nagc : ga < gc := by have := kA.lt; omega)
        try (have nbgc : gb < gc := by have := kB.lt; omega)
        try (have ncgc : gc < gc := by have := kC.lt; omega)
        clear hk hgg
        try (replace kA := kA.below hbw11 kA.lt)
        try (replace kB := kB.below hbw11 kB.lt)
        try (replace kC := kC.below hbw11 kC.lt)
        try (replace kD := kD.below hbw11 kD.lt)
        try (replace kE := kE.below hbw11 kE.lt)
        try (replace kF := kF.below hbw11 kF.lt)
        try try clear x0 x1 x2 x3
        try clear y0 y1 y2 y3
        try clear z0 z1 z2 z3
        try clear v0 v1 v2 v3
        try clear u0 u1 u2 u3
        try clear t0 t1 t2 t3
        try (obtain ⟨⟨x0, x1⟩, x2, x3⟩ := id kA)
        try (obtain ⟨⟨y0, y1⟩, y2, y3⟩ := id kB)
        try (obtain ⟨⟨z0, z1⟩, z2, z3⟩ := id kC)
        try (obtain ⟨⟨v0, v1⟩, v2, v3⟩ := id kD)
        try (obtain ⟨⟨u0, u1⟩, u2, u3⟩ := id kE)
        try (obtain ⟨⟨t0, t1⟩, t2, t3⟩ := id kF)
        try (have lta := kA.lt)
        try (have ltb := kB.lt)
        try (have ltc := kC.lt)
        try (have ltd := kD.lt)
        try (have lte := kE.lt)
        try (have ltf := kF.lt)
        refine (pRun (1) (1 + l) (m) ((p : Int) + (q : Int)) _).mono ?_
        rintro _ w12 ⟨rfl, hb12⟩
        rw [F7.out, F8.out, F9.out]
        try (replace kA := kA.below hb12 kA.lt)
        try (replace kB := kB.below hb12 kB.lt)
        try (replace kC := kC.below hb12 kC.lt)
        try (replace kD := kD.below hb12 kD.lt)
        try (replace kE := kE.below hb12 kE.lt)
        try (replace kF := kF.below hb12 kF.lt)
        try try clear x0 x1 x2 x3
        try clear y0 y1 y2 y3
        try clear z0 z1 z2 z3
        try clear v0 v1 v2 v3
        try clear u0 u1 u2 u3
        try clear t0 t1 t2 t3
        try (obtain ⟨⟨x0, x1⟩, x2, x3⟩ := id kA)
        try (obtain ⟨⟨y0, y1⟩, y2, y3⟩ := id kB)
        try (obtain ⟨⟨z0, z1⟩, z2, z3⟩ := id kC)
        try (obtain ⟨⟨v0, v1⟩, v2, v3⟩ := id kD)
        try (obtain ⟨⟨u0, u1⟩, u2, u3⟩ := id kE)
        try (obtain ⟨⟨t0, t1⟩, t2, t3⟩ := id kF)
        try (have lta := kA.lt)
        try (have ltb := kB.lt)
        try (have ltc := kC.lt)
        try (have ltd := kD.lt)
        try (have lte := kE.lt)
        try (have ltf := kF.lt)
        go_wp2_with fail
        obtain ⟨w13, hk⟩ : ∃ w13, w13 = (w12).alloc (.cells #[.int .i64 (sc), .int .i64 (lc)] 23) := ⟨_, rfl⟩
        obtain ⟨gd, hgg⟩ : ∃ gd, gd = (w12).heap.size := ⟨_, rfl⟩
        obtain ⟨kD, hbw13⟩ := new_brk hk
        rw [← hk, ← hgg]
        rw [← hgg] at kD
        have hgdw : w.heap.size ≤ gd := by
          have := (show Below w.heap.size w (w12) from (by repeat (first | exact Below.refl _ _ | apply keep_alloc | apply keep_drew | apply keep_drewN | refine keep_step (by assumption) ?_ (by rfl) | refine keep_set ?_ _ _ (by first | exact Nat.le_refl _ | (show _ ≤ _; simp; done) | (show _ ≤ _; simp; omega))))).size
          omega
        try (have nagd : ga < gd := by have := kA.lt; omega)
        try (have nbgd : gb < gd := by have := kB.lt; omega)
        try (have ncgd : gc < gd := by have := kC.lt; omega)
        clear hk hgg
        try (replace kA := kA.below hbw13 kA.lt)
        try (replace kB := kB.below hbw13 kB.lt)
        try (replace kC := kC.below hbw13 kC.lt)
        try (replace kD := kD.below hbw13 kD.lt)
        try (replace kE := kE.below hbw13 kE.lt)
        try (replace kF := kF.below hbw13 kF.lt)
        try try clear x0 x1 x2 x3
        try clear y0 y1 y2 y3
        try clear z0 z1 z2 z3
        try clear v0 v1 v2 v3
        try clear u0 u1 u2 u3
        try clear t0 t1 t2 t3
        try (obtain ⟨⟨x0, x1⟩, x2, x3⟩ := id kA)
        try (obtain ⟨⟨y0, y1⟩, y2, y3⟩ := id kB)
        try (obtain ⟨⟨z0, z1⟩, z2, z3⟩ := id kC)
        try (obtain ⟨⟨v0, v1⟩, v2, v3⟩ := id kD)
        try (obtain ⟨⟨u0, u1⟩, u2, u3⟩ := id kE)
        try (obtain ⟨⟨t0, t1⟩, t2, t3⟩ := id kF)
        try (have lta := kA.lt)
        try (have ltb := kB.lt)
        try (have ltc := kC.lt)
        try (have ltd := kD.lt)
        try (have lte := kE.lt)
        try (have ltf := kF.lt)
        refine (pEnds (1) (1 + l) (m) _).mono ?_
        rintro _ w14 ⟨rfl, hb14⟩
        rw [F10.out, F11.out, F12.out, VAL.out]
        try (replace kA := kA.below hb14 kA.lt)
        try (replace kB := kB.below hb14 kB.lt)
        try (replace kC := kC.below hb14 kC.lt)
        try (replace kD := kD.below hb14 kD.lt)
        try (replace kE := kE.below hb14 kE.lt)
        try (replace kF := kF.below hb14 kF.lt)
        try try clear x0 x1 x2 x3
        try clear y0 y1 y2 y3
        try clear z0 z1 z2 z3
        try clear v0 v1 v2 v3
        try clear u0 u1 u2 u3
        try clear t0 t1 t2 t3
        try (obtain ⟨⟨x0, x1⟩, x2, x3⟩ := id kA)
        try (obtain ⟨⟨y0, y1⟩, y2, y3⟩ := id kB)
        try (obtain ⟨⟨z0, z1⟩, z2, z3⟩ := id kC)
        try (obtain ⟨⟨v0, v1⟩, v2, v3⟩ := id kD)
        try (obtain ⟨⟨u0, u1⟩, u2, u3⟩ := id kE)
        try (obtain ⟨⟨t0, t1⟩, t2, t3⟩ := id kF)
        try (have lta := kA.lt)
        try (have ltb := kB.lt)
        try (have ltc := kC.lt)
        try (have ltd := kD.lt)
        try (have lte := kE.lt)
        try (have ltf := kF.lt)
        go_wp2_with fail
        obtain ⟨w15, hk⟩ : ∃ w15, w15 = (w14).alloc (.cells #[.int .i64 (sz), .int .i64 (0)] 23) := ⟨_, rfl⟩
        obtain ⟨ge, hgg⟩ : ∃ ge, ge = (w14).heap.size := ⟨_, rfl⟩
        obtain ⟨kE, hbw15⟩ := new_brk hk
        rw [← hk, ← hgg]
        rw [← hgg] at kE
        have hgew : w.heap.size ≤ ge := by
          have := (show Below w.heap.size w (w14) from (by repeat (first | exact Below.refl _ _ | apply keep_alloc | apply keep_drew | apply keep_drewN | refine keep_step (by assumption) ?_ (by rfl) | refine keep_set ?_ _ _ (by first | exact Nat.le_refl _ | (show _ ≤ _; simp; done) | (show _ ≤ _; simp; omega))))).size
          omega
        try (have nage : ga < ge := by have := kA.lt; omega)
        try (have nbge : gb < ge := by have := kB.lt; omega)
        try (have ncge : gc < ge := by have := kC.lt; omega)
        clear hk hgg
        try (replace kA := kA.below hbw15 kA.lt)
        try (replace kB := kB.below hbw15 kB.lt)
        try (replace kC := kC.below hbw15 kC.lt)
        try (replace kD := kD.below hbw15 kD.lt)
        try (replace kE := kE.below hbw15 kE.lt)
        try (replace kF := kF.below hbw15 kF.lt)
        try try clear x0 x1 x2 x3
        try clear y0 y1 y2 y3
        try clear z0 z1 z2 z3
        try clear v0 v1 v2 v3
        try clear u0 u1 u2 u3
        try clear t0 t1 t2 t3
        try (obtain ⟨⟨x0, x1⟩, x2, x3⟩ := id kA)
        try (obtain ⟨⟨y0, y1⟩, y2, y3⟩ := id kB)
        try (obtain ⟨⟨z0, z1⟩, z2, z3⟩ := id kC)
        try (obtain ⟨⟨v0, v1⟩, v2, v3⟩ := id kD)
        try (obtain ⟨⟨u0, u1⟩, u2, u3⟩ := id kE)
        try (obtain ⟨⟨t0, t1⟩, t2, t3⟩ := id kF)
        try (have lta := kA.lt)
        try (have ltb := kB.lt)
        try (have ltc := kC.lt)
        try (have ltd := kD.lt)
        try (have lte := kE.lt)
        try (have ltf := kF.lt)
        refine (pRun (1) (1 + l) (m) (1 + l) _).mono ?_
        rintro _ w16 ⟨rfl, hb16⟩
        rw [F13.out, F14.out, F15.out]
        try (replace kA := kA.below hb16 kA.lt)
        try (replace kB := kB.below hb16 kB.lt)
        try (replace kC := kC.below hb16 kC.lt)
        try (replace kD := kD.below hb16 kD.lt)
        try (replace kE := kE.below hb16 kE.lt)
        try (replace kF := kF.below hb16 kF.lt)
        try try clear x0 x1 x2 x3
        try clear y0 y1 y2 y3
        try clear z0 z1 z2 z3
        try clear v0 v1 v2 v3
        try clear u0 u1 u2 u3
        try clear t0 t1 t2 t3
        try (obtain ⟨⟨x0, x1⟩, x2, x3⟩ := id kA)
        try (obtain ⟨⟨y0, y1⟩, y2, y3⟩ := id kB)
        try (obtain ⟨⟨z0, z1⟩, z2, z3⟩ := id kC)
        try (obtain ⟨⟨v0, v1⟩, v2, v3⟩ := id kD)
        try (obtain ⟨⟨u0, u1⟩, u2, u3⟩ := id kE)
        try (obtain ⟨⟨t0, t1⟩, t2, t3⟩ := id kF)
        try (have lta := kA.lt)
        try (have ltb := kB.lt)
        try (have ltc := kC.lt)
        try (have ltd := kD.lt)
        try (have lte := kE.lt)
        try (have ltf := kF.lt)
        go_wp2_with fail
        obtain ⟨w17, hk⟩ : ∃ w17, w17 = (w16).alloc (.cells #[.int .i64 (sz), .int .i64 (0)] 23) := ⟨_, rfl⟩
        obtain ⟨gf, hgg⟩ : ∃ gf, gf = (w16).heap.size := ⟨_, rfl⟩
        obtain ⟨kF, hbw17⟩ := new_brk hk
        rw [← hk, ← hgg]
        rw [← hgg] at kF
        have hgfw : w.heap.size ≤ gf := by
          have := (show Below w.heap.size w (w16) from (by repeat (first | exact Below.refl _ _ | apply keep_alloc | apply keep_drew | apply keep_drewN | refine keep_step (by assumption) ?_ (by rfl) | refine keep_set ?_ _ _ (by first | exact Nat.le_refl _ | (show _ ≤ _; simp; done) | (show _ ≤ _; simp; omega))))).size
          omega
        try (have nagf : ga < gf := by have := kA.lt; omega)
        try (have nbgf : gb < gf := by have := kB.lt; omega)
        try (have ncgf : gc < gf := by have := kC.lt; omega)
        clear hk hgg
        try (replace kA := kA.below hbw17 kA.lt)
        try (replace kB := kB.below hbw17 kB.lt)
        try (replace kC := kC.below hbw17 kC.lt)
        try (replace kD := kD.below hbw17 kD.lt)
        try (replace kE := kE.below hbw17 kE.lt)
        try (replace kF := kF.below hbw17 kF.lt)
        try try clear x0 x1 x2 x3
        try clear y0 y1 y2 y3
        try clear z0 z1 z2 z3
        try clear v0 v1 v2 v3
        try clear u0 u1 u2 u3
        try clear t0 t1 t2 t3
        try (obtain ⟨⟨x0, x1⟩, x2, x3⟩ := id kA)
        try (obtain ⟨⟨y0, y1⟩, y2, y3⟩ := id kB)
        try (obtain ⟨⟨z0, z1⟩, z2, z3⟩ := id kC)
        try (obtain ⟨⟨v0, v1⟩, v2, v3⟩ := id kD)
        try (obtain ⟨⟨u0, u1⟩, u2, u3⟩ := id kE)
        try (obtain ⟨⟨t0, t1⟩, t2, t3⟩ := id kF)
        try (have lta := kA.lt)
        try (have ltb := kB.lt)
        try (have ltc := kC.lt)
        try (have ltd := kD.lt)
        try (have lte := kE.lt)
        try (have ltf := kF.lt)
        go_wp2_with (first | (go_at_call 23; (apply Calls.mono; (focus ((first | (with_reducible exact awake_true) | (apply awake_true <;> first | (with_reducible assumption) | (first | omega | (subst_vars; omega) | (simp only [Bool.not_eq_true', Bool.not_eq_false', beq_iff_eq, beq_eq_false_iff_ne, ne_eq, bne_iff_ne, bne_eq_false_iff_eq, Bool.not_eq_true, Bool.not_eq_false, decide_eq_true_eq, decide_eq_false_iff_not, Bool.and_eq_true, Bool.or_eq_true] at *; first | omega | (subst_vars; omega)) | (simp only [Bool.not_eq_true', Bool.not_eq_false', beq_iff_eq, beq_eq_false_iff_ne, ne_eq, bne_iff_ne, bne_eq_false_iff_eq, Bool.not_eq_true, Bool.not_eq_false, decide_eq_true_eq, decide_eq_false_iff_not, Bool.and_eq_true, Bool.or_eq_true, wrap64] at *; first | omega | (subst_vars; omega))))); done))); rintro e w' ⟨rfl, hb⟩; obtain ⟨hc, hf⟩ := bcell (show Below w.heap.size w w' from (by repeat (first | exact Below.refl _ _ | apply keep_alloc | apply keep_drew | apply keep_drewN | refine keep_step (by assumption) ?_ (by rfl) | refine keep_set ?_ _ _ (by first | exact Nat.le_refl _ | (show _ ≤ _; simp; done) | (show _ ≤ _; simp; omega)))))))
        go_ret
        exact ⟨rfl, (by repeat (first | exact Below.refl _ _ | apply keep_alloc | apply keep_drew | apply keep_drewN | refine keep_step (by assumption) ?_ (by rfl) | refine keep_set ?_ _ _ (by first | exact Nat.le_refl _ | (show _ ≤ _; simp; done) | (show _ ≤ _; simp; omega))))⟩
      · go_wp2_with fail
        obtain ⟨w3, hk⟩ : ∃ w3, w3 = (w2).alloc (.cells #[.int .i64 (3), .int .i64 (0)] 23) := ⟨_, rfl⟩
        obtain ⟨ga, hgg⟩ : ∃ ga, ga = (w2).heap.size := ⟨_, rfl⟩
        obtain ⟨kA, hbw3⟩ := new_brk hk
        rw [← hk, ← hgg]
        rw [← hgg] at kA
        have hgaw : w.heap.size ≤ ga := by
          have := (show Below w.heap.size w (w2) from (by repeat (first | exact Below.refl _ _ | apply keep_alloc | apply keep_drew | apply keep_drewN | refine keep_step (by assumption) ?_ (by rfl) | refine keep_set ?_ _ _ (by first | exact Nat.le_refl _ | (show _ ≤ _; simp; done) | (show _ ≤ _; simp; omega))))).size
          omega
        try (have naga : ga < ga := by have := kA.lt; omega)
        try (have nbga : gb < ga := by have := kB.lt; omega)
        try (have ncga : gc < ga := by have := kC.lt; omega)
        clear hk hgg
        try (replace kA := kA.below hbw3 kA.lt)
        try (replace kB := kB.below hbw3 kB.lt)
        try (replace kC := kC.below hbw3 kC.lt)
        try (replace kD := kD.below hbw3 kD.lt)
        try (replace kE := kE.below hbw3 kE.lt)
        try (replace kF := kF.below hbw3 kF.lt)
        try try clear x0 x1 x2 x3
        try clear y0 y1 y2 y3
        try clear z0 z1 z2 z3
        try clear v0 v1 v2 v3
        try clear u0 u1 u2 u3
        try clear t0 t1 t2 t3
        try (obtain ⟨⟨x0, x1⟩, x2, x3⟩ := id kA)
        try (obtain ⟨⟨y0, y1⟩, y2, y3⟩ := id kB)
        try (obtain ⟨⟨z0, z1⟩, z2, z3⟩ := id kC)
        try (obtain ⟨⟨v0, v1⟩, v2, v3⟩ := id kD)
        try (obtain ⟨⟨u0, u1⟩, u2, u3⟩ := id kE)
        try (obtain ⟨⟨t0, t1⟩, t2, t3⟩ := id kF)
        try (have lta := kA.lt)
        try (have ltb := kB.lt)
        try (have ltc := kC.lt)
        try (have ltd := kD.lt)
        try (have lte := kE.lt)
        try (have ltf := kF.lt)
        refine (mod_any lf m _ hlf64 hm9).mono ?_
        rintro _ w4 ⟨rfl, hb4⟩
        rw [if_neg (by omega), HLF.out]
        try (replace kA := kA.below hb4 kA.lt)
        try (replace kB := kB.below hb4 kB.lt)
        try (replace kC := kC.below hb4 kC.lt)
        try (replace kD := kD.below hb4 kD.lt)
        try (replace kE := kE.below hb4 kE.lt)
        try (replace kF := kF.below hb4 kF.lt)
        try try clear x0 x1 x2 x3
        try clear y0 y1 y2 y3
        try clear z0 z1 z2 z3
        try clear v0 v1 v2 v3
        try clear u0 u1 u2 u3
        try clear t0 t1 t2 t3
        try (obtain ⟨⟨x0, x1⟩, x2, x3⟩ := id kA)
        try (obtain ⟨⟨y0, y1⟩, y2, y3⟩ := id kB)
        try (obtain ⟨⟨z0, z1⟩, z2, z3⟩ := id kC)
        try (obtain ⟨⟨v0, v1⟩, v2, v3⟩ := id kD)
        try (obtain ⟨⟨u0, u1⟩, u2, u3⟩ := id kE)
        try (obtain ⟨⟨t0, t1⟩, t2, t3⟩ := id kF)
        try (have lta := kA.lt)
        try (have ltb := kB.lt)
        try (have ltc := kC.lt)
        try (have ltd := kD.lt)
        try (have lte := kE.lt)
        try (have ltf := kF.lt)
        go_wp2_with fail
        obtain ⟨k9, hk9⟩ : ∃ k9, k9 = w4.setCell ⟨ga, 1, none⟩ (.int .i64 (1 + l)) := ⟨_, rfl⟩
        rw [← hk9]
        obtain ⟨hx', ht⟩ := kA.put1 hk9
        have hbk9 : Below w.heap.size w k9 := keep_turn ht (by repeat (first | exact Below.refl _ _ | apply keep_alloc | apply keep_drew | apply keep_drewN | refine keep_step (by assumption) ?_ (by rfl) | refine keep_set ?_ _ _ (by first | exact Nat.le_refl _ | (show _ ≤ _; simp; done) | (show _ ≤ _; simp; omega)))) (by assumption)
        replace kA := hx'
        clear hk9 ht hx'
        try try clear x0 x1 x2 x3
        try clear y0 y1 y2 y3
        try clear z0 z1 z2 z3
        try clear v0 v1 v2 v3
        try clear u0 u1 u2 u3
        try clear t0 t1 t2 t3
        try (obtain ⟨⟨x0, x1⟩, x2, x3⟩ := id kA)
        try (obtain ⟨⟨y0, y1⟩, y2, y3⟩ := id kB)
        try (obtain ⟨⟨z0, z1⟩, z2, z3⟩ := id kC)
        try (obtain ⟨⟨v0, v1⟩, v2, v3⟩ := id kD)
        try (obtain ⟨⟨u0, u1⟩, u2, u3⟩ := id kE)
        try (obtain ⟨⟨t0, t1⟩, t2, t3⟩ := id kF)
        try (have lta := kA.lt)
        try (have ltb := kB.lt)
        try (have ltc := kC.lt)
        try (have ltd := kD.lt)
        try (have lte := kE.lt)
        try (have ltf := kF.lt)
        refine (pchk (3) (1 + l) (m) _).mono ?_
        rintro _ w5 ⟨rfl, hb5⟩
        rw [VAL.out]
        try (replace kA := kA.below hb5 kA.lt)
        try (replace kB := kB.below hb5 kB.lt)
        try (replace kC := kC.below hb5 kC.lt)
        try (replace kD := kD.below hb5 kD.lt)
        try (replace kE := kE.below hb5 kE.lt)
        try (replace kF := kF.below hb5 kF.lt)
        try try clear x0 x1 x2 x3
        try clear y0 y1 y2 y3
        try clear z0 z1 z2 z3
        try clear v0 v1 v2 v3
        try clear u0 u1 u2 u3
        try clear t0 t1 t2 t3
        try (obtain ⟨⟨x0, x1⟩, x2, x3⟩ := id kA)
        try (obtain ⟨⟨y0, y1⟩, y2, y3⟩ := id kB)
        try (obtain ⟨⟨z0, z1⟩, z2, z3⟩ := id kC)
        try (obtain ⟨⟨v0, v1⟩, v2, v3⟩ := id kD)
        try (obtain ⟨⟨u0, u1⟩, u2, u3⟩ := id kE)
        try (obtain ⟨⟨t0, t1⟩, t2, t3⟩ := id kF)
        try (have lta := kA.lt)
        try (have ltb := kB.lt)
        try (have ltc := kC.lt)
        try (have ltd := kD.lt)
        try (have lte := kE.lt)
        try (have ltf := kF.lt)
        go_wp2_with fail
        refine (mod_any x 500 _ hx64 (by decide)).mono ?_
        rintro _ w6 ⟨rfl, hbw6⟩
        rw [if_neg (by decide), HP.out]
        try (replace kA := kA.below hbw6 kA.lt)
        try (replace kB := kB.below hbw6 kB.lt)
        try (replace kC := kC.below hbw6 kC.lt)
        try (replace kD := kD.below hbw6 kD.lt)
        try (replace kE := kE.below hbw6 kE.lt)
        try (replace kF := kF.below hbw6 kF.lt)
        try try clear x0 x1 x2 x3
        try clear y0 y1 y2 y3
        try clear z0 z1 z2 z3
        try clear v0 v1 v2 v3
        try clear u0 u1 u2 u3
        try clear t0 t1 t2 t3
        try (obtain ⟨⟨x0, x1⟩, x2, x3⟩ := id kA)
        try (obtain ⟨⟨y0, y1⟩, y2, y3⟩ := id kB)
        try (obtain ⟨⟨z0, z1⟩, z2, z3⟩ := id kC)
        try (obtain ⟨⟨v0, v1⟩, v2, v3⟩ := id kD)
        try (obtain ⟨⟨u0, u1⟩, u2, u3⟩ := id kE)
        try (obtain ⟨⟨t0, t1⟩, t2, t3⟩ := id kF)
        try (have lta := kA.lt)
        try (have ltb := kB.lt)
        try (have ltc := kC.lt)
        try (have ltd := kD.lt)
        try (have lte := kE.lt)
        try (have ltf := kF.lt)
        go_wp2_with fail
        refine (mod_any y 500 _ hy64 (by decide)).mono ?_
        rintro _ w7 ⟨rfl, hbw7⟩
        rw [if_neg (by decide), HQ.out]
        try (replace kA := kA.below hbw7 kA.lt)
        try (replace kB := kB.below hbw7 kB.lt)
        try (replace kC := kC.below hbw7 kC.lt)
        try (replace kD := kD.below hbw7 kD.lt)
        try (replace kE := kE.below hbw7 kE.lt)
        try (replace kF := kF.below hbw7 kF.lt)
        try try clear x0 x1 x2 x3
        try clear y0 y1 y2 y3
        try clear z0 z1 z2 z3
        try clear v0 v1 v2 v3
        try clear u0 u1 u2 u3
        try clear t0 t1 t2 t3
        try (obtain ⟨⟨x0, x1⟩, x2, x3⟩ := id kA)
        try (obtain ⟨⟨y0, y1⟩, y2, y3⟩ := id kB)
        try (obtain ⟨⟨z0, z1⟩, z2, z3⟩ := id kC)
        try (obtain ⟨⟨v0, v1⟩, v2, v3⟩ := id kD)
        try (obtain ⟨⟨u0, u1⟩, u2, u3⟩ := id kE)
        try (obtain ⟨⟨t0, t1⟩, t2, t3⟩ := id kF)
        try (have lta := kA.lt)
        try (have ltb := kB.lt)
        try (have ltc := kC.lt)
        try (have ltd := kD.lt)
        try (have lte := kE.lt)
        try (have ltf := kF.lt)
        go_wp2_with fail
        refine (pRun (3) (1 + l) (m) p _).mono ?_
        rintro _ w8 ⟨rfl, hb8⟩
        rw [F1.out, F2.out, F3.out]
        try (replace kA := kA.below hb8 kA.lt)
        try (replace kB := kB.below hb8 kB.lt)
        try (replace kC := kC.below hb8 kC.lt)
        try (replace kD := kD.below hb8 kD.lt)
        try (replace kE := kE.below hb8 kE.lt)
        try (replace kF := kF.below hb8 kF.lt)
        try try clear x0 x1 x2 x3
        try clear y0 y1 y2 y3
        try clear z0 z1 z2 z3
        try clear v0 v1 v2 v3
        try clear u0 u1 u2 u3
        try clear t0 t1 t2 t3
        try (obtain ⟨⟨x0, x1⟩, x2, x3⟩ := id kA)
        try (obtain ⟨⟨y0, y1⟩, y2, y3⟩ := id kB)
        try (obtain ⟨⟨z0, z1⟩, z2, z3⟩ := id kC)
        try (obtain ⟨⟨v0, v1⟩, v2, v3⟩ := id kD)
        try (obtain ⟨⟨u0, u1⟩, u2, u3⟩ := id kE)
        try (obtain ⟨⟨t0, t1⟩, t2, t3⟩ := id kF)
        try (have lta := kA.lt)
        try (have ltb := kB.lt)
        try (have ltc := kC.lt)
        try (have ltd := kD.lt)
        try (have lte := kE.lt)
        try (have ltf := kF.lt)
        go_wp2_with fail
        obtain ⟨w9, hk⟩ : ∃ w9, w9 = (w8).alloc (.cells #[.int .i64 (sa), .int .i64 (la)] 23) := ⟨_, rfl⟩
        obtain ⟨gb, hgg⟩ : ∃ gb, gb = (w8).heap.size := ⟨_, rfl⟩
        obtain ⟨kB, hbw9⟩ := new_brk hk
        rw [← hk, ← hgg]
        rw [← hgg] at kB
        have hgbw : w.heap.size ≤ gb := by
          have := (show Below w.heap.size w (w8) from (by repeat (first | exact Below.refl _ _ | apply keep_alloc | apply keep_drew | apply keep_drewN | refine keep_step (by assumption) ?_ (by rfl) | refine keep_set ?_ _ _ (by first | exact Nat.le_refl _ | (show _ ≤ _; simp; done) | (show _ ≤ _; simp; omega))))).size
          omega
        try (have nagb : ga < gb := by have := kA.lt; omega)
        try (have nbgb : gb < gb := by have := kB.lt; omega)
        try (have ncgb : gc < gb := by have := kC.lt; omega)
        clear hk hgg
        try (replace kA := kA.below hbw9 kA.lt)
        try (replace kB := kB.below hbw9 kB.lt)
        try (replace kC := kC.below hbw9 kC.lt)
        try (replace kD := kD.below hbw9 kD.lt)
        try (replace kE := kE.below hbw9 kE.lt)
        try (replace kF := kF.below hbw9 kF.lt)
        try try clear x0 x1 x2 x3
        try clear y0 y1 y2 y3
        try clear z0 z1 z2 z3
        try clear v0 v1 v2 v3
        try clear u0 u1 u2 u3
        try clear t0 t1 t2 t3
        try (obtain ⟨⟨x0, x1⟩, x2, x3⟩ := id kA)
        try (obtain ⟨⟨y0, y1⟩, y2, y3⟩ := id kB)
        try (obtain ⟨⟨z0, z1⟩, z2, z3⟩ := id kC)
        try (obtain ⟨⟨v0, v1⟩, v2, v3⟩ := id kD)
        try (obtain ⟨⟨u0, u1⟩, u2, u3⟩ := id kE)
        try (obtain ⟨⟨t0, t1⟩, t2, t3⟩ := id kF)
        try (have lta := kA.lt)
        try (have ltb := kB.lt)
        try (have ltc := kC.lt)
        try (have ltd := kD.lt)
        try (have lte := kE.lt)
        try (have ltf := kF.lt)
        refine (pRun sa la (m) q _).mono ?_
        rintro _ w10 ⟨rfl, hb10⟩
        rw [F4.out, F5.out, F6.out]
        try (replace kA := kA.below hb10 kA.lt)
        try (replace kB := kB.below hb10 kB.lt)
        try (replace kC := kC.below hb10 kC.lt)
        try (replace kD := kD.below hb10 kD.lt)
        try (replace kE := kE.below hb10 kE.lt)
        try (replace kF := kF.below hb10 kF.lt)
        try try clear x0 x1 x2 x3
        try clear y0 y1 y2 y3
        try clear z0 z1 z2 z3
        try clear v0 v1 v2 v3
        try clear u0 u1 u2 u3
        try clear t0 t1 t2 t3
        try (obtain ⟨⟨x0, x1⟩, x2, x3⟩ := id kA)
        try (obtain ⟨⟨y0, y1⟩, y2, y3⟩ := id kB)
        try (obtain ⟨⟨z0, z1⟩, z2, z3⟩ := id kC)
        try (obtain ⟨⟨v0, v1⟩, v2, v3⟩ := id kD)
        try (obtain ⟨⟨u0, u1⟩, u2, u3⟩ := id kE)
        try (obtain ⟨⟨t0, t1⟩, t2, t3⟩ := id kF)
        try (have lta := kA.lt)
        try (have ltb := kB.lt)
        try (have ltc := kC.lt)
        try (have ltd := kD.lt)
        try (have lte := kE.lt)
        try (have ltf := kF.lt)
        go_wp2_with fail
        obtain ⟨w11, hk⟩ : ∃ w11, w11 = (w10).alloc (.cells #[.int .i64 (sc), .int .i64 (lc)] 23) := ⟨_, rfl⟩
        obtain ⟨gc, hgg⟩ : ∃ gc, gc = (w10).heap.size := ⟨_, rfl⟩
        obtain ⟨kC, hbw11⟩ := new_brk hk
        rw [← hk, ← hgg]
        rw [← hgg] at kC
        have hgcw : w.heap.size ≤ gc := by
          have := (show Below w.heap.size w (w10) from (by repeat (first | exact Below.refl _ _ | apply keep_alloc | apply keep_drew | apply keep_drewN | refine keep_step (by assumption) ?_ (by rfl) | refine keep_set ?_ _ _ (by first | exact Nat.le_refl _ | (show _ ≤ _; simp; done) | (show _ ≤ _; simp; omega))))).size
          omega
        try (have nagc : ga < gc := by have := kA.lt; omega)
        try (have nbgc : gb < gc := by have := kB.lt; omega)
        try (have ncgc : gc < gc := by have := kC.lt; omega)
        clear hk hgg
        try (replace kA := kA.below hbw11 kA.lt)
        try (replace kB := kB.below hbw11 kB.lt)
        try (replace kC := kC.below hbw11 kC.lt)
        try (replace kD := kD.below hbw11 kD.lt)
        try (replace kE := kE.below hbw11 kE.lt)
        try (replace kF := kF.below hbw11 kF.lt)
        try try clear x0 x1 x2 x3
        try clear y0 y1 y2 y3
        try clear z0 z1 z2 z3
        try clear v0 v1 v2 v3
        try clear u0 u1 u2 u3
        try clear t0 t1 t2 t3
        try (obtain ⟨⟨x0, x1⟩, x2, x3⟩ := id kA)
        try (obtain ⟨⟨y0, y1⟩, y2, y3⟩ := id kB)
        try (obtain ⟨⟨z0, z1⟩, z2, z3⟩ := id kC)
        try (obtain ⟨⟨v0, v1⟩, v2, v3⟩ := id kD)
        try (obtain ⟨⟨u0, u1⟩, u2, u3⟩ := id kE)
        try (obtain ⟨⟨t0, t1⟩, t2, t3⟩ := id kF)
        try (have lta := kA.lt)
        try (have ltb := kB.lt)
        try (have ltc := kC.lt)
        try (have ltd := kD.lt)
        try (have lte := kE.lt)
        try (have ltf := kF.lt)
        refine (pRun (3) (1 + l) (m) ((p : Int) + (q : Int)) _).mono ?_
        rintro _ w12 ⟨rfl, hb12⟩
        rw [F7.out, F8.out, F9.out]
        try (replace kA := kA.below hb12 kA.lt)
        try (replace kB := kB.below hb12 kB.lt)
        try (replace kC := kC.below hb12 kC.lt)
        try (replace kD := kD.below hb12 kD.lt)
        try (replace kE := kE.below hb12 kE.lt)
        try (replace kF := kF.below hb12 kF.lt)
        try try clear x0 x1 x2 x3
        try clear y0 y1 y2 y3
        try clear z0 z1 z2 z3
        try clear v0 v1 v2 v3
        try clear u0 u1 u2 u3
        try clear t0 t1 t2 t3
        try (obtain ⟨⟨x0, x1⟩, x2, x3⟩ := id kA)
        try (obtain ⟨⟨y0, y1⟩, y2, y3⟩ := id kB)
        try (obtain ⟨⟨z0, z1⟩, z2, z3⟩ := id kC)
        try (obtain ⟨⟨v0, v1⟩, v2, v3⟩ := id kD)
        try (obtain ⟨⟨u0, u1⟩, u2, u3⟩ := id kE)
        try (obtain ⟨⟨t0, t1⟩, t2, t3⟩ := id kF)
        try (have lta := kA.lt)
        try (have ltb := kB.lt)
        try (have ltc := kC.lt)
        try (have ltd := kD.lt)
        try (have lte := kE.lt)
        try (have ltf := kF.lt)
        go_wp2_with fail
        obtain ⟨w13, hk⟩ : ∃ w13, w13 = (w12).alloc (.cells #[.int .i64 (sc), .int .i64 (lc)] 23) := ⟨_, rfl⟩
        obtain ⟨gd, hgg⟩ : ∃ gd, gd = (w12).heap.size := ⟨_, rfl⟩
        obtain ⟨kD, hbw13⟩ := new_brk hk
        rw [← hk, ← hgg]
        rw [← hgg] at kD
        have hgdw : w.heap.size ≤ gd := by
          have := (show Below w.heap.size w (w12) from (by repeat (first | exact Below.refl _ _ | apply keep_alloc | apply keep_drew | apply keep_drewN | refine keep_step (by assumption) ?_ (by rfl) | refine keep_set ?_ _ _ (by first | exact Nat.le_refl _ | (show _ ≤ _; simp; done) | (show _ ≤ _; simp; omega))))).size
          omega
        try (have nagd : ga < gd := by have := kA.lt; omega)
        try (have nbgd : gb < gd := by have := kB.lt; omega)
        try (have ncgd : gc < gd := by have := kC.lt; omega)
        clear hk hgg
        try (replace kA := kA.below hbw13 kA.lt)
        try (replace kB := kB.below hbw13 kB.lt)
        try (replace kC := kC.below hbw13 kC.lt)
        try (replace kD := kD.below hbw13 kD.lt)
        try (replace kE := kE.below hbw13 kE.lt)
        try (replace kF := kF.below hbw13 kF.lt)
        try try clear x0 x1 x2 x3
        try clear y0 y1 y2 y3
        try clear z0 z1 z2 z3
        try clear v0 v1 v2 v3
        try clear u0 u1 u2 u3
        try clear t0 t1 t2 t3
        try (obtain ⟨⟨x0, x1⟩, x2, x3⟩ := id kA)
        try (obtain ⟨⟨y0, y1⟩, y2, y3⟩ := id kB)
        try (obtain ⟨⟨z0, z1⟩, z2, z3⟩ := id kC)
        try (obtain ⟨⟨v0, v1⟩, v2, v3⟩ := id kD)
        try (obtain ⟨⟨u0, u1⟩, u2, u3⟩ := id kE)
        try (obtain ⟨⟨t0, t1⟩, t2, t3⟩ := id kF)
        try (have lta := kA.lt)
        try (have ltb := kB.lt)
        try (have ltc := kC.lt)
        try (have ltd := kD.lt)
        try (have lte := kE.lt)
        try (have ltf := kF.lt)
        refine (pEnds (3) (1 + l) (m) _).mono ?_
        rintro _ w14 ⟨rfl, hb14⟩
        rw [F10.out, F11.out, F12.out, VAL.out]
        try (replace kA := kA.below hb14 kA.lt)
        try (replace kB := kB.below hb14 kB.lt)
        try (replace kC := kC.below hb14 kC.lt)
        try (replace kD := kD.below hb14 kD.lt)
        try (replace kE := kE.below hb14 kE.lt)
        try (replace kF := kF.below hb14 kF.lt)
        try try clear x0 x1 x2 x3
        try clear y0 y1 y2 y3
        try clear z0 z1 z2 z3
        try clear v0 v1 v2 v3
        try clear u0 u1 u2 u3
        try clear t0 t1 t2 t3
        try (obtain ⟨⟨x0, x1⟩, x2, x3⟩ := id kA)
        try (obtain ⟨⟨y0, y1⟩, y2, y3⟩ := id kB)
        try (obtain ⟨⟨z0, z1⟩, z2, z3⟩ := id kC)
        try (obtain ⟨⟨v0, v1⟩, v2, v3⟩ := id kD)
        try (obtain ⟨⟨u0, u1⟩, u2, u3⟩ := id kE)
        try (obtain ⟨⟨t0, t1⟩, t2, t3⟩ := id kF)
        try (have lta := kA.lt)
        try (have ltb := kB.lt)
        try (have ltc := kC.lt)
        try (have ltd := kD.lt)
        try (have lte := kE.lt)
        try (have ltf := kF.lt)
        go_wp2_with fail
        obtain ⟨w15, hk⟩ : ∃ w15, w15 = (w14).alloc (.cells #[.int .i64 (sz), .int .i64 (0)] 23) := ⟨_, rfl⟩
        obtain ⟨ge, hgg⟩ : ∃ ge, ge = (w14).heap.size := ⟨_, rfl⟩
        obtain ⟨kE, hbw15⟩ := new_brk hk
        rw [← hk, ← hgg]
        rw [← hgg] at kE
        have hgew : w.heap.size ≤ ge := by
          have := (show Below w.heap.size w (w14) from (by repeat (first | exact Below.refl _ _ | apply keep_alloc | apply keep_drew | apply keep_drewN | refine keep_step (by assumption) ?_ (by rfl) | refine keep_set ?_ _ _ (by first | exact Nat.le_refl _ | (show _ ≤ _; simp; done) | (show _ ≤ _; simp; omega))))).size
          omega
        try (have nage : ga < ge := by have := kA.lt; omega)
        try (have nbge : gb < ge := by have := kB.lt; omega)
        try (have ncge : gc < ge := by have := kC.lt; omega)
        clear hk hgg
        try (replace kA := kA.below hbw15 kA.lt)
        try (replace kB := kB.below hbw15 kB.lt)
        try (replace kC := kC.below hbw15 kC.lt)
        try (replace kD := kD.below hbw15 kD.lt)
        try (replace kE := kE.below hbw15 kE.lt)
        try (replace kF := kF.below hbw15 kF.lt)
        try try clear x0 x1 x2 x3
        try clear y0 y1 y2 y3
        try clear z0 z1 z2 z3
        try clear v0 v1 v2 v3
        try clear u0 u1 u2 u3
        try clear t0 t1 t2 t3
        try (obtain ⟨⟨x0, x1⟩, x2, x3⟩ := id kA)
        try (obtain ⟨⟨y0, y1⟩, y2, y3⟩ := id kB)
        try (obtain ⟨⟨z0, z1⟩, z2, z3⟩ := id kC)
        try (obtain ⟨⟨v0, v1⟩, v2, v3⟩ := id kD)
        try (obtain ⟨⟨u0, u1⟩, u2, u3⟩ := id kE)
        try (obtain ⟨⟨t0, t1⟩, t2, t3⟩ := id kF)
        try (have lta := kA.lt)
        try (have ltb := kB.lt)
        try (have ltc := kC.lt)
        try (have ltd := kD.lt)
        try (have lte := kE.lt)
        try (have ltf := kF.lt)
        refine (pRun (3) (1 + l) (m) (1 + l) _).mono ?_
        rintro _ w16 ⟨rfl, hb16⟩
        rw [F13.out, F14.out, F15.out]
        try (replace kA := kA.below hb16 kA.lt)
        try (replace kB := kB.below hb16 kB.lt)
        try (replace kC := kC.below hb16 kC.lt)
        try (replace kD := kD.below hb16 kD.lt)
        try (replace kE := kE.below hb16 kE.lt)
        try (replace kF := kF.below hb16 kF.lt)
        try try clear x0 x1 x2 x3
        try clear y0 y1 y2 y3
        try clear z0 z1 z2 z3
        try clear v0 v1 v2 v3
        try clear u0 u1 u2 u3
        try clear t0 t1 t2 t3
        try (obtain ⟨⟨x0, x1⟩, x2, x3⟩ := id kA)
        try (obtain ⟨⟨y0, y1⟩, y2, y3⟩ := id kB)
        try (obtain ⟨⟨z0, z1⟩, z2, z3⟩ := id kC)
        try (obtain ⟨⟨v0, v1⟩, v2, v3⟩ := id kD)
        try (obtain ⟨⟨u0, u1⟩, u2, u3⟩ := id kE)
        try (obtain ⟨⟨t0, t1⟩, t2, t3⟩ := id kF)
        try (have lta := kA.lt)
        try (have ltb := kB.lt)
        try (have ltc := kC.lt)
        try (have ltd := kD.lt)
        try (have lte := kE.lt)
        try (have ltf := kF.lt)
        go_wp2_with fail
        obtain ⟨w17, hk⟩ : ∃ w17, w17 = (w16).alloc (.cells #[.int .i64 (sz), .int .i64 (0)] 23) := ⟨_, rfl⟩
        obtain ⟨gf, hgg⟩ : ∃ gf, gf = (w16).heap.size := ⟨_, rfl⟩
        obtain ⟨kF, hbw17⟩ := new_brk hk
        rw [← hk, ← hgg]
        rw [← hgg] at kF
        have hgfw : w.heap.size ≤ gf := by
          have := (show Below w.heap.size w (w16) from (by repeat (first | exact Below.refl _ _ | apply keep_alloc | apply keep_drew | apply keep_drewN | refine keep_step (by assumption) ?_ (by rfl) | refine keep_set ?_ _ _ (by first | exact Nat.le_refl _ | (show _ ≤ _; simp; done) | (show _ ≤ _; simp; omega))))).size
          omega
        try (have nagf : ga < gf := by have := kA.lt; omega)
        try (have nbgf : gb < gf := by have := kB.lt; omega)
        try (have ncgf : gc < gf := by have := kC.lt; omega)
        clear hk hgg
        try (replace kA := kA.below hbw17 kA.lt)
        try (replace kB := kB.below hbw17 kB.lt)
        try (replace kC := kC.below hbw17 kC.lt)
        try (replace kD := kD.below hbw17 kD.lt)
        try (replace kE := kE.below hbw17 kE.lt)
        try (replace kF := kF.below hbw17 kF.lt)
        try try clear x0 x1 x2 x3
        try clear y0 y1 y2 y3
        try clear z0 z1 z2 z3
        try clear v0 v1 v2 v3
        try clear u0 u1 u2 u3
        try clear t0 t1 t2 t3
        try (obtain ⟨⟨x0, x1⟩, x2, x3⟩ := id kA)
        try (obtain ⟨⟨y0, y1⟩, y2, y3⟩ := id kB)
        try (obtain ⟨⟨z0, z1⟩, z2, z3⟩ := id kC)
        try (obtain ⟨⟨v0, v1⟩, v2, v3⟩ := id kD)
        try (obtain ⟨⟨u0, u1⟩, u2, u3⟩ := id kE)
        try (obtain ⟨⟨t0, t1⟩, t2, t3⟩ := id kF)
        try (have lta := kA.lt)
        try (have ltb := kB.lt)
        try (have ltc := kC.lt)
        try (have ltd := kD.lt)
        try (have lte := kE.lt)
        try (have ltf := kF.lt)
        go_wp2_with (first | (go_at_call 23; (apply Calls.mono; (focus ((first | (with_reducible exact awake_true) | (apply awake_true <;> first | (with_reducible assumption) | (first | omega | (subst_vars; omega) | (simp only [Bool.not_eq_true', Bool.not_eq_false', beq_iff_eq, beq_eq_false_iff_ne, ne_eq, bne_iff_ne, bne_eq_false_iff_eq, Bool.not_eq_true, Bool.not_eq_false, decide_eq_true_eq, decide_eq_false_iff_not, Bool.and_eq_true, Bool.or_eq_true] at *; first | omega | (subst_vars; omega)) | (simp only [Bool.not_eq_true', Bool.not_eq_false', beq_iff_eq, beq_eq_false_iff_ne, ne_eq, bne_iff_ne, bne_eq_false_iff_eq, Bool.not_eq_true, Bool.not_eq_false, decide_eq_true_eq, decide_eq_false_iff_not, Bool.and_eq_true, Bool.or_eq_true, wrap64] at *; first | omega | (subst_vars; omega))))); done))); rintro e w' ⟨rfl, hb⟩; obtain ⟨hc, hf⟩ := bcell (show Below w.heap.size w w' from (by repeat (first | exact Below.refl _ _ | apply keep_alloc | apply keep_drew | apply keep_drewN | refine keep_step (by assumption) ?_ (by rfl) | refine keep_set ?_ _ _ (by first | exact Nat.le_refl _ | (show _ ≤ _; simp; done) | (show _ ≤ _; simp; omega)))))))
        go_ret
        exact ⟨rfl, (by repeat (first | exact Below.refl _ _ | apply keep_alloc | apply keep_drew | apply keep_drewN | refine keep_step (by assumption) ?_ (by rfl) | refine keep_set ?_ _ _ (by first | exact Nat.le_refl _ | (show _ ≤ _; simp; done) | (show _ ≤ _; simp; omega))))⟩
  · have hs1 : (s == 1) = false := by simp; omega
    have hs3 : (s == 3) = false := by simp; omega
    have ok := sums_ok0 (m := m) (s := s) (by omega) hm6
    by_cases hm0 : m = 0
    · subst hm0
      simp only [Int.natCast_zero] at ok HM
      obtain ⟨sa, la, sc, lc, sz, f1, f2, f3, f4, f5, f6, f7, f8, f9, f10, f11, f12, f13, f14, f15, hl0⟩ := sumFacts ok hp5 hq5
      have VAL := Lib.hid ok
      have F1 := Lib.hid f1
      have F2 := Lib.hid f2
      have F3 := Lib.hid f3
      have F4 := Lib.hid f4
      have F5 := Lib.hid f5
      have F6 := Lib.hid f6
      have F7 := Lib.hid f7
      have F8 := Lib.hid f8
      have F9 := Lib.hid f9
      have F10 := Lib.hid f10
      have F11 := Lib.hid f11
      have F12 := Lib.hid f12
      have F13 := Lib.hid f13
      have F14 := Lib.hid f14
      have F15 := Lib.hid f15
      clear f1 f2 f3 f4 f5 f6 f7 f8 f9 f10 f11 f12 f13 f14 f15 ok
      clear hm6
      go_wp2_with fail
      obtain ⟨w3, hk⟩ : ∃ w3, w3 = (w2).alloc (.cells #[.int .i64 (s), .int .i64 (0)] 23) := ⟨_, rfl⟩
      obtain ⟨ga, hgg⟩ : ∃ ga, ga = (w2).heap.size := ⟨_, rfl⟩
      obtain ⟨kA, hbw3⟩ := new_brk hk
      rw [← hk, ← hgg]
      rw [← hgg] at kA
      have hgaw : w.heap.size ≤ ga := by
        have := (show Below w.heap.size w (w2) from (by repeat (first | exact Below.refl _ _ | apply keep_alloc | apply keep_drew | apply keep_drewN | refine keep_step (by assumption) ?_ (by rfl) | refine keep_set ?_ _ _ (by first | exact Nat.le_refl _ | (show _ ≤ _; simp; done) | (show _ ≤ _; simp; omega))))).size
        omega
      try (have naga : ga < ga := by have := kA.lt; omega)
      try (have nbga : gb < ga := by have := kB.lt; omega)
      try (have ncga : gc < ga := by have := kC.lt; omega)
      clear hk hgg
      try (replace kA := kA.below hbw3 kA.lt)
      try (replace kB := kB.below hbw3 kB.lt)
      try (replace kC := kC.below hbw3 kC.lt)
      try (replace kD := kD.below hbw3 kD.lt)
      try (replace kE := kE.below hbw3 kE.lt)
      try (replace kF := kF.below hbw3 kF.lt)
      try try clear x0 x1 x2 x3
      try clear y0 y1 y2 y3
      try clear z0 z1 z2 z3
      try clear v0 v1 v2 v3
      try clear u0 u1 u2 u3
      try clear t0 t1 t2 t3
      try (obtain ⟨⟨x0, x1⟩, x2, x3⟩ := id kA)
      try (obtain ⟨⟨y0, y1⟩, y2, y3⟩ := id kB)
      try (obtain ⟨⟨z0, z1⟩, z2, z3⟩ := id kC)
      try (obtain ⟨⟨v0, v1⟩, v2, v3⟩ := id kD)
      try (obtain ⟨⟨u0, u1⟩, u2, u3⟩ := id kE)
      try (obtain ⟨⟨t0, t1⟩, t2, t3⟩ := id kF)
      try (have lta := kA.lt)
      try (have ltb := kB.lt)
      try (have ltc := kC.lt)
      try (have ltd := kD.lt)
      try (have lte := kE.lt)
      try (have ltf := kF.lt)
      refine (pchk (s) (0) (0) _).mono ?_
      rintro _ w5 ⟨rfl, hb5⟩
      rw [VAL.out]
      try (replace kA := kA.below hb5 kA.lt)
      try (replace kB := kB.below hb5 kB.lt)
      try (replace kC := kC.below hb5 kC.lt)
      try (replace kD := kD.below hb5 kD.lt)
      try (replace kE := kE.below hb5 kE.lt)
      try (replace kF := kF.below hb5 kF.lt)
      try try clear x0 x1 x2 x3
      try clear y0 y1 y2 y3
      try clear z0 z1 z2 z3
      try clear v0 v1 v2 v3
      try clear u0 u1 u2 u3
      try clear t0 t1 t2 t3
      try (obtain ⟨⟨x0, x1⟩, x2, x3⟩ := id kA)
      try (obtain ⟨⟨y0, y1⟩, y2, y3⟩ := id kB)
      try (obtain ⟨⟨z0, z1⟩, z2, z3⟩ := id kC)
      try (obtain ⟨⟨v0, v1⟩, v2, v3⟩ := id kD)
      try (obtain ⟨⟨u0, u1⟩, u2, u3⟩ := id kE)
      try (obtain ⟨⟨t0, t1⟩, t2, t3⟩ := id kF)
      try (have lta := kA.lt)
      try (have ltb := kB.lt)
      try (have ltc := kC.lt)
      try (have ltd := kD.lt)
      try (have lte := kE.lt)
      try (have ltf := kF.lt)
      go_wp2_with fail
      refine (mod_any x 500 _ hx64 (by decide)).mono ?_
      rintro _ w6 ⟨rfl, hbw6⟩
      rw [if_neg (by decide), HP.out]
      try (replace kA := kA.below hbw6 kA.lt)
      try (replace kB := kB.below hbw6 kB.lt)
      try (replace kC := kC.below hbw6 kC.lt)
      try (replace kD := kD.below hbw6 kD.lt)
      try (replace kE := kE.below hbw6 kE.lt)
      try (replace kF := kF.below hbw6 kF.lt)
      try try clear x0 x1 x2 x3
      try clear y0 y1 y2 y3
      try clear z0 z1 z2 z3
      try clear v0 v1 v2 v3
      try clear u0 u1 u2 u3
      try clear t0 t1 t2 t3
      try (obtain ⟨⟨x0, x1⟩, x2, x3⟩ := id kA)
      try (obtain ⟨⟨y0, y1⟩, y2, y3⟩ := id kB)
      try (obtain ⟨⟨z0, z1⟩, z2, z3⟩ := id kC)
      try (obtain ⟨⟨v0, v1⟩, v2, v3⟩ := id kD)
      try (obtain ⟨⟨u0, u1⟩, u2, u3⟩ := id kE)
      try (obtain ⟨⟨t0, t1⟩, t2, t3⟩ := id kF)
      try (have lta := kA.lt)
      try (have ltb := kB.lt)
      try (have ltc := kC.lt)
      try (have ltd := kD.lt)
      try (have lte := kE.lt)
      try (have ltf := kF.lt)
      go_wp2_with fail
      refine (mod_any y 500 _ hy64 (by decide)).mono ?_
      rintro _ w7 ⟨rfl, hbw7⟩
      rw [if_neg (by decide), HQ.out]
      try (replace kA := kA.below hbw7 kA.lt)
      try (replace kB := kB.below hbw7 kB.lt)
      try (replace kC := kC.below hbw7 kC.lt)
      try (replace kD := kD.below hbw7 kD.lt)
      try (replace kE := kE.below hbw7 kE.lt)
      try (replace kF := kF.below hbw7 kF.lt)
      try try clear x0 x1 x2 x3
      try clear y0 y1 y2 y3
      try clear z0 z1 z2 z3
      try clear v0 v1 v2 v3
      try clear u0 u1 u2 u3
      try clear t0 t1 t2 t3
      try (obtain ⟨⟨x0, x1⟩, x2, x3⟩ := id kA)
      try (obtain ⟨⟨y0, y1⟩, y2, y3⟩ := id kB)
      try (obtain ⟨⟨z0, z1⟩, z2, z3⟩ := id kC)
      try (obtain ⟨⟨v0, v1⟩, v2, v3⟩ := id kD)
      try (obtain ⟨⟨u0, u1⟩, u2, u3⟩ := id kE)
      try (obtain ⟨⟨t0, t1⟩, t2, t3⟩ := id kF)
      try (have lta := kA.lt)
      try (have ltb := kB.lt)
      try (have ltc := kC.lt)
      try (have ltd := kD.lt)
      try (have lte := kE.lt)
      try (have ltf := kF.lt)
      go_wp2_with fail
      refine (pRun (s) (0) (0) p _).mono ?_
      rintro _ w8 ⟨rfl, hb8⟩
      rw [F1.out, F2.out, F3.out]
      try (replace kA := kA.below hb8 kA.lt)
      try (replace kB := kB.below hb8 kB.lt)
      try (replace kC := kC.below hb8 kC.lt)
      try (replace kD := kD.below hb8 kD.lt)
      try (replace kE := kE.below hb8 kE.lt)
      try (replace kF := kF.below hb8 kF.lt)
      try try clear x0 x1 x2 x3
      try clear y0 y1 y2 y3
      try clear z0 z1 z2 z3
      try clear v0 v1 v2 v3
      try clear u0 u1 u2 u3
      try clear t0 t1 t2 t3
      try (obtain ⟨⟨x0, x1⟩, x2, x3⟩ := id kA)
      try (obtain ⟨⟨y0, y1⟩, y2, y3⟩ := id kB)
      try (obtain ⟨⟨z0, z1⟩, z2, z3⟩ := id kC)
      try (obtain ⟨⟨v0, v1⟩, v2, v3⟩ := id kD)
      try (obtain ⟨⟨u0, u1⟩, u2, u3⟩ := id kE)
      try (obtain ⟨⟨t0, t1⟩, t2, t3⟩ := id kF)
      try (have lta := kA.lt)
      try (have ltb := kB.lt)
      try (have ltc := kC.lt)
      try (have ltd := kD.lt)
      try (have lte := kE.lt)
      try (have ltf := kF.lt)
      go_wp2_with fail
      obtain ⟨w9, hk⟩ : ∃ w9, w9 = (w8).alloc (.cells #[.int .i64 (sa), .int .i64 (la)] 23) := ⟨_, rfl⟩
      obtain ⟨gb, hgg⟩ : ∃ gb, gb = (w8).heap.size := ⟨_, rfl⟩
      obtain ⟨kB, hbw9⟩ := new_brk hk
      rw [← hk, ← hgg]
      rw [← hgg] at kB
      have hgbw : w.heap.size ≤ gb := by
        have := (show Below w.heap.size w (w8) from (by repeat (first | exact Below.refl _ _ | apply keep_alloc | apply keep_drew | apply keep_drewN | refine keep_step (by assumption) ?_ (by rfl) | refine keep_set ?_ _ _ (by first | exact Nat.le_refl _ | (show _ ≤ _; simp; done) | (show _ ≤ _; simp; omega))))).size
        omega
      try (have nagb : ga < gb := by have := kA.lt; omega)
      try (have nbgb : gb < gb := by have := kB.lt; omega)
      try (have ncgb : gc < gb := by have := kC.lt; omega)
      clear hk hgg
      try (replace kA := kA.below hbw9 kA.lt)
      try (replace kB := kB.below hbw9 kB.lt)
      try (replace kC := kC.below hbw9 kC.lt)
      try (replace kD := kD.below hbw9 kD.lt)
      try (replace kE := kE.below hbw9 kE.lt)
      try (replace kF := kF.below hbw9 kF.lt)
      try try clear x0 x1 x2 x3
      try clear y0 y1 y2 y3
      try clear z0 z1 z2 z3
      try clear v0 v1 v2 v3
      try clear u0 u1 u2 u3
      try clear t0 t1 t2 t3
      try (obtain ⟨⟨x0, x1⟩, x2, x3⟩ := id kA)
      try (obtain ⟨⟨y0, y1⟩, y2, y3⟩ := id kB)
      try (obtain ⟨⟨z0, z1⟩, z2, z3⟩ := id kC)
      try (obtain ⟨⟨v0, v1⟩, v2, v3⟩ := id kD)
      try (obtain ⟨⟨u0, u1⟩, u2, u3⟩ := id kE)
      try (obtain ⟨⟨t0, t1⟩, t2, t3⟩ := id kF)
      try (have lta := kA.lt)
      try (have ltb := kB.lt)
      try (have ltc := kC.lt)
      try (have ltd := kD.lt)
      try (have lte := kE.lt)
      try (have ltf := kF.lt)
      refine (pRun sa la (0) q _).mono ?_
      rintro _ w10 ⟨rfl, hb10⟩
      rw [F4.out, F5.out, F6.out]
      try (replace kA := kA.below hb10 kA.lt)
      try (replace kB := kB.below hb10 kB.lt)
      try (replace kC := kC.below hb10 kC.lt)
      try (replace kD := kD.below hb10 kD.lt)
      try (replace kE := kE.below hb10 kE.lt)
      try (replace kF := kF.below hb10 kF.lt)
      try try clear x0 x1 x2 x3
      try clear y0 y1 y2 y3
      try clear z0 z1 z2 z3
      try clear v0 v1 v2 v3
      try clear u0 u1 u2 u3
      try clear t0 t1 t2 t3
      try (obtain ⟨⟨x0, x1⟩, x2, x3⟩ := id kA)
      try (obtain ⟨⟨y0, y1⟩, y2, y3⟩ := id kB)
      try (obtain ⟨⟨z0, z1⟩, z2, z3⟩ := id kC)
      try (obtain ⟨⟨v0, v1⟩, v2, v3⟩ := id kD)
      try (obtain ⟨⟨u0, u1⟩, u2, u3⟩ := id kE)
      try (obtain ⟨⟨t0, t1⟩, t2, t3⟩ := id kF)
      try (have lta := kA.lt)
      try (have ltb := kB.lt)
      try (have ltc := kC.lt)
      try (have ltd := kD.lt)
      try (have lte := kE.lt)
      try (have ltf := kF.lt)
      go_wp2_with fail
      obtain ⟨w11, hk⟩ : ∃ w11, w11 = (w10).alloc (.cells #[.int .i64 (sc), .int .i64 (lc)] 23) := ⟨_, rfl⟩
      obtain ⟨gc, hgg⟩ : ∃ gc, gc = (w10).heap.size := ⟨_, rfl⟩
      obtain ⟨kC, hbw11⟩ := new_brk hk
      rw [← hk, ← hgg]
      rw [← hgg] at kC
      have hgcw : w.heap.size ≤ gc := by
        have := (show Below w.heap.size w (w10) from (by repeat (first | exact Below.refl _ _ | apply keep_alloc | apply keep_drew | apply keep_drewN | refine keep_step (by assumption) ?_ (by rfl) | refine keep_set ?_ _ _ (by first | exact Nat.le_refl _ | (show _ ≤ _; simp; done) | (show _ ≤ _; simp; omega))))).size
        omega
      try (have nagc : ga < gc := by have := kA.lt; omega)
      try (have nbgc : gb < gc := by have := kB.lt; omega)
      try (have ncgc : gc < gc := by have := kC.lt; omega)
      clear hk hgg
      try (replace kA := kA.below hbw11 kA.lt)
      try (replace kB := kB.below hbw11 kB.lt)
      try (replace kC := kC.below hbw11 kC.lt)
      try (replace kD := kD.below hbw11 kD.lt)
      try (replace kE := kE.below hbw11 kE.lt)
      try (replace kF := kF.below hbw11 kF.lt)
      try try clear x0 x1 x2 x3
      try clear y0 y1 y2 y3
      try clear z0 z1 z2 z3
      try clear v0 v1 v2 v3
      try clear u0 u1 u2 u3
      try clear t0 t1 t2 t3
      try (obtain ⟨⟨x0, x1⟩, x2, x3⟩ := id kA)
      try (obtain ⟨⟨y0, y1⟩, y2, y3⟩ := id kB)
      try (obtain ⟨⟨z0, z1⟩, z2, z3⟩ := id kC)
      try (obtain ⟨⟨v0, v1⟩, v2, v3⟩ := id kD)
      try (obtain ⟨⟨u0, u1⟩, u2, u3⟩ := id kE)
      try (obtain ⟨⟨t0, t1⟩, t2, t3⟩ := id kF)
      try (have lta := kA.lt)
      try (have ltb := kB.lt)
      try (have ltc := kC.lt)
      try (have ltd := kD.lt)
      try (have lte := kE.lt)
      try (have ltf := kF.lt)
      refine (pRun (s) (0) (0) ((p : Int) + (q : Int)) _).mono ?_
      rintro _ w12 ⟨rfl, hb12⟩
      rw [F7.out, F8.out, F9.out]
      try (replace kA := kA.below hb12 kA.lt)
      try (replace kB := kB.below hb12 kB.lt)
      try (replace kC := kC.below hb12 kC.lt)
      try (replace kD := kD.below hb12 kD.lt)
      try (replace kE := kE.below hb12 kE.lt)
      try (replace kF := kF.below hb12 kF.lt)
      try try clear x0 x1 x2 x3
      try clear y0 y1 y2 y3
      try clear z0 z1 z2 z3
      try clear v0 v1 v2 v3
      try clear u0 u1 u2 u3
      try clear t0 t1 t2 t3
      try (obtain ⟨⟨x0, x1⟩, x2, x3⟩ := id kA)
      try (obtain ⟨⟨y0, y1⟩, y2, y3⟩ := id kB)
      try (obtain ⟨⟨z0, z1⟩, z2, z3⟩ := id kC)
      try (obtain ⟨⟨v0, v1⟩, v2, v3⟩ := id kD)
      try (obtain ⟨⟨u0, u1⟩, u2, u3⟩ := id kE)
      try (obtain ⟨⟨t0, t1⟩, t2, t3⟩ := id kF)
      try (have lta := kA.lt)
      try (have ltb := kB.lt)
      try (have ltc := kC.lt)
      try (have ltd := kD.lt)
      try (have lte := kE.lt)
      try (have ltf := kF.lt)
      go_wp2_with fail
      obtain ⟨w13, hk⟩ : ∃ w13, w13 = (w12).alloc (.cells #[.int .i64 (sc), .int .i64 (lc)] 23) := ⟨_, rfl⟩
      obtain ⟨gd, hgg⟩ : ∃ gd, gd = (w12).heap.size := ⟨_, rfl⟩
      obtain ⟨kD, hbw13⟩ := new_brk hk
      rw [← hk, ← hgg]
      rw [← hgg] at kD
      have hgdw : w.heap.size ≤ gd := by
        have := (show Below w.heap.size w (w12) from (by repeat (first | exact Below.refl _ _ | apply keep_alloc | apply keep_drew | apply keep_drewN | refine keep_step (by assumption) ?_ (by rfl) | refine keep_set ?_ _ _ (by first | exact Nat.le_refl _ | (show _ ≤ _; simp; done) | (show _ ≤ _; simp; omega))))).size
        omega
      try (have nagd : ga < gd := by have := kA.lt; omega)
      try (have nbgd : gb < gd := by have := kB.lt; omega)
      try (have ncgd : gc < gd := by have := kC.lt; omega)
      clear hk hgg
      try (replace kA := kA.below hbw13 kA.lt)
      try (replace kB := kB.below hbw13 kB.lt)
      try (replace kC := kC.below hbw13 kC.lt)
      try (replace kD := kD.below hbw13 kD.lt)
      try (replace kE := kE.below hbw13 kE.lt)
      try (replace kF := kF.below hbw13 kF.lt)
      try try clear x0 x1 x2 x3
      try clear y0 y1 y2 y3
      try clear z0 z1 z2 z3
      try clear v0 v1 v2 v3
      try clear u0 u1 u2 u3
      try clear t0 t1 t2 t3
      try (obtain ⟨⟨x0, x1⟩, x2, x3⟩ := id kA)
      try (obtain ⟨⟨y0, y1⟩, y2, y3⟩ := id kB)
      try (obtain ⟨⟨z0, z1⟩, z2, z3⟩ := id kC)
      try (obtain ⟨⟨v0, v1⟩, v2, v3⟩ := id kD)
      try (obtain ⟨⟨u0, u1⟩, u2, u3⟩ := id kE)
      try (obtain ⟨⟨t0, t1⟩, t2, t3⟩ := id kF)
      try (have lta := kA.lt)
      try (have ltb := kB.lt)
      try (have ltc := kC.lt)
      try (have ltd := kD.lt)
      try (have lte := kE.lt)
      try (have ltf := kF.lt)
      refine (pEnds (s) (0) (0) _).mono ?_
      rintro _ w14 ⟨rfl, hb14⟩
      rw [F10.out, F11.out, F12.out, VAL.out]
      try (replace kA := kA.below hb14 kA.lt)
      try (replace kB := kB.below hb14 kB.lt)
      try (replace kC := kC.below hb14 kC.lt)
      try (replace kD := kD.below hb14 kD.lt)
      try (replace kE := kE.below hb14 kE.lt)
      try (replace kF := kF.below hb14 kF.lt)
      try try clear x0 x1 x2 x3
      try clear y0 y1 y2 y3
      try clear z0 z1 z2 z3
      try clear v0 v1 v2 v3
      try clear u0 u1 u2 u3
      try clear t0 t1 t2 t3
      try (obtain ⟨⟨x0, x1⟩, x2, x3⟩ := id kA)
      try (obtain ⟨⟨y0, y1⟩, y2, y3⟩ := id kB)
      try (obtain ⟨⟨z0, z1⟩, z2, z3⟩ := id kC)
      try (obtain ⟨⟨v0, v1⟩, v2, v3⟩ := id kD)
      try (obtain ⟨⟨u0, u1⟩, u2, u3⟩ := id kE)
      try (obtain ⟨⟨t0, t1⟩, t2, t3⟩ := id kF)
      try (have lta := kA.lt)
      try (have ltb := kB.lt)
      try (have ltc := kC.lt)
      try (have ltd := kD.lt)
      try (have lte := kE.lt)
      try (have ltf := kF.lt)
      go_wp2_with fail
      obtain ⟨w15, hk⟩ : ∃ w15, w15 = (w14).alloc (.cells #[.int .i64 (sz), .int .i64 (0)] 23) := ⟨_, rfl⟩
      obtain ⟨ge, hgg⟩ : ∃ ge, ge = (w14).heap.size := ⟨_, rfl⟩
      obtain ⟨kE, hbw15⟩ := new_brk hk
      rw [← hk, ← hgg]
      rw [← hgg] at kE
      have hgew : w.heap.size ≤ ge := by
        have := (show Below w.heap.size w (w14) from (by repeat (first | exact Below.refl _ _ | apply keep_alloc | apply keep_drew | apply keep_drewN | refine keep_step (by assumption) ?_ (by rfl) | refine keep_set ?_ _ _ (by first | exact Nat.le_refl _ | (show _ ≤ _; simp; done) | (show _ ≤ _; simp; omega))))).size
        omega
      try (have nage : ga < ge := by have := kA.lt; omega)
      try (have nbge : gb < ge := by have := kB.lt; omega)
      try (have ncge : gc < ge := by have := kC.lt; omega)
      clear hk hgg
      try (replace kA := kA.below hbw15 kA.lt)
      try (replace kB := kB.below hbw15 kB.lt)
      try (replace kC := kC.below hbw15 kC.lt)
      try (replace kD := kD.below hbw15 kD.lt)
      try (replace kE := kE.below hbw15 kE.lt)
      try (replace kF := kF.below hbw15 kF.lt)
      try try clear x0 x1 x2 x3
      try clear y0 y1 y2 y3
      try clear z0 z1 z2 z3
      try clear v0 v1 v2 v3
      try clear u0 u1 u2 u3
      try clear t0 t1 t2 t3
      try (obtain ⟨⟨x0, x1⟩, x2, x3⟩ := id kA)
      try (obtain ⟨⟨y0, y1⟩, y2, y3⟩ := id kB)
      try (obtain ⟨⟨z0, z1⟩, z2, z3⟩ := id kC)
      try (obtain ⟨⟨v0, v1⟩, v2, v3⟩ := id kD)
      try (obtain ⟨⟨u0, u1⟩, u2, u3⟩ := id kE)
      try (obtain ⟨⟨t0, t1⟩, t2, t3⟩ := id kF)
      try (have lta := kA.lt)
      try (have ltb := kB.lt)
      try (have ltc := kC.lt)
      try (have ltd := kD.lt)
      try (have lte := kE.lt)
      try (have ltf := kF.lt)
      refine (pRun (s) (0) (0) (0) _).mono ?_
      rintro _ w16 ⟨rfl, hb16⟩
      rw [F13.out, F14.out, F15.out]
      try (replace kA := kA.below hb16 kA.lt)
      try (replace kB := kB.below hb16 kB.lt)
      try (replace kC := kC.below hb16 kC.lt)
      try (replace kD := kD.below hb16 kD.lt)
      try (replace kE := kE.below hb16 kE.lt)
      try (replace kF := kF.below hb16 kF.lt)
      try try clear x0 x1 x2 x3
      try clear y0 y1 y2 y3
      try clear z0 z1 z2 z3
      try clear v0 v1 v2 v3
      try clear u0 u1 u2 u3
      try clear t0 t1 t2 t3
      try (obtain ⟨⟨x0, x1⟩, x2, x3⟩ := id kA)
      try (obtain ⟨⟨y0, y1⟩, y2, y3⟩ := id kB)
      try (obtain ⟨⟨z0, z1⟩, z2, z3⟩ := id kC)
      try (obtain ⟨⟨v0, v1⟩, v2, v3⟩ := id kD)
      try (obtain ⟨⟨u0, u1⟩, u2, u3⟩ := id kE)
      try (obtain ⟨⟨t0, t1⟩, t2, t3⟩ := id kF)
      try (have lta := kA.lt)
      try (have ltb := kB.lt)
      try (have ltc := kC.lt)
      try (have ltd := kD.lt)
      try (have lte := kE.lt)
      try (have ltf := kF.lt)
      go_wp2_with fail
      obtain ⟨w17, hk⟩ : ∃ w17, w17 = (w16).alloc (.cells #[.int .i64 (sz), .int .i64 (0)] 23) := ⟨_, rfl⟩
      obtain ⟨gf, hgg⟩ : ∃ gf, gf = (w16).heap.size := ⟨_, rfl⟩
      obtain ⟨kF, hbw17⟩ := new_brk hk
      rw [← hk, ← hgg]
      rw [← hgg] at kF
      have hgfw : w.heap.size ≤ gf := by
        have := (show Below w.heap.size w (w16) from (by repeat (first | exact Below.refl _ _ | apply keep_alloc | apply keep_drew | apply keep_drewN | refine keep_step (by assumption) ?_ (by rfl) | refine keep_set ?_ _ _ (by first | exact Nat.le_refl _ | (show _ ≤ _; simp; done) | (show _ ≤ _; simp; omega))))).size
        omega
      try (have nagf : ga < gf := by have := kA.lt; omega)
      try (have nbgf : gb < gf := by have := kB.lt; omega)
      try (have ncgf : gc < gf := by have := kC.lt; omega)
      clear hk hgg
      try (replace kA := kA.below hbw17 kA.lt)
      try (replace kB := kB.below hbw17 kB.lt)
      try (replace kC := kC.below hbw17 kC.lt)
      try (replace kD := kD.below hbw17 kD.lt)
      try (replace kE := kE.below hbw17 kE.lt)
      try (replace kF := kF.below hbw17 kF.lt)
      try try clear x0 x1 x2 x3
      try clear y0 y1 y2 y3
      try clear z0 z1 z2 z3
      try clear v0 v1 v2 v3
      try clear u0 u1 u2 u3
      try clear t0 t1 t2 t3
      try (obtain ⟨⟨x0, x1⟩, x2, x3⟩ := id kA)
      try (obtain ⟨⟨y0, y1⟩, y2, y3⟩ := id kB)
      try (obtain ⟨⟨z0, z1⟩, z2, z3⟩ := id kC)
      try (obtain ⟨⟨v0, v1⟩, v2, v3⟩ := id kD)
      try (obtain ⟨⟨u0, u1⟩, u2, u3⟩ := id kE)
      try (obtain ⟨⟨t0, t1⟩, t2, t3⟩ := id kF)
      try (have lta := kA.lt)
      try (have ltb := kB.lt)
      try (have ltc := kC.lt)
      try (have ltd := kD.lt)
      try (have lte := kE.lt)
      try (have ltf := kF.lt)
      go_wp2_with (first | (go_at_call 23; (apply Calls.mono; (focus ((first | (with_reducible exact awake_true) | (apply awake_true <;> first | (with_reducible assumption) | (first | omega | (subst_vars; omega) | (simp only [Bool.not_eq_true', Bool.not_eq_false', beq_iff_eq, beq_eq_false_iff_ne, ne_eq, bne_iff_ne, bne_eq_false_iff_eq, Bool.not_eq_true, Bool.not_eq_false, decide_eq_true_eq, decide_eq_false_iff_not, Bool.and_eq_true, Bool.or_eq_true] at *; first | omega | (subst_vars; omega)) | (simp only [Bool.not_eq_true', Bool.not_eq_false', beq_iff_eq, beq_eq_false_iff_ne, ne_eq, bne_iff_ne, bne_eq_false_iff_eq, Bool.not_eq_true, Bool.not_eq_false, decide_eq_true_eq, decide_eq_false_iff_not, Bool.and_eq_true, Bool.or_eq_true, wrap64] at *; first | omega | (subst_vars; omega))))); done))); rintro e w' ⟨rfl, hb⟩; obtain ⟨hc, hf⟩ := bcell (show Below w.heap.size w w' from (by repeat (first | exact Below.refl _ _ | apply keep_alloc | apply keep_drew | apply keep_drewN | refine keep_step (by assumption) ?_ (by rfl) | refine keep_set ?_ _ _ (by first | exact Nat.le_refl _ | (show _ ≤ _; simp; done) | (show _ ≤ _; simp; omega)))))))
      go_ret
      exact ⟨rfl, (by repeat (first | exact Below.refl _ _ | apply keep_alloc | apply keep_drew | apply keep_drewN | refine keep_step (by assumption) ?_ (by rfl) | refine keep_set ?_ _ _ (by first | exact Nat.le_refl _ | (show _ ≤ _; simp; done) | (show _ ≤ _; simp; omega))))⟩
    · have hpos : 0 < (m : Int) := by omega
      obtain ⟨sa, la, sc, lc, sz, f1, f2, f3, f4, f5, f6, f7, f8, f9, f10, f11, f12, f13, f14, f15, hl0⟩ := sumFacts ok hp5 hq5
      have VAL := Lib.hid ok
      have F1 := Lib.hid f1
      have F2 := Lib.hid f2
      have F3 := Lib.hid f3
      have F4 := Lib.hid f4
      have F5 := Lib.hid f5
      have F6 := Lib.hid f6
      have F7 := Lib.hid f7
      have F8 := Lib.hid f8
      have F9 := Lib.hid f9
      have F10 := Lib.hid f10
      have F11 := Lib.hid f11
      have F12 := Lib.hid f12
      have F13 := Lib.hid f13
      have F14 := Lib.hid f14
      have F15 := Lib.hid f15
      clear f1 f2 f3 f4 f5 f6 f7 f8 f9 f10 f11 f12 f13 f14 f15 ok
      go_wp2_with fail
      obtain ⟨w3, hk⟩ : ∃ w3, w3 = (w2).alloc (.cells #[.int .i64 (s), .int .i64 (0)] 23) := ⟨_, rfl⟩
      obtain ⟨ga, hgg⟩ : ∃ ga, ga = (w2).heap.size := ⟨_, rfl⟩
      obtain ⟨kA, hbw3⟩ := new_brk hk
      rw [← hk, ← hgg]
      rw [← hgg] at kA
      have hgaw : w.heap.size ≤ ga := by
        have := (show Below w.heap.size w (w2) from (by repeat (first | exact Below.refl _ _ | apply keep_alloc | apply keep_drew | apply keep_drewN | refine keep_step (by assumption) ?_ (by rfl) | refine keep_set ?_ _ _ (by first | exact Nat.le_refl _ | (show _ ≤ _; simp; done) | (show _ ≤ _; simp; omega))))).size
        omega
      try (have naga : ga < ga := by have := kA.lt; omega)
      try (have nbga : gb < ga := by have := kB.lt; omega)
      try (have ncga : gc < ga := by have := kC.lt; omega)
      clear hk hgg
      try (replace kA := kA.below hbw3 kA.lt)
      try (replace kB := kB.below hbw3 kB.lt)
      try (replace kC := kC.below hbw3 kC.lt)
      try (replace kD := kD.below hbw3 kD.lt)
      try (replace kE := kE.below hbw3 kE.lt)
      try (replace kF := kF.below hbw3 kF.lt)
      try try clear x0 x1 x2 x3
      try clear y0 y1 y2 y3
      try clear z0 z1 z2 z3
      try clear v0 v1 v2 v3
      try clear u0 u1 u2 u3
      try clear t0 t1 t2 t3
      try (obtain ⟨⟨x0, x1⟩, x2, x3⟩ := id kA)
      try (obtain ⟨⟨y0, y1⟩, y2, y3⟩ := id kB)
      try (obtain ⟨⟨z0, z1⟩, z2, z3⟩ := id kC)
      try (obtain ⟨⟨v0, v1⟩, v2, v3⟩ := id kD)
      try (obtain ⟨⟨u0, u1⟩, u2, u3⟩ := id kE)
      try (obtain ⟨⟨t0, t1⟩, t2, t3⟩ := id kF)
      try (have lta := kA.lt)
      try (have ltb := kB.lt)
      try (have ltc := kC.lt)
      try (have ltd := kD.lt)
      try (have lte := kE.lt)
      try (have ltf := kF.lt)
      refine (pchk (s) (0) (m) _).mono ?_
      rintro _ w5 ⟨rfl, hb5⟩
      rw [VAL.out]
      try (replace kA := kA.below hb5 kA.lt)
      try (replace kB := kB.below hb5 kB.lt)
      try (replace kC := kC.below hb5 kC.lt)
      try (replace kD := kD.below hb5 kD.lt)
      try (replace kE := kE.below hb5 kE.lt)
      try (replace kF := kF.below hb5 kF.lt)
      try try clear x0 x1 x2 x3
      try clear y0 y1 y2 y3
      try clear z0 z1 z2 z3
      try clear v0 v1 v2 v3
      try clear u0 u1 u2 u3
      try clear t0 t1 t2 t3
      try (obtain ⟨⟨x0, x1⟩, x2, x3⟩ := id kA)
      try (obtain ⟨⟨y0, y1⟩, y2, y3⟩ := id kB)
      try (obtain ⟨⟨z0, z1⟩, z2, z3⟩ := id kC)
      try (obtain ⟨⟨v0, v1⟩, v2, v3⟩ := id kD)
      try (obtain ⟨⟨u0, u1⟩, u2, u3⟩ := id kE)
      try (obtain ⟨⟨t0, t1⟩, t2, t3⟩ := id kF)
      try (have lta := kA.lt)
      try (have ltb := kB.lt)
      try (have ltc := kC.lt)
      try (have ltd := kD.lt)
      try (have lte := kE.lt)
      try (have ltf := kF.lt)
      go_wp2_with fail
      refine (mod_any x 500 _ hx64 (by decide)).mono ?_
      rintro _ w6 ⟨rfl, hbw6⟩
      rw [if_neg (by decide), HP.out]
      try (replace kA := kA.below hbw6 kA.lt)
      try (replace kB := kB.below hbw6 kB.lt)
      try (replace kC := kC.below hbw6 kC.lt)
      try (replace kD := kD.below hbw6 kD.lt)
      try (replace kE := kE.below hbw6 kE.lt)
      try (replace kF := kF.below hbw6 kF.lt)
      try try clear x0 x1 x2 x3
      try clear y0 y1 y2 y3
      try clear z0 z1 z2 z3
      try clear v0 v1 v2 v3
      try clear u0 u1 u2 u3
      try clear t0 t1 t2 t3
      try (obtain ⟨⟨x0, x1⟩, x2, x3⟩ := id kA)
      try (obtain ⟨⟨y0, y1⟩, y2, y3⟩ := id kB)
      try (obtain ⟨⟨z0, z1⟩, z2, z3⟩ := id kC)
      try (obtain ⟨⟨v0, v1⟩, v2, v3⟩ := id kD)
      try (obtain ⟨⟨u0, u1⟩, u2, u3⟩ := id kE)
      try (obtain ⟨⟨t0, t1⟩, t2, t3⟩ := id kF)
      try (have lta := kA.lt)
      try (have ltb := kB.lt)
      try (have ltc := kC.lt)
      try (have ltd := kD.lt)
      try (have lte := kE.lt)
      try (have ltf := kF.lt)
      go_wp2_with fail
      refine (mod_any y 500 _ hy64 (by decide)).mono ?_
      rintro _ w7 ⟨rfl, hbw7⟩
      rw [if_neg (by decide), HQ.out]
      try (replace kA := kA.below hbw7 kA.lt)
      try (replace kB := kB.below hbw7 kB.lt)
      try (replace kC := kC.below hbw7 kC.lt)
      try (replace kD := kD.below hbw7 kD.lt)
      try (replace kE := kE.below hbw7 kE.lt)
      try (replace kF := kF.below hbw7 kF.lt)
      try try clear x0 x1 x2 x3
      try clear y0 y1 y2 y3
      try clear z0 z1 z2 z3
      try clear v0 v1 v2 v3
      try clear u0 u1 u2 u3
      try clear t0 t1 t2 t3
      try (obtain ⟨⟨x0, x1⟩, x2, x3⟩ := id kA)
      try (obtain ⟨⟨y0, y1⟩, y2, y3⟩ := id kB)
      try (obtain ⟨⟨z0, z1⟩, z2, z3⟩ := id kC)
      try (obtain ⟨⟨v0, v1⟩, v2, v3⟩ := id kD)
      try (obtain ⟨⟨u0, u1⟩, u2, u3⟩ := id kE)
      try (obtain ⟨⟨t0, t1⟩, t2, t3⟩ := id kF)
      try (have lta := kA.lt)
      try (have ltb := kB.lt)
      try (have ltc := kC.lt)
      try (have ltd := kD.lt)
      try (have lte := kE.lt)
      try (have ltf := kF.lt)
      go_wp2_with fail
      refine (pRun (s) (0) (m) p _).mono ?_
      rintro _ w8 ⟨rfl, hb8⟩
      rw [F1.out, F2.out, F3.out]
      try (replace kA := kA.below hb8 kA.lt)
      try (replace kB := kB.below hb8 kB.lt)
      try (replace kC := kC.below hb8 kC.lt)
      try (replace kD := kD.below hb8 kD.lt)
      try (replace kE := kE.below hb8 kE.lt)
      try (replace kF := kF.below hb8 kF.lt)
      try try clear x0 x1 x2 x3
      try clear y0 y1 y2 y3
      try clear z0 z1 z2 z3
      try clear v0 v1 v2 v3
      try clear u0 u1 u2 u3
      try clear t0 t1 t2 t3
      try (obtain ⟨⟨x0, x1⟩, x2, x3⟩ := id kA)
      try (obtain ⟨⟨y0, y1⟩, y2, y3⟩ := id kB)
      try (obtain ⟨⟨z0, z1⟩, z2, z3⟩ := id kC)
      try (obtain ⟨⟨v0, v1⟩, v2, v3⟩ := id kD)
      try (obtain ⟨⟨u0, u1⟩, u2, u3⟩ := id kE)
      try (obtain ⟨⟨t0, t1⟩, t2, t3⟩ := id kF)
      try (have lta := kA.lt)
      try (have ltb := kB.lt)
      try (have ltc := kC.lt)
      try (have ltd := kD.lt)
      try (have lte := kE.lt)
      try (have ltf := kF.lt)
      go_wp2_with fail
      obtain ⟨w9, hk⟩ : ∃ w9, w9 = (w8).alloc (.cells #[.int .i64 (sa), .int .i64 (la)] 23) := ⟨_, rfl⟩
      obtain ⟨gb, hgg⟩ : ∃ gb, gb = (w8).heap.size := ⟨_, rfl⟩
      obtain ⟨kB, hbw9⟩ := new_brk hk
      rw [← hk, ← hgg]
      rw [← hgg] at kB
      have hgbw : w.heap.size ≤ gb := by
        have := (show Below w.heap.size w (w8) from (by repeat (first | exact Below.refl _ _ | apply keep_alloc | apply keep_drew | apply keep_drewN | refine keep_step (by assumption) ?_ (by rfl) | refine keep_set ?_ _ _ (by first | exact Nat.le_refl _ | (show _ ≤ _; simp; done) | (show _ ≤ _; simp; omega))))).size
        omega
      try (have nagb : ga < gb := by have := kA.lt; omega)
      try (have nbgb : gb < gb := by have := kB.lt; omega)
      try (have ncgb : gc < gb := by have := kC.lt; omega)
      clear hk hgg
      try (replace kA := kA.below hbw9 kA.lt)
      try (replace kB := kB.below hbw9 kB.lt)
      try (replace kC := kC.below hbw9 kC.lt)
      try (replace kD := kD.below hbw9 kD.lt)
      try (replace kE := kE.below hbw9 kE.lt)
      try (replace kF := kF.below hbw9 kF.lt)
      try try clear x0 x1 x2 x3
      try clear y0 y1 y2 y3
      try clear z0 z1 z2 z3
      try clear v0 v1 v2 v3
      try clear u0 u1 u2 u3
      try clear t0 t1 t2 t3
      try (obtain ⟨⟨x0, x1⟩, x2, x3⟩ := id kA)
      try (obtain ⟨⟨y0, y1⟩, y2, y3⟩ := id kB)
      try (obtain ⟨⟨z0, z1⟩, z2, z3⟩ := id kC)
      try (obtain ⟨⟨v0, v1⟩, v2, v3⟩ := id kD)
      try (obtain ⟨⟨u0, u1⟩, u2, u3⟩ := id kE)
      try (obtain ⟨⟨t0, t1⟩, t2, t3⟩ := id kF)
      try (have lta := kA.lt)
      try (have ltb := kB.lt)
      try (have ltc := kC.lt)
      try (have ltd := kD.lt)
      try (have lte := kE.lt)
      try (have ltf := kF.lt)
      refine (pRun sa la (m) q _).mono ?_
      rintro _ w10 ⟨rfl, hb10⟩
      rw [F4.out, F5.out, F6.out]
      try (replace kA := kA.below hb10 kA.lt)
      try (replace kB := kB.below hb10 kB.lt)
      try (replace kC := kC.below hb10 kC.lt)
      try (replace kD := kD.below hb10 kD.lt)
      try (replace kE := kE.below hb10 kE.lt)
      try (replace kF := kF.below hb10 kF.lt)
      try try clear x0 x1 x2 x3
      try clear y0 y1 y2 y3
      try clear z0 z1 z2 z3
      try clear v0 v1 v2 v3
      try clear u0 u1 u2 u3
      try clear t0 t1 t2 t3
      try (obtain ⟨⟨x0, x1⟩, x2, x3⟩ := id kA)
      try (obtain ⟨⟨y0, y1⟩, y2, y3⟩ := id kB)
      try (obtain ⟨⟨z0, z1⟩, z2, z3⟩ := id kC)
      try (obtain ⟨⟨v0, v1⟩, v2, v3⟩ := id kD)
      try (obtain ⟨⟨u0, u1⟩, u2, u3⟩ := id kE)
      try (obtain ⟨⟨t0, t1⟩, t2, t3⟩ := id kF)
      try (have lta := kA.lt)
      try (have ltb := kB.lt)
      try (have ltc := kC.lt)
      try (have ltd := kD.lt)
      try (have lte := kE.lt)
      try (have ltf := kF.lt)
      go_wp2_with fail
      obtain ⟨w11, hk⟩ : ∃ w11, w11 = (w10).alloc (.cells #[.int .i64 (sc), .int .i64 (lc)] 23) := ⟨_, rfl⟩
      obtain ⟨gc, hgg⟩ : ∃ gc, gc = (w10).heap.size := ⟨_, rfl⟩
      obtain ⟨kC, hbw11⟩ := new_brk hk
      rw [← hk, ← hgg]
      rw [← hgg] at kC
      have hgcw : w.heap.size ≤ gc := by
        have := (show Below w.heap.size w (w10) from (by repeat (first | exact Below.refl _ _ | apply keep_alloc | apply keep_drew | apply keep_drewN | refine keep_step (by assumption) ?_ (by rfl) | refine keep_set ?_ _ _ (by first | exact Nat.le_refl _ | (show _ ≤ _; simp; done) | (show _ ≤ _; simp; omega))))).size
        omega
      try (have nagc : ga < gc := by have := kA.lt; omega)
      try (have nbgc : gb < gc := by have := kB.lt; omega)
      try (have ncgc : gc < gc := by have := kC.lt; omega)
      clear hk hgg
      try (replace kA := kA.below hbw11 kA.lt)
      try (replace kB := kB.below hbw11 kB.lt)
      try (replace kC := kC.below hbw11 kC.lt)
      try (replace kD := kD.below hbw11 kD.lt)
      try (replace kE := kE.below hbw11 kE.lt)
      try (replace kF := kF.below hbw11 kF.lt)
      try try clear x0 x1 x2 x3
      try clear y0 y1 y2 y3
      try clear z0 z1 z2 z3
      try clear v0 v1 v2 v3
      try clear u0 u1 u2 u3
      try clear t0 t1 t2 t3
      try (obtain ⟨⟨x0, x1⟩, x2, x3⟩ := id kA)
      try (obtain ⟨⟨y0, y1⟩, y2, y3⟩ := id kB)
      try (obtain ⟨⟨z0, z1⟩, z2, z3⟩ := id kC)
      try (obtain ⟨⟨v0, v1⟩, v2, v3⟩ := id kD)
      try (obtain ⟨⟨u0, u1⟩, u2, u3⟩ := id kE)
      try (obtain ⟨⟨t0, t1⟩, t2, t3⟩ := id kF)
      try (have lta := kA.lt)
      try (have ltb := kB.lt)
      try (have ltc := kC.lt)
      try (have ltd := kD.lt)
      try (have lte := kE.lt)
      try (have ltf := kF.lt)
      refine (pRun (s) (0) (m) ((p : Int) + (q : Int)) _).mono ?_
      rintro _ w12 ⟨rfl, hb12⟩
      rw [F7.out, F8.out, F9.out]
      try (replace kA := kA.below hb12 kA.lt)
      try (replace kB := kB.below hb12 kB.lt)
      try (replace kC := kC.below hb12 kC.lt)
      try (replace kD := kD.below hb12 kD.lt)
      try (replace kE := kE.below hb12 kE.lt)
      try (replace kF := kF.below hb12 kF.lt)
      try try clear x0 x1 x2 x3
      try clear y0 y1 y2 y3
      try clear z0 z1 z2 z3
      try clear v0 v1 v2 v3
      try clear u0 u1 u2 u3
      try clear t0 t1 t2 t3
      try (obtain ⟨⟨x0, x1⟩, x2, x3⟩ := id kA)
      try (obtain ⟨⟨y0, y1⟩, y2, y3⟩ := id kB)
      try (obtain ⟨⟨z0, z1⟩, z2, z3⟩ := id kC)
      try (obtain ⟨⟨v0, v1⟩, v2, v3⟩ := id kD)
      try (obtain ⟨⟨u0, u1⟩, u2, u3⟩ := id kE)
      try (obtain ⟨⟨t0, t1⟩, t2, t3⟩ := id kF)
      try (have lta := kA.lt)
      try (have ltb := kB.lt)
      try (have ltc := kC.lt)
      try (have ltd := kD.lt)
      try (have lte := kE.lt)
      try (have ltf := kF.lt)
      go_wp2_with fail
      obtain ⟨w13, hk⟩ : ∃ w13, w13 = (w12).alloc (.cells #[.int .i64 (sc), .int .i64 (lc)] 23) := ⟨_, rfl⟩
      obtain ⟨gd, hgg⟩ : ∃ gd, gd = (w12).heap.size := ⟨_, rfl⟩
      obtain ⟨kD, hbw13⟩ := new_brk hk
      rw [← hk, ← hgg]
      rw [← hgg] at kD
      have hgdw : w.heap.size ≤ gd := by
        have := (show Below w.heap.size w (w12) from (by repeat (first | exact Below.refl _ _ | apply keep_alloc | apply keep_drew | apply keep_drewN | refine keep_step (by assumption) ?_ (by rfl) | refine keep_set ?_ _ _ (by first | exact Nat.le_refl _ | (show _ ≤ _; simp; done) | (show _ ≤ _; simp; omega))))).size
        omega
      try (have nagd : ga < gd := by have := kA.lt; omega)
      try (have nbgd : gb < gd := by have := kB.lt; omega)
      try (have ncgd : gc < gd := by have := kC.lt; omega)
      clear hk hgg
      try (replace kA := kA.below hbw13 kA.lt)
      try (replace kB := kB.below hbw13 kB.lt)
      try (replace kC := kC.below hbw13 kC.lt)
      try (replace kD := kD.below hbw13 kD.lt)
      try (replace kE := kE.below hbw13 kE.lt)
      try (replace kF := kF.below hbw13 kF.lt)
      try try clear x0 x1 x2 x3
      try clear y0 y1 y2 y3
      try clear z0 z1 z2 z3
      try clear v0 v1 v2 v3
      try clear u0 u1 u2 u3
      try clear t0 t1 t2 t3
      try (obtain ⟨⟨x0, x1⟩, x2, x3⟩ := id kA)
      try (obtain ⟨⟨y0, y1⟩, y2, y3⟩ := id kB)
      try (obtain ⟨⟨z0, z1⟩, z2, z3⟩ := id kC)
      try (obtain ⟨⟨v0, v1⟩, v2, v3⟩ := id kD)
      try (obtain ⟨⟨u0, u1⟩, u2, u3⟩ := id kE)
      try (obtain ⟨⟨t0, t1⟩, t2, t3⟩ := id kF)
      try (have lta := kA.lt)
      try (have ltb := kB.lt)
      try (have ltc := kC.lt)
      try (have ltd := kD.lt)
      try (have lte := kE.lt)
      try (have ltf := kF.lt)
      refine (pEnds (s) (0) (m) _).mono ?_
      rintro _ w14 ⟨rfl, hb14⟩
      rw [F10.out, F11.out, F12.out, VAL.out]
      try (replace kA := kA.below hb14 kA.lt)
      try (replace kB := kB.below hb14 kB.lt)
      try (replace kC := kC.below hb14 kC.lt)
      try (replace kD := kD.below hb14 kD.lt)
      try (replace kE := kE.below hb14 kE.lt)
      try (replace kF := kF.below hb14 kF.lt)
      try try clear x0 x1 x2 x3
      try clear y0 y1 y2 y3
      try clear z0 z1 z2 z3
      try clear v0 v1 v2 v3
      try clear u0 u1 u2 u3
      try clear t0 t1 t2 t3
      try (obtain ⟨⟨x0, x1⟩, x2, x3⟩ := id kA)
      try (obtain ⟨⟨y0, y1⟩, y2, y3⟩ := id kB)
      try (obtain ⟨⟨z0, z1⟩, z2, z3⟩ := id kC)
      try (obtain ⟨⟨v0, v1⟩, v2, v3⟩ := id kD)
      try (obtain ⟨⟨u0, u1⟩, u2, u3⟩ := id kE)
      try (obtain ⟨⟨t0, t1⟩, t2, t3⟩ := id kF)
      try (have lta := kA.lt)
      try (have ltb := kB.lt)
      try (have ltc := kC.lt)
      try (have ltd := kD.lt)
      try (have lte := kE.lt)
      try (have ltf := kF.lt)
      go_wp2_with fail
      obtain ⟨w15, hk⟩ : ∃ w15, w15 = (w14).alloc (.cells #[.int .i64 (sz), .int .i64 (0)] 23) := ⟨_, rfl⟩
      obtain ⟨ge, hgg⟩ : ∃ ge, ge = (w14).heap.size := ⟨_, rfl⟩
      obtain ⟨kE, hbw15⟩ := new_brk hk
      rw [← hk, ← hgg]
      rw [← hgg] at kE
      have hgew : w.heap.size ≤ ge := by
        have := (show Below w.heap.size w (w14) from (by repeat (first | exact Below.refl _ _ | apply keep_alloc | apply keep_drew | apply keep_drewN | refine keep_step (by assumption) ?_ (by rfl) | refine keep_set ?_ _ _ (by first | exact Nat.le_refl _ | (show _ ≤ _; simp; done) | (show _ ≤ _; simp; omega))))).size
        omega
      try (have nage : ga < ge := by have := kA.lt; omega)
      try (have nbge : gb < ge := by have := kB.lt; omega)
      try (have ncge : gc < ge := by have := kC.lt; omega)
      clear hk hgg
      try (replace kA := kA.below hbw15 kA.lt)
      try (replace kB := kB.below hbw15 kB.lt)
      try (replace kC := kC.below hbw15 kC.lt)
      try (replace kD := kD.below hbw15 kD.lt)
      try (replace kE := kE.below hbw15 kE.lt)
      try (replace kF := kF.below hbw15 kF.lt)
      try try clear x0 x1 x2 x3
      try clear y0 y1 y2 y3
      try clear z0 z1 z2 z3
      try clear v0 v1 v2 v3
      try clear u0 u1 u2 u3
      try clear t0 t1 t2 t3
      try (obtain ⟨⟨x0, x1⟩, x2, x3⟩ := id kA)
      try (obtain ⟨⟨y0, y1⟩, y2, y3⟩ := id kB)
      try (obtain ⟨⟨z0, z1⟩, z2, z3⟩ := id kC)
      try (obtain ⟨⟨v0, v1⟩, v2, v3⟩ := id kD)
      try (obtain ⟨⟨u0, u1⟩, u2, u3⟩ := id kE)
      try (obtain ⟨⟨t0, t1⟩, t2, t3⟩ := id kF)
      try (have lta := kA.lt)
      try (have ltb := kB.lt)
      try (have ltc := kC.lt)
      try (have ltd := kD.lt)
      try (have lte := kE.lt)
      try (have ltf := kF.lt)
      refine (pRun (s) (0) (m) (0) _).mono ?_
      rintro _ w16 ⟨rfl, hb16⟩
      rw [F13.out, F14.out, F15.out]
      try (replace kA := kA.below hb16 kA.lt)
      try (replace kB := kB.below hb16 kB.lt)
      try (replace kC := kC.below hb16 kC.lt)
      try (replace kD := kD.below hb16 kD.lt)
      try (replace kE := kE.below hb16 kE.lt)
      try (replace kF := kF.below hb16 kF.lt)
      try try clear x0 x1 x2 x3
      try clear y0 y1 y2 y3
      try clear z0 z1 z2 z3
      try clear v0 v1 v2 v3
      try clear u0 u1 u2 u3
      try clear t0 t1 t2 t3
      try (obtain ⟨⟨x0, x1⟩, x2, x3⟩ := id kA)
      try (obtain ⟨⟨y0, y1⟩, y2, y3⟩ := id kB)
      try (obtain ⟨⟨z0, z1⟩, z2, z3⟩ := id kC)
      try (obtain ⟨⟨v0, v1⟩, v2, v3⟩ := id kD)
      try (obtain ⟨⟨u0, u1⟩, u2, u3⟩ := id kE)
      try (obtain ⟨⟨t0, t1⟩, t2, t3⟩ := id kF)
      try (have lta := kA.lt)
      try (have ltb := kB.lt)
      try (have ltc := kC.lt)
      try (have ltd := kD.lt)
      try (have lte := kE.lt)
      try (have ltf := kF.lt)
      go_wp2_with fail
      obtain ⟨w17, hk⟩ : ∃ w17, w17 = (w16).alloc (.cells #[.int .i64 (sz), .int .i64 (0)] 23) := ⟨_, rfl⟩
      obtain ⟨gf, hgg⟩ : ∃ gf, gf = (w16).heap.size := ⟨_, rfl⟩
      obtain ⟨kF, hbw17⟩ := new_brk hk
      rw [← hk, ← hgg]
      rw [← hgg] at kF
      have hgfw : w.heap.size ≤ gf := by
        have := (show Below w.heap.size w (w16) from (by repeat (first | exact Below.refl _ _ | apply keep_alloc | apply keep_drew | apply keep_drewN | refine keep_step (by assumption) ?_ (by rfl) | refine keep_set ?_ _ _ (by first | exact Nat.le_refl _ | (show _ ≤ _; simp; done) | (show _ ≤ _; simp; omega))))).size
        omega
      try (have nagf : ga < gf := by have := kA.lt; omega)
      try (have nbgf : gb < gf := by have := kB.lt; omega)
      try (have ncgf : gc < gf := by have := kC.lt; omega)
      clear hk hgg
      try (replace kA := kA.below hbw17 kA.lt)
      try (replace kB := kB.below hbw17 kB.lt)
      try (replace kC := kC.below hbw17 kC.lt)
      try (replace kD := kD.below hbw17 kD.lt)
      try (replace kE := kE.below hbw17 kE.lt)
      try (replace kF := kF.below hbw17 kF.lt)
      try try clear x0 x1 x2 x3
      try clear y0 y1 y2 y3
      try clear z0 z1 z2 z3
      try clear v0 v1 v2 v3
      try clear u0 u1 u2 u3
      try clear t0 t1 t2 t3
      try (obtain ⟨⟨x0, x1⟩, x2, x3⟩ := id kA)
      try (obtain ⟨⟨y0, y1⟩, y2, y3⟩ := id kB)
      try (obtain ⟨⟨z0, z1⟩, z2, z3⟩ := id kC)
      try (obtain ⟨⟨v0, v1⟩, v2, v3⟩ := id kD)
      try (obtain ⟨⟨u0, u1⟩, u2, u3⟩ := id kE)
      try (obtain ⟨⟨t0, t1⟩, t2, t3⟩ := id kF)
      try (have lta := kA.lt)
      try (have ltb := kB.lt)
      try (have ltc := kC.lt)
      try (have ltd := kD.lt)
      try (have lte := kE.lt)
      try (have ltf := kF.lt)
      go_wp2_with (first | (go_at_call 23; (apply Calls.mono; (focus ((first | (with_reducible exact awake_true) | (apply awake_true <;> first | (with_reducible assumption) | (first | omega | (subst_vars; omega) | (simp only [Bool.not_eq_true', Bool.not_eq_false', beq_iff_eq, beq_eq_false_iff_ne, ne_eq, bne_iff_ne, bne_eq_false_iff_eq, Bool.not_eq_true, Bool.not_eq_false, decide_eq_true_eq, decide_eq_false_iff_not, Bool.and_eq_true, Bool.or_eq_true] at *; first | omega | (subst_vars; omega)) | (simp only [Bool.not_eq_true', Bool.not_eq_false', beq_iff_eq, beq_eq_false_iff_ne, ne_eq, bne_iff_ne, bne_eq_false_iff_eq, Bool.not_eq_true, Bool.not_eq_false, decide_eq_true_eq, decide_eq_false_iff_not, Bool.and_eq_true, Bool.or_eq_true, wrap64] at *; first | omega | (subst_vars; omega))))); done))); rintro e w' ⟨rfl, hb⟩; obtain ⟨hc, hf⟩ := bcell (show Below w.heap.size w w' from (by repeat (first | exact Below.refl _ _ | apply keep_alloc | apply keep_drew | apply keep_drewN | refine keep_step (by assumption) ?_ (by rfl) | refine keep_set ?_ _ _ (by first | exact Nat.le_refl _ | (show _ ≤ _; simp; done) | (show _ ≤ _; simp; omega)))))))
      go_ret
      exact ⟨rfl, (by repeat (first | exact Below.refl _ _ | apply keep_alloc | apply keep_drew | apply keep_drewN | refine keep_step (by assumption) ?_ (by rfl) | refine keep_set ?_ _ _ (by first | exact Nat.le_refl _ | (show _ ≤ _; simp; done) | (show _ ≤ _; simp; omega))))⟩
end Go.Proofs.Ytmlalncohkingaa
