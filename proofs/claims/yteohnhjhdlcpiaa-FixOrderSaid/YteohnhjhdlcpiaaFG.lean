/- Layer 1: Scale, Div. -/
import Derived.Test.YteohnhjhdlcpiaaFF
namespace Go.Proofs.Yteohnhjhdlcpiaa
open Go.RowKit
set_option linter.unusedVariables false

/-- the size of a rounded quotient -/
def qS (n c how : Int) : Int := mag n / mag c + if (decide (mag n % mag c ≠ 0) && upB (mag n / mag c) (mag n % mag c) (mag c) (decide (n < 0) != decide (c < 0)) how) = true then 1 else 0
/-- the rounded quotient -/
def scl (n c how : Int) : Int := if (decide (n < 0) != decide (c < 0)) = true then -qS n c how else qS n c how
theorem mag_prod {a b : Int} (ha : In64 a) (hb : In64 b) : mag (a * b) ≤ 85070591730234615865843651857942052864 := by
  obtain ⟨m0, m1⟩ := mag_mul ha hb
  have hs := mag_sign a b
  unfold mag
  split at hs <;> split <;> omega
theorem mag127 {v : Int} (h : Is127 v) : 0 ≤ mag v ∧ mag v ≤ 170141183460469231731687303715884105728 := by unfold Is127 at h; unfold mag; split <;> omega

set_option maxHeartbeats 8000000 in
theorem pScale (lo hi a b c how : Int) (w : World) (hlo : In64 lo) (hhi : In64 hi) (ha : In64 a) (hb : In64 b) (hc : In64 c) (hlh : lo ≤ hi) (hhow : how = 1 ∨ how = 2 ∨ how = 3) (hc0 : c ≠ 0) (hS : SplitOK (mag (a * b)) (mag c)) :
    Calls Try.prog 23 #[(.agg #[.int .i64 lo, .int .i64 hi]), .int .i64 a, .int .i64 b, .int .i64 c, .int .i64 how] w (Out2 (okV lo hi (scl (a * b) c how)) (okE lo hi (scl (a * b) c how)) w) := by
  obtain ⟨w1, hw1⟩ : ∃ w1, w1 = w.alloc (.cells #[.int .i64 lo, .int .i64 hi] 23) := ⟨_, rfl⟩
  obtain ⟨g, hg⟩ : ∃ g, g = w.heap.size := ⟨_, rfl⟩
  have hb1 : Below w.heap.size w w1 := by rw [hw1]; exact (by repeat (first | exact Below.refl _ _ | apply keep_alloc | apply keep_drew | apply keep_drewN | refine keep_step (by assumption) ?_ (by rfl) | refine keep_set ?_ _ _ (by first | exact Nat.le_refl _ | (show _ ≤ _; simp; done) | (show _ ≤ _; simp; omega))))
  have z0 : (w1).cell? ⟨g, 0, none⟩ = some (.int .i64 lo) := by rw [hw1, hg, World.cell?_alloc_at _ _ _ _ (by simp)]; rfl
  have z1 : (w1).cell? ⟨g, 1, none⟩ = some (.int .i64 hi) := by rw [hw1, hg, World.cell?_alloc_at _ _ _ _ (by simp)]; rfl
  have hgl : g < (w1).heap.size := World.block_lt_of_cell? w1 _ z0
  have hgw : w.heap.size ≤ g := by omega
  obtain ⟨n, hn⟩ : ∃ n, n = a * b := ⟨_, rfl⟩
  have h127 : Is127 n := by rw [hn]; exact (in127 ha hb).2.2.2
  have hS2 : SplitOK (mag n) (mag c) := by rw [hn]; exact hS
  obtain ⟨m0, _⟩ := mag127 h127
  have m1 : mag n ≤ 85070591730234615865843651857942052864 := by rw [hn]; exact mag_prod ha hb
  obtain ⟨y0, y1⟩ := mag_rng hc
  have y2 : 1 ≤ mag c := by unfold mag; split <;> omega
  obtain ⟨q, hq⟩ : ∃ q, q = mag n / mag c := ⟨_, rfl⟩
  obtain ⟨r, hr⟩ : ∃ r, r = mag n % mag c := ⟨_, rfl⟩
  have r0 : 0 ≤ r := by rw [hr]; exact Int.emod_nonneg _ (by omega)
  have r1 : r < mag c := by rw [hr]; exact Int.emod_lt_of_pos _ (by omega)
  have q0 : 0 ≤ q := by rw [hq]; exact Int.ediv_nonneg m0 (by omega)
  have q1 : q ≤ mag n := by rw [hq]; exact Int.ediv_le_self _ m0
  have HP := Lib.hid hn
  have HW := Lib.hid hhow
  have CW := Lib.hid (chkW_ok (show ¬ hi < lo by omega))
  have hhow1 : 1 ≤ how := by omega
  have hhow3 : how ≤ 3 := by omega
  have hcb : (c == 0) = false := by simp [hc0]
  have SG := Lib.hid (w_sign h127)
  have HC := Lib.hid (show c < 0 ∨ 0 < c by omega)
  rw [← hn]
  have HQ := Lib.hid hq
  have HRR := Lib.hid hr
  clear hS hhow hn hc0 hq hr
  go_enter Try.func23, Try.ntmps23
  go_wp2_with fail
  rw [← hw1, ← hg]
  clear hw1
  refine (pfixCheck lo hi _).mono ?_
  rintro _ w2 ⟨rfl, hb2⟩
  rw [CW.out]
  replace z0 := (hb2.cell (p := ⟨g, 0, none⟩) hgl).trans z0
  replace z1 := (hb2.cell (p := ⟨g, 1, none⟩) hgl).trans z1
  replace hgl := World.block_lt_of_cell? _ _ z0
  simp only at hgl
  clear hg
  go_wp2_with fail
  refine (pproduct a b _ ha hb).mono ?_
  rintro _ w3 ⟨rfl, hb3⟩
  rw [← HP.out]
  replace z0 := (hb3.cell (p := ⟨g, 0, none⟩) hgl).trans z0
  replace z1 := (hb3.cell (p := ⟨g, 1, none⟩) hgl).trans z1
  replace hgl := World.block_lt_of_cell? _ _ z0
  simp only at hgl
  obtain ⟨k, hk⟩ : ∃ k, k = w3.heap.size := ⟨_, rfl⟩
  obtain ⟨w4, hw4⟩ : ∃ w4, w4 = w3.alloc (.cells #[.int .u64 (HI n), .int .u64 (LO n)] 53) := ⟨_, rfl⟩
  have hN : Num w4 k n := by rw [hw4, hk]; exact Wd.made _ _ _ _
  have hb4 : Below w3.heap.size w3 w4 := by rw [hw4]; exact (Below.refl _ _).alloc (Nat.le_refl _) _
  have hbw4 : Below w.heap.size w w4 := by rw [hw4]; exact (by repeat (first | exact Below.refl _ _ | apply keep_alloc | apply keep_drew | apply keep_drewN | refine keep_step (by assumption) ?_ (by rfl) | refine keep_set ?_ _ _ (by first | exact Nat.le_refl _ | (show _ ≤ _; simp; done) | (show _ ≤ _; simp; omega))))
  have hgk : g ≠ k := by omega
  have hkw : w.heap.size ≤ k := by omega
  have hkl := hN.lt
  rcases (show n < 0 ∨ 0 ≤ n by omega) with hs | hs
  · have hsb : (HI n / 9223372036854775808 == 1) = true := by rw [SG.out, if_pos hs]; rfl
    have HMN : Hid (-n = mag n) := Lib.hid (by unfold mag; rw [if_pos hs])
    go_wp2_with fail
    rw [← hw4, ← hk]
    refine (pnegate k n _ hN).mono ?_
    rintro _ w5 ⟨rfl, hN5, ht5⟩
    rw [HMN.out] at hN5
    replace z0 := (hb4.cell (p := ⟨g, 0, none⟩) hgl).trans z0
    replace z1 := (hb4.cell (p := ⟨g, 1, none⟩) hgl).trans z1
    replace hgl := World.block_lt_of_cell? _ _ z0
    simp only at hgl
    clear hw4 hk
    have hbw5 : Below w.heap.size w w5 := keep_turn ht5 (show Below w.heap.size w w4 from (by repeat (first | exact Below.refl _ _ | apply keep_alloc | apply keep_drew | apply keep_drewN | refine keep_step (by assumption) ?_ (by rfl) | refine keep_set ?_ _ _ (by first | exact Nat.le_refl _ | (show _ ≤ _; simp; done) | (show _ ≤ _; simp; omega))))) hkw
    replace z0 := ((turn_cell ht5).1 g 0 hgl hgk).trans z0
    replace z1 := ((turn_cell ht5).1 g 1 hgl hgk).trans z1
    replace hgl := World.block_lt_of_cell? _ _ z0
    simp only at hgl
    replace hN := hN5
    clear ht5
    try clear x0 x1 x2 x3
    obtain ⟨⟨x0, x1⟩, x2, x3⟩ := id hN
    have hkl := hN.lt
    rcases HC.out with hcs | hcs
    · have hcd : decide (c < 0) = true := by simp; omega
      obtain ⟨SB, hSB⟩ : ∃ SB, SB = false := ⟨_, rfl⟩
      have DS : Hid ((decide (n < 0) != decide (c < 0)) = SB) := Lib.hid (by rw [hSB, hcd, show decide (n < 0) = true by simp; omega]; rfl)
      subst hSB
      go_wp2_with fail
      refine (pmag c _ hc).mono ?_
      rintro _ w6 ⟨rfl, hb6⟩
      replace z0 := (hb6.cell (p := ⟨g, 0, none⟩) hgl).trans z0
      replace z1 := (hb6.cell (p := ⟨g, 1, none⟩) hgl).trans z1
      replace hgl := World.block_lt_of_cell? _ _ z0
      simp only at hgl
      replace hN := Wd.below hN hb6 hkl
      try clear x0 x1 x2 x3
      obtain ⟨⟨x0, x1⟩, x2, x3⟩ := id hN
      have hkl := hN.lt
      have hbwx : Below w.heap.size w w6 := (by repeat (first | exact Below.refl _ _ | apply keep_alloc | apply keep_drew | apply keep_drewN | refine keep_step (by assumption) ?_ (by rfl) | refine keep_set ?_ _ _ (by first | exact Nat.le_refl _ | (show _ ≤ _; simp; done) | (show _ ≤ _; simp; omega))))
      go_wp2_with fail
      refine (hS2 k _ hN).mono ?_
      rintro _ w7 ⟨rfl, hN7, ht7⟩
      rw [← HQ.out] at hN7
      rw [← HRR.out]
      have hbw7 : Below w.heap.size w w7 := keep_turn ht7 (show Below w.heap.size w w6 from (by repeat (first | exact Below.refl _ _ | apply keep_alloc | apply keep_drew | apply keep_drewN | refine keep_step (by assumption) ?_ (by rfl) | refine keep_set ?_ _ _ (by first | exact Nat.le_refl _ | (show _ ≤ _; simp; done) | (show _ ≤ _; simp; omega))))) hkw
      replace z0 := ((turn_cell ht7).1 g 0 hgl hgk).trans z0
      replace z1 := ((turn_cell ht7).1 g 1 hgl hgk).trans z1
      replace hgl := World.block_lt_of_cell? _ _ z0
      simp only at hgl
      replace hN := hN7
      clear ht7
      try clear x0 x1 x2 x3
      obtain ⟨⟨x0, x1⟩, x2, x3⟩ := id hN
      have hkl := hN.lt
      by_cases hr0 : r = 0
      · have hb0 : (r != 0) = false := by simp [hr0]
        have RES : Hid (scl n c how = q) := Lib.hid (by unfold scl qS; rw [DS.out, ← HQ.out, ← HRR.out]; simp [hr0])
        have HR := Lib.hid hr0
        clear hr0
        go_wp2_with fail
        refine (pwithin (q) lo hi _ (by unfold Is127; omega) hlo hhi).mono ?_
        rintro _ w20 ⟨rfl, hb20⟩
        go_wp2
        go_ret2
        exact out2 (by rw [RES.out]) (by rw [RES.out]) (by repeat (first | exact Below.refl _ _ | apply keep_alloc | apply keep_drew | apply keep_drewN | refine keep_step (by assumption) ?_ (by rfl) | refine keep_set ?_ _ _ (by first | exact Nat.le_refl _ | (show _ ≤ _; simp; done) | (show _ ≤ _; simp; omega))))
      · have hb0 : (r != 0) = true := by simp [hr0]
        cases hup : upB q r (mag c) false how
        · have RES : Hid (scl n c how = q) := Lib.hid (by unfold scl qS; rw [DS.out, ← HQ.out, ← HRR.out, hup]; simp)
          have UP := Lib.hid hup
          have HR := Lib.hid hr0
          clear hr0 hup
          go_wp2_with fail
          refine (poutward q r (mag c) _ how _ r0 r1 y1 HW.out).mono ?_
          rintro _ w8 ⟨rfl, hb8⟩
          rw [UP.out]
          replace z0 := (hb8.cell (p := ⟨g, 0, none⟩) hgl).trans z0
          replace z1 := (hb8.cell (p := ⟨g, 1, none⟩) hgl).trans z1
          replace hgl := World.block_lt_of_cell? _ _ z0
          simp only at hgl
          replace hN := Wd.below hN hb8 hkl
          try clear x0 x1 x2 x3
          obtain ⟨⟨x0, x1⟩, x2, x3⟩ := id hN
          have hkl := hN.lt
          go_wp2_with fail
          refine (pwithin (q) lo hi _ (by unfold Is127; omega) hlo hhi).mono ?_
          rintro _ w20 ⟨rfl, hb20⟩
          go_wp2
          go_ret2
          exact out2 (by rw [RES.out]) (by rw [RES.out]) (by repeat (first | exact Below.refl _ _ | apply keep_alloc | apply keep_drew | apply keep_drewN | refine keep_step (by assumption) ?_ (by rfl) | refine keep_set ?_ _ _ (by first | exact Nat.le_refl _ | (show _ ≤ _; simp; done) | (show _ ≤ _; simp; omega))))
        · have RES : Hid (scl n c how = q + 1) := Lib.hid (by unfold scl qS; rw [DS.out, ← HQ.out, ← HRR.out, hup]; simp [hr0])
          have UP := Lib.hid hup
          have HR := Lib.hid hr0
          clear hr0 hup
          go_wp2_with fail
          refine (poutward q r (mag c) _ how _ r0 r1 y1 HW.out).mono ?_
          rintro _ w8 ⟨rfl, hb8⟩
          rw [UP.out]
          replace z0 := (hb8.cell (p := ⟨g, 0, none⟩) hgl).trans z0
          replace z1 := (hb8.cell (p := ⟨g, 1, none⟩) hgl).trans z1
          replace hgl := World.block_lt_of_cell? _ _ z0
          simp only at hgl
          replace hN := Wd.below hN hb8 hkl
          try clear x0 x1 x2 x3
          obtain ⟨⟨x0, x1⟩, x2, x3⟩ := id hN
          have hkl := hN.lt
          go_wp2_with fail
          refine (pwiden 1 _ (by unfold In64; omega)).mono ?_
          rintro _ w9 ⟨rfl, hb9⟩
          replace z0 := (hb9.cell (p := ⟨g, 0, none⟩) hgl).trans z0
          replace z1 := (hb9.cell (p := ⟨g, 1, none⟩) hgl).trans z1
          replace hgl := World.block_lt_of_cell? _ _ z0
          simp only at hgl
          replace hN := Wd.below hN hb9 hkl
          try clear x0 x1 x2 x3
          obtain ⟨⟨x0, x1⟩, x2, x3⟩ := id hN
          have hkl := hN.lt
          go_wp2_with fail
          refine (padd k q 1 _ hN).mono ?_
          rintro _ w10 ⟨rfl, hN10, ht10⟩
          have hbw10 : Below w.heap.size w w10 := keep_turn ht10 (show Below w.heap.size w w9 from (by repeat (first | exact Below.refl _ _ | apply keep_alloc | apply keep_drew | apply keep_drewN | refine keep_step (by assumption) ?_ (by rfl) | refine keep_set ?_ _ _ (by first | exact Nat.le_refl _ | (show _ ≤ _; simp; done) | (show _ ≤ _; simp; omega))))) hkw
          replace z0 := ((turn_cell ht10).1 g 0 hgl hgk).trans z0
          replace z1 := ((turn_cell ht10).1 g 1 hgl hgk).trans z1
          replace hgl := World.block_lt_of_cell? _ _ z0
          simp only at hgl
          replace hN := hN10
          clear ht10
          try clear x0 x1 x2 x3
          obtain ⟨⟨x0, x1⟩, x2, x3⟩ := id hN
          have hkl := hN.lt
          go_wp2_with fail
          refine (pwithin (q + 1) lo hi _ (by unfold Is127; omega) hlo hhi).mono ?_
          rintro _ w20 ⟨rfl, hb20⟩
          go_wp2
          go_ret2
          exact out2 (by rw [RES.out]) (by rw [RES.out]) (by repeat (first | exact Below.refl _ _ | apply keep_alloc | apply keep_drew | apply keep_drewN | refine keep_step (by assumption) ?_ (by rfl) | refine keep_set ?_ _ _ (by first | exact Nat.le_refl _ | (show _ ≤ _; simp; done) | (show _ ≤ _; simp; omega))))
    · have hcd : decide (c < 0) = false := by simp; omega
      obtain ⟨SB, hSB⟩ : ∃ SB, SB = true := ⟨_, rfl⟩
      have DS : Hid ((decide (n < 0) != decide (c < 0)) = SB) := Lib.hid (by rw [hSB, hcd, show decide (n < 0) = true by simp; omega]; rfl)
      subst hSB
      go_wp2_with fail
      refine (pmag c _ hc).mono ?_
      rintro _ w6 ⟨rfl, hb6⟩
      replace z0 := (hb6.cell (p := ⟨g, 0, none⟩) hgl).trans z0
      replace z1 := (hb6.cell (p := ⟨g, 1, none⟩) hgl).trans z1
      replace hgl := World.block_lt_of_cell? _ _ z0
      simp only at hgl
      replace hN := Wd.below hN hb6 hkl
      try clear x0 x1 x2 x3
      obtain ⟨⟨x0, x1⟩, x2, x3⟩ := id hN
      have hkl := hN.lt
      have hbwx : Below w.heap.size w w6 := (by repeat (first | exact Below.refl _ _ | apply keep_alloc | apply keep_drew | apply keep_drewN | refine keep_step (by assumption) ?_ (by rfl) | refine keep_set ?_ _ _ (by first | exact Nat.le_refl _ | (show _ ≤ _; simp; done) | (show _ ≤ _; simp; omega))))
      go_wp2_with fail
      refine (hS2 k _ hN).mono ?_
      rintro _ w7 ⟨rfl, hN7, ht7⟩
      rw [← HQ.out] at hN7
      rw [← HRR.out]
      have hbw7 : Below w.heap.size w w7 := keep_turn ht7 (show Below w.heap.size w w6 from (by repeat (first | exact Below.refl _ _ | apply keep_alloc | apply keep_drew | apply keep_drewN | refine keep_step (by assumption) ?_ (by rfl) | refine keep_set ?_ _ _ (by first | exact Nat.le_refl _ | (show _ ≤ _; simp; done) | (show _ ≤ _; simp; omega))))) hkw
      replace z0 := ((turn_cell ht7).1 g 0 hgl hgk).trans z0
      replace z1 := ((turn_cell ht7).1 g 1 hgl hgk).trans z1
      replace hgl := World.block_lt_of_cell? _ _ z0
      simp only at hgl
      replace hN := hN7
      clear ht7
      try clear x0 x1 x2 x3
      obtain ⟨⟨x0, x1⟩, x2, x3⟩ := id hN
      have hkl := hN.lt
      by_cases hr0 : r = 0
      · have hb0 : (r != 0) = false := by simp [hr0]
        have RES : Hid (scl n c how = -q) := Lib.hid (by unfold scl qS; rw [DS.out, ← HQ.out, ← HRR.out]; simp [hr0])
        have HR := Lib.hid hr0
        clear hr0
        go_wp2_with fail
        refine (pnegate k (q) _ hN).mono ?_
        rintro _ w19 ⟨rfl, hN19, ht19⟩
        have hbw19 : Below w.heap.size w w19 := keep_turn ht19 (show Below w.heap.size w w7 from (by repeat (first | exact Below.refl _ _ | apply keep_alloc | apply keep_drew | apply keep_drewN | refine keep_step (by assumption) ?_ (by rfl) | refine keep_set ?_ _ _ (by first | exact Nat.le_refl _ | (show _ ≤ _; simp; done) | (show _ ≤ _; simp; omega))))) hkw
        replace z0 := ((turn_cell ht19).1 g 0 hgl hgk).trans z0
        replace z1 := ((turn_cell ht19).1 g 1 hgl hgk).trans z1
        replace hgl := World.block_lt_of_cell? _ _ z0
        simp only at hgl
        replace hN := hN19
        clear ht19
        try clear x0 x1 x2 x3
        obtain ⟨⟨x0, x1⟩, x2, x3⟩ := id hN
        have hkl := hN.lt
        go_wp2_with fail
        refine (pwithin (-(q)) lo hi _ (by unfold Is127; omega) hlo hhi).mono ?_
        rintro _ w20 ⟨rfl, hb20⟩
        go_wp2
        go_ret2
        exact out2 (by rw [RES.out]) (by rw [RES.out]) (by repeat (first | exact Below.refl _ _ | apply keep_alloc | apply keep_drew | apply keep_drewN | refine keep_step (by assumption) ?_ (by rfl) | refine keep_set ?_ _ _ (by first | exact Nat.le_refl _ | (show _ ≤ _; simp; done) | (show _ ≤ _; simp; omega))))
      · have hb0 : (r != 0) = true := by simp [hr0]
        cases hup : upB q r (mag c) true how
        · have RES : Hid (scl n c how = -q) := Lib.hid (by unfold scl qS; rw [DS.out, ← HQ.out, ← HRR.out, hup]; simp)
          have UP := Lib.hid hup
          have HR := Lib.hid hr0
          clear hr0 hup
          go_wp2_with fail
          refine (poutward q r (mag c) _ how _ r0 r1 y1 HW.out).mono ?_
          rintro _ w8 ⟨rfl, hb8⟩
          rw [UP.out]
          replace z0 := (hb8.cell (p := ⟨g, 0, none⟩) hgl).trans z0
          replace z1 := (hb8.cell (p := ⟨g, 1, none⟩) hgl).trans z1
          replace hgl := World.block_lt_of_cell? _ _ z0
          simp only at hgl
          replace hN := Wd.below hN hb8 hkl
          try clear x0 x1 x2 x3
          obtain ⟨⟨x0, x1⟩, x2, x3⟩ := id hN
          have hkl := hN.lt
          go_wp2_with fail
          refine (pnegate k (q) _ hN).mono ?_
          rintro _ w19 ⟨rfl, hN19, ht19⟩
          have hbw19 : Below w.heap.size w w19 := keep_turn ht19 (show Below w.heap.size w w8 from (by repeat (first | exact Below.refl _ _ | apply keep_alloc | apply keep_drew | apply keep_drewN | refine keep_step (by assumption) ?_ (by rfl) | refine keep_set ?_ _ _ (by first | exact Nat.le_refl _ | (show _ ≤ _; simp; done) | (show _ ≤ _; simp; omega))))) hkw
          replace z0 := ((turn_cell ht19).1 g 0 hgl hgk).trans z0
          replace z1 := ((turn_cell ht19).1 g 1 hgl hgk).trans z1
          replace hgl := World.block_lt_of_cell? _ _ z0
          simp only at hgl
          replace hN := hN19
          clear ht19
          try clear x0 x1 x2 x3
          obtain ⟨⟨x0, x1⟩, x2, x3⟩ := id hN
          have hkl := hN.lt
          go_wp2_with fail
          refine (pwithin (-(q)) lo hi _ (by unfold Is127; omega) hlo hhi).mono ?_
          rintro _ w20 ⟨rfl, hb20⟩
          go_wp2
          go_ret2
          exact out2 (by rw [RES.out]) (by rw [RES.out]) (by repeat (first | exact Below.refl _ _ | apply keep_alloc | apply keep_drew | apply keep_drewN | refine keep_step (by assumption) ?_ (by rfl) | refine keep_set ?_ _ _ (by first | exact Nat.le_refl _ | (show _ ≤ _; simp; done) | (show _ ≤ _; simp; omega))))
        · have RES : Hid (scl n c how = -(q + 1)) := Lib.hid (by unfold scl qS; rw [DS.out, ← HQ.out, ← HRR.out, hup]; simp [hr0])
          have UP := Lib.hid hup
          have HR := Lib.hid hr0
          clear hr0 hup
          go_wp2_with fail
          refine (poutward q r (mag c) _ how _ r0 r1 y1 HW.out).mono ?_
          rintro _ w8 ⟨rfl, hb8⟩
          rw [UP.out]
          replace z0 := (hb8.cell (p := ⟨g, 0, none⟩) hgl).trans z0
          replace z1 := (hb8.cell (p := ⟨g, 1, none⟩) hgl).trans z1
          replace hgl := World.block_lt_of_cell? _ _ z0
          simp only at hgl
          replace hN := Wd.below hN hb8 hkl
          try clear x0 x1 x2 x3
          obtain ⟨⟨x0, x1⟩, x2, x3⟩ := id hN
          have hkl := hN.lt
          go_wp2_with fail
          refine (pwiden 1 _ (by unfold In64; omega)).mono ?_
          rintro _ w9 ⟨rfl, hb9⟩
          replace z0 := (hb9.cell (p := ⟨g, 0, none⟩) hgl).trans z0
          replace z1 := (hb9.cell (p := ⟨g, 1, none⟩) hgl).trans z1
          replace hgl := World.block_lt_of_cell? _ _ z0
          simp only at hgl
          replace hN := Wd.below hN hb9 hkl
          try clear x0 x1 x2 x3
          obtain ⟨⟨x0, x1⟩, x2, x3⟩ := id hN
          have hkl := hN.lt
          go_wp2_with fail
          refine (padd k q 1 _ hN).mono ?_
          rintro _ w10 ⟨rfl, hN10, ht10⟩
          have hbw10 : Below w.heap.size w w10 := keep_turn ht10 (show Below w.heap.size w w9 from (by repeat (first | exact Below.refl _ _ | apply keep_alloc | apply keep_drew | apply keep_drewN | refine keep_step (by assumption) ?_ (by rfl) | refine keep_set ?_ _ _ (by first | exact Nat.le_refl _ | (show _ ≤ _; simp; done) | (show _ ≤ _; simp; omega))))) hkw
          replace z0 := ((turn_cell ht10).1 g 0 hgl hgk).trans z0
          replace z1 := ((turn_cell ht10).1 g 1 hgl hgk).trans z1
          replace hgl := World.block_lt_of_cell? _ _ z0
          simp only at hgl
          replace hN := hN10
          clear ht10
          try clear x0 x1 x2 x3
          obtain ⟨⟨x0, x1⟩, x2, x3⟩ := id hN
          have hkl := hN.lt
          go_wp2_with fail
          refine (pnegate k (q + 1) _ hN).mono ?_
          rintro _ w19 ⟨rfl, hN19, ht19⟩
          have hbw19 : Below w.heap.size w w19 := keep_turn ht19 (show Below w.heap.size w w10 from (by repeat (first | exact Below.refl _ _ | apply keep_alloc | apply keep_drew | apply keep_drewN | refine keep_step (by assumption) ?_ (by rfl) | refine keep_set ?_ _ _ (by first | exact Nat.le_refl _ | (show _ ≤ _; simp; done) | (show _ ≤ _; simp; omega))))) hkw
          replace z0 := ((turn_cell ht19).1 g 0 hgl hgk).trans z0
          replace z1 := ((turn_cell ht19).1 g 1 hgl hgk).trans z1
          replace hgl := World.block_lt_of_cell? _ _ z0
          simp only at hgl
          replace hN := hN19
          clear ht19
          try clear x0 x1 x2 x3
          obtain ⟨⟨x0, x1⟩, x2, x3⟩ := id hN
          have hkl := hN.lt
          go_wp2_with fail
          refine (pwithin (-(q + 1)) lo hi _ (by unfold Is127; omega) hlo hhi).mono ?_
          rintro _ w20 ⟨rfl, hb20⟩
          go_wp2
          go_ret2
          exact out2 (by rw [RES.out]) (by rw [RES.out]) (by repeat (first | exact Below.refl _ _ | apply keep_alloc | apply keep_drew | apply keep_drewN | refine keep_step (by assumption) ?_ (by rfl) | refine keep_set ?_ _ _ (by first | exact Nat.le_refl _ | (show _ ≤ _; simp; done) | (show _ ≤ _; simp; omega))))
  · have hsb : (HI n / 9223372036854775808 == 1) = false := by rw [SG.out, if_neg (by omega)]; rfl
    have HMN : Hid (n = mag n) := Lib.hid (by unfold mag; rw [if_neg (by omega)])
    rcases HC.out with hcs | hcs
    · have hcd : decide (c < 0) = true := by simp; omega
      obtain ⟨SB, hSB⟩ : ∃ SB, SB = true := ⟨_, rfl⟩
      have DS : Hid ((decide (n < 0) != decide (c < 0)) = SB) := Lib.hid (by rw [hSB, hcd, show decide (n < 0) = false by simp; omega]; rfl)
      subst hSB
      go_wp2_with fail
      rw [← hw4, ← hk]
      replace z0 := (hb4.cell (p := ⟨g, 0, none⟩) hgl).trans z0
      replace z1 := (hb4.cell (p := ⟨g, 1, none⟩) hgl).trans z1
      replace hgl := World.block_lt_of_cell? _ _ z0
      simp only at hgl
      clear hw4 hk
      rw [HMN.out] at hN
      refine (pmag c _ hc).mono ?_
      rintro _ w6 ⟨rfl, hb6⟩
      replace z0 := (hb6.cell (p := ⟨g, 0, none⟩) hgl).trans z0
      replace z1 := (hb6.cell (p := ⟨g, 1, none⟩) hgl).trans z1
      replace hgl := World.block_lt_of_cell? _ _ z0
      simp only at hgl
      replace hN := Wd.below hN hb6 hkl
      try clear x0 x1 x2 x3
      obtain ⟨⟨x0, x1⟩, x2, x3⟩ := id hN
      have hkl := hN.lt
      have hbwx : Below w.heap.size w w6 := (by repeat (first | exact Below.refl _ _ | apply keep_alloc | apply keep_drew | apply keep_drewN | refine keep_step (by assumption) ?_ (by rfl) | refine keep_set ?_ _ _ (by first | exact Nat.le_refl _ | (show _ ≤ _; simp; done) | (show _ ≤ _; simp; omega))))
      go_wp2_with fail
      refine (hS2 k _ hN).mono ?_
      rintro _ w7 ⟨rfl, hN7, ht7⟩
      rw [← HQ.out] at hN7
      rw [← HRR.out]
      have hbw7 : Below w.heap.size w w7 := keep_turn ht7 (show Below w.heap.size w w6 from (by repeat (first | exact Below.refl _ _ | apply keep_alloc | apply keep_drew | apply keep_drewN | refine keep_step (by assumption) ?_ (by rfl) | refine keep_set ?_ _ _ (by first | exact Nat.le_refl _ | (show _ ≤ _; simp; done) | (show _ ≤ _; simp; omega))))) hkw
      replace z0 := ((turn_cell ht7).1 g 0 hgl hgk).trans z0
      replace z1 := ((turn_cell ht7).1 g 1 hgl hgk).trans z1
      replace hgl := World.block_lt_of_cell? _ _ z0
      simp only at hgl
      replace hN := hN7
      clear ht7
      try clear x0 x1 x2 x3
      obtain ⟨⟨x0, x1⟩, x2, x3⟩ := id hN
      have hkl := hN.lt
      by_cases hr0 : r = 0
      · have hb0 : (r != 0) = false := by simp [hr0]
        have RES : Hid (scl n c how = -q) := Lib.hid (by unfold scl qS; rw [DS.out, ← HQ.out, ← HRR.out]; simp [hr0])
        have HR := Lib.hid hr0
        clear hr0
        go_wp2_with fail
        refine (pnegate k (q) _ hN).mono ?_
        rintro _ w19 ⟨rfl, hN19, ht19⟩
        have hbw19 : Below w.heap.size w w19 := keep_turn ht19 (show Below w.heap.size w w7 from (by repeat (first | exact Below.refl _ _ | apply keep_alloc | apply keep_drew | apply keep_drewN | refine keep_step (by assumption) ?_ (by rfl) | refine keep_set ?_ _ _ (by first | exact Nat.le_refl _ | (show _ ≤ _; simp; done) | (show _ ≤ _; simp; omega))))) hkw
        replace z0 := ((turn_cell ht19).1 g 0 hgl hgk).trans z0
        replace z1 := ((turn_cell ht19).1 g 1 hgl hgk).trans z1
        replace hgl := World.block_lt_of_cell? _ _ z0
        simp only at hgl
        replace hN := hN19
        clear ht19
        try clear x0 x1 x2 x3
        obtain ⟨⟨x0, x1⟩, x2, x3⟩ := id hN
        have hkl := hN.lt
        go_wp2_with fail
        refine (pwithin (-(q)) lo hi _ (by unfold Is127; omega) hlo hhi).mono ?_
        rintro _ w20 ⟨rfl, hb20⟩
        go_wp2
        go_ret2
        exact out2 (by rw [RES.out]) (by rw [RES.out]) (by repeat (first | exact Below.refl _ _ | apply keep_alloc | apply keep_drew | apply keep_drewN | refine keep_step (by assumption) ?_ (by rfl) | refine keep_set ?_ _ _ (by first | exact Nat.le_refl _ | (show _ ≤ _; simp; done) | (show _ ≤ _; simp; omega))))
      · have hb0 : (r != 0) = true := by simp [hr0]
        cases hup : upB q r (mag c) true how
        · have RES : Hid (scl n c how = -q) := Lib.hid (by unfold scl qS; rw [DS.out, ← HQ.out, ← HRR.out, hup]; simp)
          have UP := Lib.hid hup
          have HR := Lib.hid hr0
          clear hr0 hup
          go_wp2_with fail
          refine (poutward q r (mag c) _ how _ r0 r1 y1 HW.out).mono ?_
          rintro _ w8 ⟨rfl, hb8⟩
          rw [UP.out]
          replace z0 := (hb8.cell (p := ⟨g, 0, none⟩) hgl).trans z0
          replace z1 := (hb8.cell (p := ⟨g, 1, none⟩) hgl).trans z1
          replace hgl := World.block_lt_of_cell? _ _ z0
          simp only at hgl
          replace hN := Wd.below hN hb8 hkl
          try clear x0 x1 x2 x3
          obtain ⟨⟨x0, x1⟩, x2, x3⟩ := id hN
          have hkl := hN.lt
          go_wp2_with fail
          refine (pnegate k (q) _ hN).mono ?_
          rintro _ w19 ⟨rfl, hN19, ht19⟩
          have hbw19 : Below w.heap.size w w19 := keep_turn ht19 (show Below w.heap.size w w8 from (by repeat (first | exact Below.refl _ _ | apply keep_alloc | apply keep_drew | apply keep_drewN | refine keep_step (by assumption) ?_ (by rfl) | refine keep_set ?_ _ _ (by first | exact Nat.le_refl _ | (show _ ≤ _; simp; done) | (show _ ≤ _; simp; omega))))) hkw
          replace z0 := ((turn_cell ht19).1 g 0 hgl hgk).trans z0
          replace z1 := ((turn_cell ht19).1 g 1 hgl hgk).trans z1
          replace hgl := World.block_lt_of_cell? _ _ z0
          simp only at hgl
          replace hN := hN19
          clear ht19
          try clear x0 x1 x2 x3
          obtain ⟨⟨x0, x1⟩, x2, x3⟩ := id hN
          have hkl := hN.lt
          go_wp2_with fail
          refine (pwithin (-(q)) lo hi _ (by unfold Is127; omega) hlo hhi).mono ?_
          rintro _ w20 ⟨rfl, hb20⟩
          go_wp2
          go_ret2
          exact out2 (by rw [RES.out]) (by rw [RES.out]) (by repeat (first | exact Below.refl _ _ | apply keep_alloc | apply keep_drew | apply keep_drewN | refine keep_step (by assumption) ?_ (by rfl) | refine keep_set ?_ _ _ (by first | exact Nat.le_refl _ | (show _ ≤ _; simp; done) | (show _ ≤ _; simp; omega))))
        · have RES : Hid (scl n c how = -(q + 1)) := Lib.hid (by unfold scl qS; rw [DS.out, ← HQ.out, ← HRR.out, hup]; simp [hr0])
          have UP := Lib.hid hup
          have HR := Lib.hid hr0
          clear hr0 hup
          go_wp2_with fail
          refine (poutward q r (mag c) _ how _ r0 r1 y1 HW.out).mono ?_
          rintro _ w8 ⟨rfl, hb8⟩
          rw [UP.out]
          replace z0 := (hb8.cell (p := ⟨g, 0, none⟩) hgl).trans z0
          replace z1 := (hb8.cell (p := ⟨g, 1, none⟩) hgl).trans z1
          replace hgl := World.block_lt_of_cell? _ _ z0
          simp only at hgl
          replace hN := Wd.below hN hb8 hkl
          try clear x0 x1 x2 x3
          obtain ⟨⟨x0, x1⟩, x2, x3⟩ := id hN
          have hkl := hN.lt
          go_wp2_with fail
          refine (pwiden 1 _ (by unfold In64; omega)).mono ?_
          rintro _ w9 ⟨rfl, hb9⟩
          replace z0 := (hb9.cell (p := ⟨g, 0, none⟩) hgl).trans z0
          replace z1 := (hb9.cell (p := ⟨g, 1, none⟩) hgl).trans z1
          replace hgl := World.block_lt_of_cell? _ _ z0
          simp only at hgl
          replace hN := Wd.below hN hb9 hkl
          try clear x0 x1 x2 x3
          obtain ⟨⟨x0, x1⟩, x2, x3⟩ := id hN
          have hkl := hN.lt
          go_wp2_with fail
          refine (padd k q 1 _ hN).mono ?_
          rintro _ w10 ⟨rfl, hN10, ht10⟩
          have hbw10 : Below w.heap.size w w10 := keep_turn ht10 (show Below w.heap.size w w9 from (by repeat (first | exact Below.refl _ _ | apply keep_alloc | apply keep_drew | apply keep_drewN | refine keep_step (by assumption) ?_ (by rfl) | refine keep_set ?_ _ _ (by first | exact Nat.le_refl _ | (show _ ≤ _; simp; done) | (show _ ≤ _; simp; omega))))) hkw
          replace z0 := ((turn_cell ht10).1 g 0 hgl hgk).trans z0
          replace z1 := ((turn_cell ht10).1 g 1 hgl hgk).trans z1
          replace hgl := World.block_lt_of_cell? _ _ z0
          simp only at hgl
          replace hN := hN10
          clear ht10
          try clear x0 x1 x2 x3
          obtain ⟨⟨x0, x1⟩, x2, x3⟩ := id hN
          have hkl := hN.lt
          go_wp2_with fail
          refine (pnegate k (q + 1) _ hN).mono ?_
          rintro _ w19 ⟨rfl, hN19, ht19⟩
          have hbw19 : Below w.heap.size w w19 := keep_turn ht19 (show Below w.heap.size w w10 from (by repeat (first | exact Below.refl _ _ | apply keep_alloc | apply keep_drew | apply keep_drewN | refine keep_step (by assumption) ?_ (by rfl) | refine keep_set ?_ _ _ (by first | exact Nat.le_refl _ | (show _ ≤ _; simp; done) | (show _ ≤ _; simp; omega))))) hkw
          replace z0 := ((turn_cell ht19).1 g 0 hgl hgk).trans z0
          replace z1 := ((turn_cell ht19).1 g 1 hgl hgk).trans z1
          replace hgl := World.block_lt_of_cell? _ _ z0
          simp only at hgl
          replace hN := hN19
          clear ht19
          try clear x0 x1 x2 x3
          obtain ⟨⟨x0, x1⟩, x2, x3⟩ := id hN
          have hkl := hN.lt
          go_wp2_with fail
          refine (pwithin (-(q + 1)) lo hi _ (by unfold Is127; omega) hlo hhi).mono ?_
          rintro _ w20 ⟨rfl, hb20⟩
          go_wp2
          go_ret2
          exact out2 (by rw [RES.out]) (by rw [RES.out]) (by repeat (first | exact Below.refl _ _ | apply keep_alloc | apply keep_drew | apply keep_drewN | refine keep_step (by assumption) ?_ (by rfl) | refine keep_set ?_ _ _ (by first | exact Nat.le_refl _ | (show _ ≤ _; simp; done) | (show _ ≤ _; simp; omega))))
    · have hcd : decide (c < 0) = false := by simp; omega
      obtain ⟨SB, hSB⟩ : ∃ SB, SB = false := ⟨_, rfl⟩
      have DS : Hid ((decide (n < 0) != decide (c < 0)) = SB) := Lib.hid (by rw [hSB, hcd, show decide (n < 0) = false by simp; omega]; rfl)
      subst hSB
      go_wp2_with fail
      rw [← hw4, ← hk]
      replace z0 := (hb4.cell (p := ⟨g, 0, none⟩) hgl).trans z0
      replace z1 := (hb4.cell (p := ⟨g, 1, none⟩) hgl).trans z1
      replace hgl := World.block_lt_of_cell? _ _ z0
      simp only at hgl
      clear hw4 hk
      rw [HMN.out] at hN
      refine (pmag c _ hc).mono ?_
      rintro _ w6 ⟨rfl, hb6⟩
      replace z0 := (hb6.cell (p := ⟨g, 0, none⟩) hgl).trans z0
      replace z1 := (hb6.cell (p := ⟨g, 1, none⟩) hgl).trans z1
      replace hgl := World.block_lt_of_cell? _ _ z0
      simp only at hgl
      replace hN := Wd.below hN hb6 hkl
      try clear x0 x1 x2 x3
      obtain ⟨⟨x0, x1⟩, x2, x3⟩ := id hN
      have hkl := hN.lt
      have hbwx : Below w.heap.size w w6 := (by repeat (first | exact Below.refl _ _ | apply keep_alloc | apply keep_drew | apply keep_drewN | refine keep_step (by assumption) ?_ (by rfl) | refine keep_set ?_ _ _ (by first | exact Nat.le_refl _ | (show _ ≤ _; simp; done) | (show _ ≤ _; simp; omega))))
      go_wp2_with fail
      refine (hS2 k _ hN).mono ?_
      rintro _ w7 ⟨rfl, hN7, ht7⟩
      rw [← HQ.out] at hN7
      rw [← HRR.out]
      have hbw7 : Below w.heap.size w w7 := keep_turn ht7 (show Below w.heap.size w w6 from (by repeat (first | exact Below.refl _ _ | apply keep_alloc | apply keep_drew | apply keep_drewN | refine keep_step (by assumption) ?_ (by rfl) | refine keep_set ?_ _ _ (by first | exact Nat.le_refl _ | (show _ ≤ _; simp; done) | (show _ ≤ _; simp; omega))))) hkw
      replace z0 := ((turn_cell ht7).1 g 0 hgl hgk).trans z0
      replace z1 := ((turn_cell ht7).1 g 1 hgl hgk).trans z1
      replace hgl := World.block_lt_of_cell? _ _ z0
      simp only at hgl
      replace hN := hN7
      clear ht7
      try clear x0 x1 x2 x3
      obtain ⟨⟨x0, x1⟩, x2, x3⟩ := id hN
      have hkl := hN.lt
      by_cases hr0 : r = 0
      · have hb0 : (r != 0) = false := by simp [hr0]
        have RES : Hid (scl n c how = q) := Lib.hid (by unfold scl qS; rw [DS.out, ← HQ.out, ← HRR.out]; simp [hr0])
        have HR := Lib.hid hr0
        clear hr0
        go_wp2_with fail
        refine (pwithin (q) lo hi _ (by unfold Is127; omega) hlo hhi).mono ?_
        rintro _ w20 ⟨rfl, hb20⟩
        go_wp2
        go_ret2
        exact out2 (by rw [RES.out]) (by rw [RES.out]) (by repeat (first | exact Below.refl _ _ | apply keep_alloc | apply keep_drew | apply keep_drewN | refine keep_step (by assumption) ?_ (by rfl) | refine keep_set ?_ _ _ (by first | exact Nat.le_refl _ | (show _ ≤ _; simp; done) | (show _ ≤ _; simp; omega))))
      · have hb0 : (r != 0) = true := by simp [hr0]
        cases hup : upB q r (mag c) false how
        · have RES : Hid (scl n c how = q) := Lib.hid (by unfold scl qS; rw [DS.out, ← HQ.out, ← HRR.out, hup]; simp)
          have UP := Lib.hid hup
          have HR := Lib.hid hr0
          clear hr0 hup
          go_wp2_with fail
          refine (poutward q r (mag c) _ how _ r0 r1 y1 HW.out).mono ?_
          rintro _ w8 ⟨rfl, hb8⟩
          rw [UP.out]
          replace z0 := (hb8.cell (p := ⟨g, 0, none⟩) hgl).trans z0
          replace z1 := (hb8.cell (p := ⟨g, 1, none⟩) hgl).trans z1
          replace hgl := World.block_lt_of_cell? _ _ z0
          simp only at hgl
          replace hN := Wd.below hN hb8 hkl
          try clear x0 x1 x2 x3
          obtain ⟨⟨x0, x1⟩, x2, x3⟩ := id hN
          have hkl := hN.lt
          go_wp2_with fail
          refine (pwithin (q) lo hi _ (by unfold Is127; omega) hlo hhi).mono ?_
          rintro _ w20 ⟨rfl, hb20⟩
          go_wp2
          go_ret2
          exact out2 (by rw [RES.out]) (by rw [RES.out]) (by repeat (first | exact Below.refl _ _ | apply keep_alloc | apply keep_drew | apply keep_drewN | refine keep_step (by assumption) ?_ (by rfl) | refine keep_set ?_ _ _ (by first | exact Nat.le_refl _ | (show _ ≤ _; simp; done) | (show _ ≤ _; simp; omega))))
        · have RES : Hid (scl n c how = q + 1) := Lib.hid (by unfold scl qS; rw [DS.out, ← HQ.out, ← HRR.out, hup]; simp [hr0])
          have UP := Lib.hid hup
          have HR := Lib.hid hr0
          clear hr0 hup
          go_wp2_with fail
          refine (poutward q r (mag c) _ how _ r0 r1 y1 HW.out).mono ?_
          rintro _ w8 ⟨rfl, hb8⟩
          rw [UP.out]
          replace z0 := (hb8.cell (p := ⟨g, 0, none⟩) hgl).trans z0
          replace z1 := (hb8.cell (p := ⟨g, 1, none⟩) hgl).trans z1
          replace hgl := World.block_lt_of_cell? _ _ z0
          simp only at hgl
          replace hN := Wd.below hN hb8 hkl
          try clear x0 x1 x2 x3
          obtain ⟨⟨x0, x1⟩, x2, x3⟩ := id hN
          have hkl := hN.lt
          go_wp2_with fail
          refine (pwiden 1 _ (by unfold In64; omega)).mono ?_
          rintro _ w9 ⟨rfl, hb9⟩
          replace z0 := (hb9.cell (p := ⟨g, 0, none⟩) hgl).trans z0
          replace z1 := (hb9.cell (p := ⟨g, 1, none⟩) hgl).trans z1
          replace hgl := World.block_lt_of_cell? _ _ z0
          simp only at hgl
          replace hN := Wd.below hN hb9 hkl
          try clear x0 x1 x2 x3
          obtain ⟨⟨x0, x1⟩, x2, x3⟩ := id hN
          have hkl := hN.lt
          go_wp2_with fail
          refine (padd k q 1 _ hN).mono ?_
          rintro _ w10 ⟨rfl, hN10, ht10⟩
          have hbw10 : Below w.heap.size w w10 := keep_turn ht10 (show Below w.heap.size w w9 from (by repeat (first | exact Below.refl _ _ | apply keep_alloc | apply keep_drew | apply keep_drewN | refine keep_step (by assumption) ?_ (by rfl) | refine keep_set ?_ _ _ (by first | exact Nat.le_refl _ | (show _ ≤ _; simp; done) | (show _ ≤ _; simp; omega))))) hkw
          replace z0 := ((turn_cell ht10).1 g 0 hgl hgk).trans z0
          replace z1 := ((turn_cell ht10).1 g 1 hgl hgk).trans z1
          replace hgl := World.block_lt_of_cell? _ _ z0
          simp only at hgl
          replace hN := hN10
          clear ht10
          try clear x0 x1 x2 x3
          obtain ⟨⟨x0, x1⟩, x2, x3⟩ := id hN
          have hkl := hN.lt
          go_wp2_with fail
          refine (pwithin (q + 1) lo hi _ (by unfold Is127; omega) hlo hhi).mono ?_
          rintro _ w20 ⟨rfl, hb20⟩
          go_wp2
          go_ret2
          exact out2 (by rw [RES.out]) (by rw [RES.out]) (by repeat (first | exact Below.refl _ _ | apply keep_alloc | apply keep_drew | apply keep_drewN | refine keep_step (by assumption) ?_ (by rfl) | refine keep_set ?_ _ _ (by first | exact Nat.le_refl _ | (show _ ≤ _; simp; done) | (show _ ≤ _; simp; omega))))
end Go.Proofs.Yteohnhjhdlcpiaa
