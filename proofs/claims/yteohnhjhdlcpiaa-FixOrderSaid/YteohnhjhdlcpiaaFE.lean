/- Layer 1: Add, Sub, Mul, Sum, Clamp. -/
import Derived.Test.YteohnhjhdlcpiaaFD
namespace Go.Proofs.Yteohnhjhdlcpiaa
open Go.RowKit
set_option linter.unusedVariables false

theorem ints_new (w : World) {b : Nat} {xs : List Int} {cs : Array Value} (hb : b = w.heap.size) (h : cs.toList = xs.map (Value.int .i64)) : Ints (w.alloc (.cells cs 3)) (some ⟨b, 0, none⟩) xs := by
  subst hb
  refine .inr ⟨_, _, rfl, fun i hi => ?_⟩
  rw [World.cell?_alloc_at _ _ _ _ rfl]
  have h1 : cs.toList[0 + i]? = some (.int .i64 (nth xs i)) := by rw [h, nth_eq hi]; simp [hi]
  simpa using h1
theorem sameInts_same (A B : Option Addr) (xs : List Int) (n ca cb : Nat) (w : World) (hx : xs.length = n) (hn : n ≤ maxLen) (hA : Ints w A xs) (hB : Ints w B xs) :
    Calls Try.prog 30 #[.slice A n ca, .slice B n cb] w fun e w' => e = .returned (.bool true) ∧ Below w.heap.size w w' :=
  (sameInts_eq A B xs xs n ca cb w hx hx hn hA hB).mono fun e w' ⟨he, hb⟩ => ⟨by rw [he]; simp, hb⟩
theorem in127 {a b : Int} (ha : In64 a) (hb : In64 b) : Is127 (a + b) ∧ Is127 (a - b) ∧ Is127 (-b + a) ∧ Is127 (a * b) := by
  obtain ⟨m0, m1⟩ := mag_mul ha hb
  have hs := mag_sign a b
  unfold In64 at ha hb
  unfold Is127
  refine ⟨by omega, by omega, by omega, ?_⟩
  split at hs <;> omega

set_option maxHeartbeats 4000000 in
theorem pAdd (lo hi a b : Int) (w : World) (hlo : In64 lo) (hhi : In64 hi) (ha : In64 a) (hb : In64 b) :
    Calls Try.prog 10 #[(.agg #[.int .i64 lo, .int .i64 hi]), .int .i64 a, .int .i64 b] w (Out2 (bnV lo hi (a + b)) (bnE lo hi (a + b)) w) := by
  obtain ⟨w1, hw1⟩ : ∃ w1, w1 = w.alloc (.cells #[.int .i64 lo, .int .i64 hi] 23) := ⟨_, rfl⟩
  obtain ⟨g, hg⟩ : ∃ g, g = w.heap.size := ⟨_, rfl⟩
  have hb1 : Below w.heap.size w w1 := by rw [hw1]; exact (by repeat (first | exact Below.refl _ _ | apply keep_alloc | apply keep_drew | apply keep_drewN | refine keep_step (by assumption) ?_ (by rfl) | refine keep_set ?_ _ _ (by first | exact Nat.le_refl _ | (show _ ≤ _; simp; done) | (show _ ≤ _; simp; omega))))
  have z0 : (w1).cell? ⟨g, 0, none⟩ = some (.int .i64 lo) := by rw [hw1, hg, World.cell?_alloc_at _ _ _ _ (by simp)]; rfl
  have z1 : (w1).cell? ⟨g, 1, none⟩ = some (.int .i64 hi) := by rw [hw1, hg, World.cell?_alloc_at _ _ _ _ (by simp)]; rfl
  have hgl : g < (w1).heap.size := World.block_lt_of_cell? w1 _ z0
  have hv := (in127 ha hb).1
  go_enter Try.func10, Try.ntmps10
  go_wp2
  rw [← hw1, ← hg]
  clear hw1 hg
  have e0 : tot [a, b] 2 = a + b := by simp [tot, nth]
  go_region_with (first | (go_at_call 40; refine (ptotal [a, b] _ 2 2 _ rfl (by omega) (by intro x hx; simp at hx; rcases hx with rfl | rfl <;> assumption) ((ints_new w1 rfl (by rfl)).step (keep_drew (Below.refl _ _)))).mono ?_; rintro _ w3 ⟨rfl, hb3⟩; rw [e0]; obtain ⟨hc, hf⟩ := bcell (show Below w1.heap.size w1 w3 from (by repeat (first | exact Below.refl _ _ | apply keep_alloc | apply keep_drew | apply keep_drewN | refine keep_step (by assumption) ?_ (by rfl) | refine keep_set ?_ _ _ (by first | exact Nat.le_refl _ | (show _ ≤ _; simp; done) | (show _ ≤ _; simp; omega)))))) | (go_at_call 39; refine (pbounded lo hi (a + b) _ hv hlo hhi).mono ?_; rintro _ w4 ⟨rfl, hb4⟩))
  all_goals
    go_wp2
    go_ret2
    exact out2 rfl rfl (by repeat (first | exact Below.refl _ _ | apply keep_alloc | apply keep_drew | apply keep_drewN | refine keep_step (by assumption) ?_ (by rfl) | refine keep_set ?_ _ _ (by first | exact Nat.le_refl _ | (show _ ≤ _; simp; done) | (show _ ≤ _; simp; omega))))

set_option maxHeartbeats 4000000 in
theorem pSub (lo hi a b : Int) (w : World) (hlo : In64 lo) (hhi : In64 hi) (ha : In64 a) (hb : In64 b) :
    Calls Try.prog 14 #[(.agg #[.int .i64 lo, .int .i64 hi]), .int .i64 a, .int .i64 b] w (Out2 (bnV lo hi (a - b)) (bnE lo hi (a - b)) w) := by
  obtain ⟨w1, hw1⟩ : ∃ w1, w1 = w.alloc (.cells #[.int .i64 lo, .int .i64 hi] 23) := ⟨_, rfl⟩
  obtain ⟨g, hg⟩ : ∃ g, g = w.heap.size := ⟨_, rfl⟩
  have hb1 : Below w.heap.size w w1 := by rw [hw1]; exact (by repeat (first | exact Below.refl _ _ | apply keep_alloc | apply keep_drew | apply keep_drewN | refine keep_step (by assumption) ?_ (by rfl) | refine keep_set ?_ _ _ (by first | exact Nat.le_refl _ | (show _ ≤ _; simp; done) | (show _ ≤ _; simp; omega))))
  have z0 : (w1).cell? ⟨g, 0, none⟩ = some (.int .i64 lo) := by rw [hw1, hg, World.cell?_alloc_at _ _ _ _ (by simp)]; rfl
  have z1 : (w1).cell? ⟨g, 1, none⟩ = some (.int .i64 hi) := by rw [hw1, hg, World.cell?_alloc_at _ _ _ _ (by simp)]; rfl
  have hgl : g < (w1).heap.size := World.block_lt_of_cell? w1 _ z0
  have hv := (in127 ha hb).2.1
  go_enter Try.func14, Try.ntmps14
  go_wp2_with fail
  rw [← hw1]
  have hgw : w.heap.size ≤ g := by omega
  refine (pwiden b _ hb).mono ?_
  rintro _ w2 ⟨rfl, hb2⟩
  rw [← hg]
  clear hw1 hg
  have q0 := (hb2.cell (p := ⟨g, 0, none⟩) hgl).trans z0
  have q1 := (hb2.cell (p := ⟨g, 1, none⟩) hgl).trans z1
  have hgl2 : g < w2.heap.size := World.block_lt_of_cell? w2 _ q0
  clear z0 z1
  go_wp2_with fail
  obtain ⟨k, hk⟩ : ∃ k, k = w2.heap.size := ⟨_, rfl⟩
  obtain ⟨w3, hw3⟩ : ∃ w3, w3 = w2.alloc (.cells #[.int .u64 (HI b), .int .u64 (LO b)] 53) := ⟨_, rfl⟩
  have hn3 : Num w3 k b := by rw [hw3, hk]; exact Wd.made _ _ _ _
  have hb3 : Below w2.heap.size w2 w3 := by rw [hw3]; exact (Below.refl _ _).alloc (Nat.le_refl _) _
  have hbw3 : Below w.heap.size w w3 := by rw [hw3]; exact (by repeat (first | exact Below.refl _ _ | apply keep_alloc | apply keep_drew | apply keep_drewN | refine keep_step (by assumption) ?_ (by rfl) | refine keep_set ?_ _ _ (by first | exact Nat.le_refl _ | (show _ ≤ _; simp; done) | (show _ ≤ _; simp; omega))))
  have r0 := (hb3.cell (p := ⟨g, 0, none⟩) hgl2).trans q0
  have r1 := (hb3.cell (p := ⟨g, 1, none⟩) hgl2).trans q1
  have hgk : g ≠ k := by omega
  have hkw : w.heap.size ≤ k := by omega
  rw [← hw3, ← hk]
  clear hw3 hk q0 q1
  have hgl3 : g < w3.heap.size := World.block_lt_of_cell? w3 _ r0
  refine (pnegate k b _ hn3).mono ?_
  rintro _ w4 ⟨rfl, hn4, ht4⟩
  go_wp2_with fail
  refine (pwiden a _ ha).mono ?_
  rintro _ w5 ⟨rfl, hb5⟩
  go_wp2_with fail
  refine (padd k (-b) a _ (Wd.below hn4 hb5 hn4.lt)).mono ?_
  rintro _ w6 ⟨rfl, hn6, ht6⟩
  rw [show -b + a = a - b by omega] at hn6
  have ht36 : Turn k w3 w6 := by (repeat (first | exact Turn.refl _ _ | apply Turn.set | apply Turn.alloc | apply Turn.drew | apply Turn.drewN | refine Turn.trans ?_ (by assumption) | refine Turn.below ?_ (by assumption) (by rfl) | refine Turn.setNew ?_ _ _ (by first | exact Nat.le_refl _ | (show _ ≤ _; simp; done) | (show _ ≤ _; simp; omega))))
  obtain ⟨tc, tf⟩ := turn_cell ht36
  have s0 := (tc g 0 hgl3 hgk).trans r0
  have s1 := (tc g 1 hgl3 hgk).trans r1
  obtain ⟨⟨x0, x1⟩, x2, x3⟩ := id hn6
  have hbw6 : Below w.heap.size w w6 := keep_turn ht36 hbw3 hkw
  clear r0 r1 tc tf
  go_wp2_with fail
  refine (pbounded lo hi (a - b) _ hv hlo hhi).mono ?_
  rintro _ w7 ⟨rfl, hb7⟩
  go_wp2
  go_ret2
  exact out2 rfl rfl (by repeat (first | exact Below.refl _ _ | apply keep_alloc | apply keep_drew | apply keep_drewN | refine keep_step (by assumption) ?_ (by rfl) | refine keep_set ?_ _ _ (by first | exact Nat.le_refl _ | (show _ ≤ _; simp; done) | (show _ ≤ _; simp; omega))))

set_option maxHeartbeats 4000000 in
theorem pMul (lo hi a b : Int) (w : World) (hlo : In64 lo) (hhi : In64 hi) (ha : In64 a) (hb : In64 b) :
    Calls Try.prog 16 #[(.agg #[.int .i64 lo, .int .i64 hi]), .int .i64 a, .int .i64 b] w (Out2 (bnV lo hi (a * b)) (bnE lo hi (a * b)) w) := by
  obtain ⟨w1, hw1⟩ : ∃ w1, w1 = w.alloc (.cells #[.int .i64 lo, .int .i64 hi] 23) := ⟨_, rfl⟩
  obtain ⟨g, hg⟩ : ∃ g, g = w.heap.size := ⟨_, rfl⟩
  have hb1 : Below w.heap.size w w1 := by rw [hw1]; exact (by repeat (first | exact Below.refl _ _ | apply keep_alloc | apply keep_drew | apply keep_drewN | refine keep_step (by assumption) ?_ (by rfl) | refine keep_set ?_ _ _ (by first | exact Nat.le_refl _ | (show _ ≤ _; simp; done) | (show _ ≤ _; simp; omega))))
  have z0 : (w1).cell? ⟨g, 0, none⟩ = some (.int .i64 lo) := by rw [hw1, hg, World.cell?_alloc_at _ _ _ _ (by simp)]; rfl
  have z1 : (w1).cell? ⟨g, 1, none⟩ = some (.int .i64 hi) := by rw [hw1, hg, World.cell?_alloc_at _ _ _ _ (by simp)]; rfl
  have hgl : g < (w1).heap.size := World.block_lt_of_cell? w1 _ z0
  have hv := (in127 ha hb).2.2.2
  go_enter Try.func16, Try.ntmps16
  go_wp2
  rw [← hw1, ← hg]
  clear hw1 hg
  (refine wp_region_calm (C := fun x => ∃ y : Later w1, x = y.w) (by kernel_rfl) (by kernel_rfl) (later_start w1) ?_; have hlat := later_cell w1; (repeat (go_big_quiet_step ((first | (go_at_call 48; apply later_of; exact pproduct a b _ ha hb) | (go_at_call 39; apply later_of; exact pbounded lo hi (a * b) _ hv hlo hhi))))); refine wpQuiet_nil ?_; rintro w' ⟨⟨xq, hb⟩, hxq⟩; have hxq2 : w' = xq := hxq; clear hxq; subst hxq2; clear hlat)
  go_wp2
  go_ret2
  exact out2 rfl rfl (by repeat (first | exact Below.refl _ _ | apply keep_alloc | apply keep_drew | apply keep_drewN | refine keep_step (by assumption) ?_ (by rfl) | refine keep_set ?_ _ _ (by first | exact Nat.le_refl _ | (show _ ≤ _; simp; done) | (show _ ≤ _; simp; omega))))

def smV (lo hi : Int) (xs : List Int) : Int := if hi < lo then 0 else if 1000 < xs.length then 0 else okV lo hi (tot xs xs.length)
def smE (lo hi : Int) (xs : List Int) : Int := if hi < lo then 2 else if 1000 < xs.length then 4 else okE lo hi (tot xs xs.length)

set_option maxHeartbeats 4000000 in
theorem pSum (lo hi : Int) (xs : List Int) (A : Option Addr) (n cap : Nat) (w : World) (hlo : In64 lo) (hhi : In64 hi) (hn : xs.length = n) (hm : n ≤ 2000) (hb : ∀ x ∈ xs, In64 x) (hA : Ints w A xs) :
    Calls Try.prog 26 #[(.agg #[.int .i64 lo, .int .i64 hi]), .slice A n cap] w (Out2 (smV lo hi xs) (smE lo hi xs) w) := by
  obtain ⟨w1, hw1⟩ : ∃ w1, w1 = w.alloc (.cells #[.int .i64 lo, .int .i64 hi] 23) := ⟨_, rfl⟩
  obtain ⟨g, hg⟩ : ∃ g, g = w.heap.size := ⟨_, rfl⟩
  have hb1 : Below w.heap.size w w1 := by rw [hw1]; exact (by repeat (first | exact Below.refl _ _ | apply keep_alloc | apply keep_drew | apply keep_drewN | refine keep_step (by assumption) ?_ (by rfl) | refine keep_set ?_ _ _ (by first | exact Nat.le_refl _ | (show _ ≤ _; simp; done) | (show _ ≤ _; simp; omega))))
  have z0 : (w1).cell? ⟨g, 0, none⟩ = some (.int .i64 lo) := by rw [hw1, hg, World.cell?_alloc_at _ _ _ _ (by simp)]; rfl
  have z1 : (w1).cell? ⟨g, 1, none⟩ = some (.int .i64 hi) := by rw [hw1, hg, World.cell?_alloc_at _ _ _ _ (by simp)]; rfl
  have hgl : g < (w1).heap.size := World.block_lt_of_cell? w1 _ z0
  have hv := tot_127 hb (by omega)
  have HB := Lib.hid hb
  have HN := Lib.hid hn
  by_cases h : hi < lo
  · have CW := Lib.hid (chkW_bad h)
    have K1 : Hid (smV lo hi xs = 0) := Lib.hid (by unfold smV; rw [if_pos h])
    have K2 : Hid (smE lo hi xs = 2) := Lib.hid (by unfold smE; rw [if_pos h])
    clear hb
    go_enter Try.func26, Try.ntmps26
    go_wp2_with fail
    rw [← hw1]
    clear hw1
    refine (pfixCheck lo hi _).mono ?_
    rintro _ w2 ⟨rfl, hb2⟩
    rw [CW.out]
    go_wp2
    go_ret2
    exact out2 K1.out.symm K2.out.symm (by repeat (first | exact Below.refl _ _ | apply keep_alloc | apply keep_drew | apply keep_drewN | refine keep_step (by assumption) ?_ (by rfl) | refine keep_set ?_ _ _ (by first | exact Nat.le_refl _ | (show _ ≤ _; simp; done) | (show _ ≤ _; simp; omega))))
  · have CW := Lib.hid (chkW_ok h)
    by_cases hlong : 1000 < n
    · have K1 : Hid (smV lo hi xs = 0) := Lib.hid (by unfold smV; rw [if_neg h, if_pos (by omega)])
      have K2 : Hid (smE lo hi xs = 4) := Lib.hid (by unfold smE; rw [if_neg h, if_pos (by omega)])
      clear hb
      go_enter Try.func26, Try.ntmps26
      go_wp2_with fail
      rw [← hw1]
      clear hw1
      refine (pfixCheck lo hi _).mono ?_
      rintro _ w2 ⟨rfl, hb2⟩
      rw [CW.out]
      go_wp2
      go_ret2
      exact out2 K1.out.symm K2.out.symm (by repeat (first | exact Below.refl _ _ | apply keep_alloc | apply keep_drew | apply keep_drewN | refine keep_step (by assumption) ?_ (by rfl) | refine keep_set ?_ _ _ (by first | exact Nat.le_refl _ | (show _ ≤ _; simp; done) | (show _ ≤ _; simp; omega))))
    · have K1 : Hid (smV lo hi xs = okV lo hi (tot xs n)) := Lib.hid (by unfold smV; rw [if_neg h, if_neg (by omega), hn])
      have K2 : Hid (smE lo hi xs = okE lo hi (tot xs n)) := Lib.hid (by unfold smE; rw [if_neg h, if_neg (by omega), hn])
      rw [hn] at hv
      have hle : n ≤ 1000 := by omega
      clear hb hlong hn
      go_enter Try.func26, Try.ntmps26
      go_wp2_with fail
      rw [← hw1, ← hg]
      clear hw1
      refine (pfixCheck lo hi _).mono ?_
      rintro _ w2 ⟨rfl, hb2⟩
      rw [CW.out]
      have q0 := (hb2.cell (p := ⟨g, 0, none⟩) hgl).trans z0
      have q1 := (hb2.cell (p := ⟨g, 1, none⟩) hgl).trans z1
      have hgl2 : g < w2.heap.size := World.block_lt_of_cell? w2 _ q0
      have hA2 : Ints w2 A xs := hA.step (by repeat (first | exact Below.refl _ _ | apply keep_alloc | apply keep_drew | apply keep_drewN | refine keep_step (by assumption) ?_ (by rfl) | refine keep_set ?_ _ _ (by first | exact Nat.le_refl _ | (show _ ≤ _; simp; done) | (show _ ≤ _; simp; omega))))
      clear z0 z1 hg
      go_wp2
      (refine wp_region_calm (C := fun x => ∃ y : Later w2, x = y.w) (by kernel_rfl) (by kernel_rfl) (later_start w2) ?_; have hlat := later_cell w2; (repeat (go_big_quiet_step ((first | (go_at_call 40; apply later_of; exact ptotal xs A n cap _ HN.out hm HB.out (hA2.step (Later.kept _))) | (go_at_call 54; apply later_of; exact pwithin (tot xs n) lo hi _ hv hlo hhi))))); refine wpQuiet_nil ?_; rintro w' ⟨⟨xq, hb⟩, hxq⟩; have hxq2 : w' = xq := hxq; clear hxq; subst hxq2; clear hlat)
      go_wp2
      go_ret2
      exact out2 K1.out.symm K2.out.symm (by repeat (first | exact Below.refl _ _ | apply keep_alloc | apply keep_drew | apply keep_drewN | refine keep_step (by assumption) ?_ (by rfl) | refine keep_set ?_ _ _ (by first | exact Nat.le_refl _ | (show _ ≤ _; simp; done) | (show _ ≤ _; simp; omega))))

def clV (lo hi n : Int) : Int := if hi < lo then 0 else if n < lo then lo else if hi < n then hi else n
theorem pClamp (lo hi n : Int) (w : World) : Calls Try.prog 18 #[(.agg #[.int .i64 lo, .int .i64 hi]), .int .i64 n] w (Out2 (clV lo hi n) (chkW lo hi) w) := by
  obtain ⟨w1, hw1⟩ : ∃ w1, w1 = w.alloc (.cells #[.int .i64 lo, .int .i64 hi] 23) := ⟨_, rfl⟩
  obtain ⟨g, hg⟩ : ∃ g, g = w.heap.size := ⟨_, rfl⟩
  have hb1 : Below w.heap.size w w1 := by rw [hw1]; exact (by repeat (first | exact Below.refl _ _ | apply keep_alloc | apply keep_drew | apply keep_drewN | refine keep_step (by assumption) ?_ (by rfl) | refine keep_set ?_ _ _ (by first | exact Nat.le_refl _ | (show _ ≤ _; simp; done) | (show _ ≤ _; simp; omega))))
  have z0 : (w1).cell? ⟨g, 0, none⟩ = some (.int .i64 lo) := by rw [hw1, hg, World.cell?_alloc_at _ _ _ _ (by simp)]; rfl
  have z1 : (w1).cell? ⟨g, 1, none⟩ = some (.int .i64 hi) := by rw [hw1, hg, World.cell?_alloc_at _ _ _ _ (by simp)]; rfl
  have hgl : g < (w1).heap.size := World.block_lt_of_cell? w1 _ z0
  by_cases h : hi < lo
  · have CW := Lib.hid (chkW_bad h)
    have K1 : Hid (clV lo hi n = 0) := Lib.hid (by unfold clV; rw [if_pos h])
    go_enter Try.func18, Try.ntmps18
    go_wp2_with fail
    rw [← hw1]
    clear hw1
    refine (pfixCheck lo hi _).mono ?_
    rintro _ w2 ⟨rfl, hb2⟩
    rw [CW.out]
    go_wp2
    go_ret2
    exact out2 K1.out.symm CW.out.symm (by repeat (first | exact Below.refl _ _ | apply keep_alloc | apply keep_drew | apply keep_drewN | refine keep_step (by assumption) ?_ (by rfl) | refine keep_set ?_ _ _ (by first | exact Nat.le_refl _ | (show _ ≤ _; simp; done) | (show _ ≤ _; simp; omega))))
  · have CW := Lib.hid (chkW_ok h)
    have K1 : Hid (clV lo hi n = if n < lo then lo else if hi < n then hi else n) := Lib.hid (by unfold clV; rw [if_neg h])
    have hle : lo ≤ hi := by omega
    clear h
    go_enter Try.func18, Try.ntmps18
    go_wp2_with fail
    rw [← hw1, ← hg]
    clear hw1
    refine (pfixCheck lo hi _).mono ?_
    rintro _ w2 ⟨rfl, hb2⟩
    rw [CW.out]
    have q0 := (hb2.cell (p := ⟨g, 0, none⟩) hgl).trans z0
    have q1 := (hb2.cell (p := ⟨g, 1, none⟩) hgl).trans z1
    clear z0 z1 hg
    go_wp2
    all_goals go_ret2
    all_goals (refine out2 ?_ CW.out.symm (by repeat (first | exact Below.refl _ _ | apply keep_alloc | apply keep_drew | apply keep_drewN | refine keep_step (by assumption) ?_ (by rfl) | refine keep_set ?_ _ _ (by first | exact Nat.le_refl _ | (show _ ≤ _; simp; done) | (show _ ≤ _; simp; omega)))); rw [K1.out]; (first | omega | (subst_vars; omega) | (simp only [Bool.not_eq_true', Bool.not_eq_false', beq_iff_eq, beq_eq_false_iff_ne, ne_eq, bne_iff_ne, bne_eq_false_iff_eq, Bool.not_eq_true, Bool.not_eq_false, decide_eq_true_eq, decide_eq_false_iff_not, Bool.and_eq_true, Bool.or_eq_true] at *; first | omega | (subst_vars; omega)) | (simp only [Bool.not_eq_true', Bool.not_eq_false', beq_iff_eq, beq_eq_false_iff_ne, ne_eq, bne_iff_ne, bne_eq_false_iff_eq, Bool.not_eq_true, Bool.not_eq_false, decide_eq_true_eq, decide_eq_false_iff_not, Bool.and_eq_true, Bool.or_eq_true, wrap64] at *; first | omega | (subst_vars; omega))))
end Go.Proofs.Yteohnhjhdlcpiaa
