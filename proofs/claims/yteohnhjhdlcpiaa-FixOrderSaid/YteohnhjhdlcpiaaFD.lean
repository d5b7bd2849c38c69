/- Layer 1: sums, differences, products within limits. -/
import Derived.Test.YteohnhjhdlcpiaaFC
namespace Go.Proofs.Yteohnhjhdlcpiaa
open Go.RowKit
set_option linter.unusedVariables false

def chkW (lo hi : Int) : Int := if hi < lo then 2 else 0
theorem chkW_bad {lo hi : Int} (h : hi < lo) : chkW lo hi = 2 := by unfold chkW; rw [if_pos h]
theorem chkW_ok {lo hi : Int} (h : ¬ hi < lo) : chkW lo hi = 0 := by unfold chkW; rw [if_neg h]
theorem pfixCheck (lo hi : Int) (w : World) : Calls Try.prog 12 #[(.agg #[.int .i64 lo, .int .i64 hi])] w fun e w' => e = .returned (.int .i64 (chkW lo hi)) ∧ Below w.heap.size w w' := by
  by_cases h : hi < lo
  · rw [chkW_bad h]
    go_enter Try.func12, Try.ntmps12
    go_wp2
    go_ret
    exact ⟨rfl, (by repeat (first | exact Below.refl _ _ | apply keep_alloc | apply keep_drew | apply keep_drewN | refine keep_step (by assumption) ?_ (by rfl) | refine keep_set ?_ _ _ (by first | exact Nat.le_refl _ | (show _ ≤ _; simp; done) | (show _ ≤ _; simp; omega))))⟩
  · rw [chkW_ok h]
    have h2 : lo ≤ hi := by omega
    clear h
    go_enter Try.func12, Try.ntmps12
    go_wp2
    go_ret
    exact ⟨rfl, (by repeat (first | exact Below.refl _ _ | apply keep_alloc | apply keep_drew | apply keep_drewN | refine keep_step (by assumption) ?_ (by rfl) | refine keep_set ?_ _ _ (by first | exact Nat.le_refl _ | (show _ ≤ _; simp; done) | (show _ ≤ _; simp; omega))))⟩

def bnV (lo hi v : Int) : Int := if hi < lo then 0 else okV lo hi v
def bnE (lo hi v : Int) : Int := if hi < lo then 2 else okE lo hi v
theorem bn_bad {lo hi v : Int} (h : hi < lo) : bnV lo hi v = 0 ∧ bnE lo hi v = 2 := by unfold bnV bnE; rw [if_pos h, if_pos h]; exact ⟨rfl, rfl⟩
theorem bn_ok {lo hi v : Int} (h : ¬ hi < lo) : bnV lo hi v = okV lo hi v ∧ bnE lo hi v = okE lo hi v := by unfold bnV bnE; rw [if_neg h, if_neg h]; exact ⟨rfl, rfl⟩

set_option maxHeartbeats 4000000 in
theorem pbounded (lo hi v : Int) (w : World) (hv : Is127 v) (hlo : In64 lo) (hhi : In64 hi) :
    Calls Try.prog 39 #[(.agg #[.int .i64 lo, .int .i64 hi]), (.agg #[.int .u64 (HI v), .int .u64 (LO v)])] w (Out2 (bnV lo hi v) (bnE lo hi v) w) := by
  obtain ⟨w1, hw1⟩ : ∃ w1, w1 = (w.alloc (.cells #[.int .i64 lo, .int .i64 hi] 23)).alloc (.cells #[.int .u64 (HI v), .int .u64 (LO v)] 53) := ⟨_, rfl⟩
  obtain ⟨g, hg⟩ : ∃ g, g = w.heap.size + 1 := ⟨_, rfl⟩
  have hb1 : Below w.heap.size w w1 := by rw [hw1]; exact (by repeat (first | exact Below.refl _ _ | apply keep_alloc | apply keep_drew | apply keep_drewN | refine keep_step (by assumption) ?_ (by rfl) | refine keep_set ?_ _ _ (by first | exact Nat.le_refl _ | (show _ ≤ _; simp; done) | (show _ ≤ _; simp; omega))))
  have hm1 : Wd w1 g (HI v) (LO v) := by
    have h := Wd.made (w.alloc (.cells #[.int .i64 lo, .int .i64 hi] 23)) (HI v) (LO v) 53
    rw [hw1, hg]; simpa using h
  have hx := ((((show Below (((w.alloc (.cells #[.int .i64 lo, .int .i64 hi] 23)).alloc (.cells #[.int .u64 (HI v), .int .u64 (LO v)] 53))).heap.size (((w.alloc (.cells #[.int .i64 lo, .int .i64 hi] 23)).alloc (.cells #[.int .u64 (HI v), .int .u64 (LO v)] 53))) ((w.alloc (.cells #[.int .i64 lo, .int .i64 hi] 23)).alloc (.cells #[.int .u64 (HI v), .int .u64 (LO v)] 53)) from (by repeat (first | exact Below.refl _ _ | apply keep_alloc | apply keep_drew | apply keep_drewN | refine keep_step (by assumption) ?_ (by rfl) | refine keep_set ?_ _ _ (by first | exact Nat.le_refl _ | (show _ ≤ _; simp; done) | (show _ ≤ _; simp; omega))))).cell (p := ⟨w.heap.size, 0, none⟩) (by simp <;> omega)).trans (by simp [go_sem])) : (((w.alloc (.cells #[.int .i64 lo, .int .i64 hi] 23)).alloc (.cells #[.int .u64 (HI v), .int .u64 (LO v)] 53))).cell? ⟨w.heap.size, 0, none⟩ = some (.int .i64 lo))
  have hy := ((((show Below (((w.alloc (.cells #[.int .i64 lo, .int .i64 hi] 23)).alloc (.cells #[.int .u64 (HI v), .int .u64 (LO v)] 53))).heap.size (((w.alloc (.cells #[.int .i64 lo, .int .i64 hi] 23)).alloc (.cells #[.int .u64 (HI v), .int .u64 (LO v)] 53))) ((w.alloc (.cells #[.int .i64 lo, .int .i64 hi] 23)).alloc (.cells #[.int .u64 (HI v), .int .u64 (LO v)] 53)) from (by repeat (first | exact Below.refl _ _ | apply keep_alloc | apply keep_drew | apply keep_drewN | refine keep_step (by assumption) ?_ (by rfl) | refine keep_set ?_ _ _ (by first | exact Nat.le_refl _ | (show _ ≤ _; simp; done) | (show _ ≤ _; simp; omega))))).cell (p := ⟨w.heap.size, 1, none⟩) (by simp <;> omega)).trans (by simp [go_sem])) : (((w.alloc (.cells #[.int .i64 lo, .int .i64 hi] 23)).alloc (.cells #[.int .u64 (HI v), .int .u64 (LO v)] 53))).cell? ⟨w.heap.size, 1, none⟩ = some (.int .i64 hi))
  have z0 : w1.cell? ⟨w.heap.size, 0, none⟩ = some (.int .i64 lo) := by rw [hw1]; exact hx
  have z1 : w1.cell? ⟨w.heap.size, 1, none⟩ = some (.int .i64 hi) := by rw [hw1]; exact hy
  clear hx hy
  have hgl : w.heap.size < w1.heap.size := World.block_lt_of_cell? w1 _ z0
  have hml := hm1.lt
  by_cases h : hi < lo
  · have CW := Lib.hid (chkW_bad h)
    rw [(bn_bad h).1, (bn_bad h).2]
    go_enter Try.func39, Try.ntmps39
    go_wp2_with fail
    rw [← hw1, ← hg]
    clear hw1 hg
    refine (pfixCheck lo hi _).mono ?_
    rintro _ w2 ⟨rfl, hb2⟩
    rw [CW.out]
    go_wp2
    go_ret2
    exact out2 rfl rfl (by repeat (first | exact Below.refl _ _ | apply keep_alloc | apply keep_drew | apply keep_drewN | refine keep_step (by assumption) ?_ (by rfl) | refine keep_set ?_ _ _ (by first | exact Nat.le_refl _ | (show _ ≤ _; simp; done) | (show _ ≤ _; simp; omega))))
  · have CW := Lib.hid (chkW_ok h)
    rw [(bn_ok h).1, (bn_ok h).2]
    go_enter Try.func39, Try.ntmps39
    go_wp2_with fail
    rw [← hw1, ← hg]
    clear hw1 hg
    refine (pfixCheck lo hi _).mono ?_
    rintro _ w2 ⟨rfl, hb2⟩
    rw [CW.out]
    have q0 := (hb2.cell (p := ⟨w.heap.size, 0, none⟩) hgl).trans z0
    have q1 := (hb2.cell (p := ⟨w.heap.size, 1, none⟩) hgl).trans z1
    obtain ⟨⟨x0, x1⟩, x2, x3⟩ := hm1.below hb2 hml
    clear z0 z1
    go_wp2_with fail
    refine (pwithin v lo hi _ hv hlo hhi).mono ?_
    rintro _ w3 ⟨rfl, hb3⟩
    go_wp2
    go_ret2
    exact out2 rfl rfl (by repeat (first | exact Below.refl _ _ | apply keep_alloc | apply keep_drew | apply keep_drewN | refine keep_step (by assumption) ?_ (by rfl) | refine keep_set ?_ _ _ (by first | exact Nat.le_refl _ | (show _ ≤ _; simp; done) | (show _ ≤ _; simp; omega))))

/-- the sum of the first k numbers -/
def tot (xs : List Int) : Nat → Int
  | 0 => 0
  | k + 1 => tot xs k + nth xs k
theorem tot_rng {xs : List Int} (h : ∀ x ∈ xs, In64 x) : ∀ k, k ≤ xs.length → -9223372036854775808 * (k : Int) ≤ tot xs k ∧ tot xs k ≤ 9223372036854775808 * k
  | 0, _ => by simp [tot]
  | k + 1, hk => by
    have h1 := tot_rng h k (by omega)
    have h2 : In64 (nth xs k) := by rw [nth_eq (by omega)]; exact h _ (List.getElem_mem _)
    unfold In64 at h2
    simp only [tot]
    omega
theorem tot_127 {xs : List Int} (h : ∀ x ∈ xs, In64 x) (hl : xs.length ≤ 2000) : Is127 (tot xs xs.length) := by
  have := tot_rng h xs.length (Nat.le_refl _)
  unfold Is127; omega

def TtRel (xs : List Int) (n g : Nat) (w2 : World) (v8 : Value) (wr : World) : Prop :=
  ∃ k : Nat, k ≤ n ∧ v8 = .int .i64 k ∧ Num wr g (tot xs k) ∧ Turn g w2 wr

set_option maxHeartbeats 4000000 in
theorem ptotal (xs : List Int) (A : Option Addr) (n cap : Nat) (w : World) (hn : xs.length = n) (hm : n ≤ 2000) (hb : ∀ x ∈ xs, In64 x) (hA : Ints w A xs) :
    Calls Try.prog 40 #[.slice A n cap] w fun e w' => e = .returned (.agg #[.int .u64 (HI (tot xs n)), .int .u64 (LO (tot xs n))]) ∧ Below w.heap.size w w' := by
  have HN := Lib.hid hn
  have HB := Lib.hid hb
  clear hb hn
  go_enter Try.func40, Try.ntmps40
  go_wp2
  obtain ⟨w2, hw2⟩ : ∃ w2, w2 = (w.alloc (.cells #[.int .u64 0, .int .u64 0] 53)).alloc (.cells #[.int .u64 0, .int .u64 0] 53) := ⟨_, rfl⟩
  obtain ⟨g, hg⟩ : ∃ g, g = w.heap.size + 1 := ⟨_, rfl⟩
  have hm2 : Wd w2 g 0 0 := by
    have h := Wd.made (w.alloc (.cells #[.int .u64 0, .int .u64 0] 53)) 0 0 53
    rw [hw2, hg]; simpa using h
  have hr2 : Wd w2 w.heap.size 0 0 := by
    rw [hw2]
    exact (Wd.made w 0 0 53).below (B := (w.alloc (.cells #[.int .u64 0, .int .u64 0] 53)).heap.size) ((Below.refl _ _).alloc (Nat.le_refl _) _) (by simp)
  have hb2 : Below w.heap.size w w2 := by rw [hw2]; exact (by repeat (first | exact Below.refl _ _ | apply keep_alloc | apply keep_drew | apply keep_drewN | refine keep_step (by assumption) ?_ (by rfl) | refine keep_set ?_ _ _ (by first | exact Nat.le_refl _ | (show _ ≤ _; simp; done) | (show _ ≤ _; simp; omega))))
  have hgw : w.heap.size ≤ g := by omega
  have hgr : w.heap.size ≠ g := by omega
  rw [← hw2, ← hg]
  clear hw2 hg
  go_loopw [8] (TtRel xs n g w2) (fun v _ => n - (intOf v).toNat)
  case atStart => exact ⟨0, by omega, rfl, hm2, Turn.refl _ _⟩
  case round =>
    obtain ⟨k, hk, rfl, hmm, htr⟩ := hrel
    have hbr : Below w.heap.size w wr := keep_turn htr hb2 hgw
    have hmlt := hmm.lt
    by_cases hlt : k < n
    · obtain ⟨b, o, rfl, hc⟩ := (hA.step hbr).cell (k := k) (by rw [HN.out]; exact hlt)
      have c1 := hc k (by rw [HN.out]; exact hlt)
      clear hc
      have h64 : In64 (nth xs k) := by rw [nth_eq (by rw [HN.out]; exact hlt)]; exact HB.out _ (List.getElem_mem _)
      go_wp2_with fail
      refine (pwiden (nth xs k) _ h64).mono ?_
      rintro _ w3 ⟨rfl, hb3⟩
      go_wp2_with fail
      refine (padd g (tot xs k) (nth xs k) _ (Wd.below hmm hb3 hmlt)).mono ?_
      rintro _ w4 ⟨rfl, hm4, ht4⟩
      go_wp2
      exact ⟨⟨k + 1, by omega, by go_num, hm4, by (repeat (first | exact Turn.refl _ _ | apply Turn.set | apply Turn.alloc | apply Turn.drew | apply Turn.drewN | refine Turn.trans ?_ (by assumption) | refine Turn.below ?_ (by assumption) (by rfl) | refine Turn.setNew ?_ _ _ (by first | exact Nat.le_refl _ | (show _ ≤ _; simp; done) | (show _ ≤ _; simp; omega))))⟩, by simp [intOf]; omega⟩
    · have hkn : k = n := by omega
      subst hkn
      have hr := hr2.turn htr hgr
      obtain ⟨⟨c0, c1⟩, f0, f1⟩ := id hmm
      obtain ⟨⟨y0, y1⟩, y2, y3⟩ := id hr
      go_wp2
      refine bodyPost_ret (v := (.agg #[.int .u64 (HI (tot xs k)), .int .u64 (LO (tot xs k))])) (by simp [results, Try.results40, go_sem, set2 y0 y1]) rfl ?_
      exact ⟨rfl, (by repeat (first | exact Below.refl _ _ | apply keep_alloc | apply keep_drew | apply keep_drewN | refine keep_step (by assumption) ?_ (by rfl) | refine keep_set ?_ _ _ (by first | exact Nat.le_refl _ | (show _ ≤ _; simp; done) | (show _ ≤ _; simp; omega))))⟩
end Go.Proofs.Yteohnhjhdlcpiaa
