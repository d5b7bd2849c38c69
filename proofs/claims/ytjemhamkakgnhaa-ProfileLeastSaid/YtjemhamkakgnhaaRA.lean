/- Layer 8: the ticks of a ride, in the program and in the reference. -/
import Derived.Test.YtjemhamkakgnhaaPR
import Derived.Test.YtjemhamkakgnhaaOgB
import Derived.Test.YtjemhamkakgnhaaOgC
namespace Go.Proofs.Ytjemhamkakgnhaa
open Go Go.RowKit
set_option linter.unusedVariables false
set_option linter.unusedSimpArgs false
theorem tri_le {v : Int} (h0 : 0 ≤ v) (h : v ≤ 21) : 0 ≤ v * (v + 1) ∧ v * (v + 1) ≤ 462 := by
  have e : v * (v + 1) = v * v + v := by rw [Int.mul_add, Int.mul_one]
  have := sq_bound h0 h; omega
theorem rtri_eq {v : Int} (h0 : 0 ≤ v) (h : v ≤ 21) : rtri_c0 v = rT v := by
  have b := tri_le h0 h
  unfold rtri_c0 rT
  rw [w8 (v := v + 1) (by omega), w8 (v := v * (v + 1)) (by omega), Int.tdiv_eq_ediv_of_nonneg b.1, w8 (by omega)]
theorem ride_step {n m v left w t p : Int} {fu : Nat} (hm : 1 ≤ m ∧ m ≤ 20) (h0 : 0 ≤ v) (h1 : v ≤ m) (hl : 0 < left ∧ left ≤ 63000) (ht : 0 ≤ t ∧ t ≤ 1000000) (h : NextV m v left w) :
    ∃ p', ride_f n m (fu + 1) t p v left = ride_f n m fu (t + 1) p' w (left - w) := by
  rw [ride_fs]
  have e1 : IntKind.i64.wrap (v + 1) = v + 1 := w8 (by omega)
  have e2 : IntKind.i64.wrap (v + 1 - 1) = v := by rw [w8 (by omega)]; omega
  have e3 : IntKind.i64.wrap (v - 1) = v - 1 := w8 (by omega)
  have e4 : IntKind.i64.wrap (t + 1) = t + 1 := w8 (by omega)
  have c0 : decide (0 ≤ v ∧ v ≤ 20 ∧ left ≤ 63000) = true := decide_eq_true ⟨h0, by omega, hl.2⟩
  have c1 : decide (left > 0) = true := decide_eq_true hl.1
  have d1 : rtri_c0 (v + 1) = rT (v + 1) := rtri_eq (by omega) (by omega)
  have d2 : rtri_c0 v = rT v := rtri_eq (by omega) (by omega)
  simp only [e1, e2, e3, e4, c0, c1, d1, d2, cond_true]
  rcases h with ⟨rfl, k1, k2⟩ | ⟨e, k1, k2, k3⟩ | ⟨e, k1, k2, k3⟩
  · simp only [decide_eq_true k1, decide_eq_true k2, cond_true]
    rw [w8 (v := left - (v + 1)) (by omega)]
    exact ⟨_, rfl⟩
  · subst e
    have g : decide (w ≤ m) = true := decide_eq_true h1
    by_cases a : w + 1 ≤ m
    · have b : ¬ rT (w + 1) ≤ left := by omega
      simp only [decide_eq_true a, decide_eq_false b, decide_eq_true k2, g, cond_true, cond_false]
      rw [w8 (v := left - w) (by omega)]
      exact ⟨_, rfl⟩
    · simp only [decide_eq_false a, decide_eq_true k2, g, cond_true, cond_false]
      rw [w8 (v := left - w) (by omega)]
      exact ⟨_, rfl⟩
  · subst e
    have ts := rT_succ (v := v)
    have d3 : rtri_c0 (v - 1) = rT (v - 1) := rtri_eq (by omega) (by omega)
    have g : decide (v ≤ m) = true := decide_eq_true h1
    have g1 : decide (v - 1 ≤ m) = true := decide_eq_true (by omega)
    have g2 : decide (v - 1 ≥ 0) = true := decide_eq_true (by omega)
    have b0 : ¬ rT v ≤ left := by omega
    by_cases a : v + 1 ≤ m
    · have b : ¬ rT (v + 1) ≤ left := by omega
      simp only [decide_eq_true a, decide_eq_false b, decide_eq_false b0, d3, decide_eq_true k2, g, g1, g2, cond_true, cond_false]
      rw [w8 (v := left - (v - 1)) (by omega)]
      exact ⟨_, rfl⟩
    · simp only [decide_eq_false a, decide_eq_false b0, d3, decide_eq_true k2, g, g1, g2, cond_true, cond_false]
      rw [w8 (v := left - (v - 1)) (by omega)]
      exact ⟨_, rfl⟩
theorem ride_end {n m v t p : Int} {fu : Nat} (h0 : 0 ≤ v) (h1 : v ≤ 20) : ride_f n m (fu + 1) t p v 0 = some (0, (t, p, v, 0)) := by
  rw [ride_fs]
  have c0 : decide (0 ≤ v ∧ v ≤ 20 ∧ (0 : Int) ≤ 63000) = true := decide_eq_true ⟨h0, h1, by omega⟩
  rw [c0]
  rfl
theorem ride_go {n m : Int} (hm : 1 ≤ m ∧ m ≤ 20) : ∀ (k : Nat) {t p v left d : Int}, Rides m v left d → d - v = k → 0 ≤ t → t + k ≤ 1000000 → 0 ≤ left → left ≤ 63000 → ∃ p' v', ride_f n m (k + 1) t p v left = some (0, (t + k, p', v', 0))
  | 0, t, p, v, left, d, h, hk, ht, hb, l0, l1 => by
    have : left = 0 := by
      rcases (by omega : left = 0 ∨ 0 < left) with e | e
      · exact e
      · obtain ⟨w, hw⟩ := nextV_ex hm.1 h.v0 h.vL h.stop e
        have := (h.next hm.1 e hw).2.1
        omega
    subst this
    exact ⟨p, v, by rw [ride_end h.v0 (by have := h.vL; omega)]; simp⟩
  | k + 1, t, p, v, left, d, h, hk, ht, hb, l0, l1 => by
    have hp : 0 < left := by
      rcases (by omega : left = 0 ∨ 0 < left) with e | e
      · subst e; have := h.done hm.1; omega
      · exact e
    obtain ⟨w, hw⟩ := nextV_ex hm.1 h.v0 h.vL h.stop hp
    obtain ⟨h1, h2, h3, h4⟩ := h.next hm.1 hp hw
    obtain ⟨p1, e1⟩ := ride_step (n := n) (t := t) (p := p) (fu := k + 1) hm h.v0 h.vL ⟨hp, l1⟩ ⟨ht, by omega⟩ hw
    obtain ⟨p2, v2, e2⟩ := ride_go (n := n) hm k (t := t + 1) (p := p1) h1 (by omega) (by omega) (by omega) h4 (by omega)
    exact ⟨p2, v2, by rw [e1, e2]; simp; omega⟩
theorem rRide_ex {n m : Int} (h1 : 0 ≤ n ∧ n ≤ 63000) (h2 : 1 ≤ m ∧ m ≤ 20) : ∃ p, Known Try.prog [] 37 [.int .i64 n, .int .i64 m] (.tuple #[.int .i64 (rD m n), .int .i64 p]) := by
  have hb := rD_bound (L := m) h2.1 h1.1
  obtain ⟨k, hk⟩ : ∃ k : Nat, rD m n = k := ⟨(rD m n).toNat, by omega⟩
  obtain ⟨p, v, e⟩ := ride_go (n := n) h2 k (t := 0) (p := 0) (Rides.start (rD_is h2.1 h1.1) h2.1 h1.1) (by omega) (by omega) (by omega) h1.1 h1.2
  obtain ⟨j, hj⟩ := ride_run n m h1 h2 _ _ _ e
  have h := rideK n m (0 + k) p v 0 j hj
  simp only [rideK_c0, rideK_c1, Int.zero_add] at h
  rw [hk]
  exact ⟨p, h⟩
noncomputable def ridePk (n m : Int) : Int := Classical.epsilon fun p => Known Try.prog [] 37 [.int .i64 n, .int .i64 m] (.tuple #[.int .i64 (rD m n), .int .i64 p])
theorem rRide {n m : Int} (h1 : 0 ≤ n ∧ n ≤ 63000) (h2 : 1 ≤ m ∧ m ≤ 20) : Known Try.prog [] 37 [.int .i64 n, .int .i64 m] (.tuple #[.int .i64 (rD m n), .int .i64 (ridePk n m)]) :=
  Classical.epsilon_spec (rRide_ex h1 h2)
/-! the program's -/
theorem u64_fdiv {v : Int} (h0 : 0 ≤ v) (h : v ≤ 1000000) : IntKind.i64.wrap ((IntKind.u64.wrap (IntKind.i64.wrap v)).fdiv 2) = v / 2 := by
  rw [w8 (v := v) (by omega), wrapU64, show v % 18446744073709551616 = v by omega, Int.fdiv_eq_ediv_of_nonneg _ (by omega), w8 (by omega)]
theorem pWithin_eq {k m : Int} (h0 : 0 ≤ k) (h : k ≤ 40) (hm : 1 ≤ m ∧ m ≤ 20) : pWithin_c0 k m = rW m k := by
  have e1 : IntKind.i64.wrap (k + 1) = k + 1 := w8 (by omega)
  have e2 : IntKind.i64.wrap ((k + 1).tdiv 2) = (k + 1) / 2 := by rw [Int.tdiv_eq_ediv_of_nonneg (by omega), w8 (by omega)]
  unfold pWithin_c0 rW
  simp only [e1, e2]
  have e3 : (if m < (k + 1) / 2 then m else (k + 1) / 2) = min ((k + 1) / 2) m := by
    split
    · rw [Int.min_eq_right (by omega)]
    · rw [Int.min_eq_left (by omega)]
  rw [e3]
  have b : 0 ≤ min ((k + 1) / 2) m ∧ min ((k + 1) / 2) m ≤ 20 := by omega
  have b2 : 0 ≤ k + 1 - min ((k + 1) / 2) m ∧ k + 1 - min ((k + 1) / 2) m ≤ 41 := by omega
  rw [w8 (v := k + 1 - _) (by omega)]
  have := Int.mul_nonneg b.1 b2.1
  have := Int.mul_le_mul b.2 b2.2 b2.1 (by omega)
  rw [w8 (by omega)]
theorem pDur_go {n m : Int} (hn : 0 ≤ n) (hm : 1 ≤ m ∧ m ≤ 20) : ∀ (k : Nat) {i j : Int}, 0 ≤ i → i ≤ j → j ≤ 40 → j - i ≤ k → n ≤ rW m j → (i = 0 ∨ rW m (i - 1) < n) → ∃ fu d, IsD m n d ∧ pDur_f n m fu i j = some (0, (d, d))
  | k, i, j, h0, h1, h2, hk, a, b => by
    have c0 : decide (0 ≤ i ∧ i ≤ j ∧ j ≤ 40) = true := decide_eq_true ⟨h0, h1, h2⟩
    rcases (by omega : i = j ∨ i < j) with e | e
    · subst e
      refine ⟨1, i, ⟨h0, a, b⟩, ?_⟩
      rw [pDur_fs]
      simp only [c0, show decide (i < i) = false by simp, cond_true, cond_false]
    · cases k with
      | zero => omega
      | succ k =>
        have e1 : IntKind.i64.wrap ((IntKind.u64.wrap (IntKind.i64.wrap (i + j))).fdiv 2) = (i + j) / 2 := u64_fdiv (by omega) (by omega)
        have e2 : IntKind.i64.wrap ((i + j) / 2 + 1) = (i + j) / 2 + 1 := w8 (by omega)
        by_cases c : n ≤ rW m ((i + j) / 2)
        · obtain ⟨fu, d, hd, hf⟩ := pDur_go hn hm k (i := i) (j := (i + j) / 2) h0 (by omega) (by omega) (by omega) c b
          refine ⟨fu + 1, d, hd, ?_⟩
          rw [pDur_fs]
          simp only [c0, decide_eq_true e, e1, e2, pWithin_eq (k := (i + j) / 2) (by omega) (by omega) hm, ge_iff_le, decide_eq_true c, cond_true, Bool.not_true, cond_false]
          exact hf
        · obtain ⟨fu, d, hd, hf⟩ := pDur_go hn hm k (i := (i + j) / 2 + 1) (j := j) (by omega) (by omega) (by omega) (by omega) a (.inr (by rw [show (i + j) / 2 + 1 - 1 = (i + j) / 2 by omega]; omega))
          refine ⟨fu + 1, d, hd, ?_⟩
          rw [pDur_fs]
          simp only [c0, decide_eq_true e, e1, e2, pWithin_eq (k := (i + j) / 2) (by omega) (by omega) hm, ge_iff_le, decide_eq_false c, cond_true, Bool.not_false, cond_true]
          exact hf
theorem pDuration {n m : Int} (h1 : 0 ≤ n ∧ n ≤ 63000) (h2 : 1 ≤ m ∧ m ≤ 20) : Known Try.prog [] 36 [.int .i64 n, .int .i64 m] (.int .i64 (rD m n)) := by
  have sq := sq_bound (v := m) (b := 20) (by omega) h2.2
  have o := rW_odd (j := m) h2.1 (Int.le_refl _)
  have e0 : IntKind.i64.wrap (IntKind.i64.wrap (2 * m) - 1) = 2 * m - 1 := by rw [w8 (v := 2 * m) (by omega), w8 (by omega)]
  by_cases c : n > m * m
  · have := pDurL n m c h2 ⟨sq.1, by omega⟩ h1
    have e : pDurL_c0 n m = rD m n := by
      unfold pDurL_c0
      rw [e0, w8 (v := m * m) (by omega), w8 (v := n - m * m) (by omega), w8 (v := n - m * m + m) (by omega), w8 (v := n - m * m + m - 1) (by omega), Int.tdiv_eq_ediv_of_nonneg (by omega)]
      have q0 : 0 ≤ (n - m * m + m - 1) / m := Int.ediv_nonneg (by omega) (by omega)
      have q1 : (n - m * m + m - 1) / m ≤ n - m * m + m - 1 := Int.ediv_le_self _ (by omega)
      have q2 := Int.mul_ediv_self_le (x := n - m * m + m - 1) (k := m) (by omega)
      have q3 := Int.lt_mul_ediv_self_add (x := n - m * m + m - 1) (k := m) (by omega)
      rw [w8 (v := (n - m * m + m - 1) / m) (by omega), w8 (by omega)]
      refine (rD_eq h2.1 h1.1 ?_).symm
      generalize (n - m * m + m - 1) / m = c at *
      have hc : 1 ≤ c := by
        rcases (by omega : 1 ≤ c ∨ c = 0) with k | k
        · exact k
        · subst k; simp at q3; omega
      have l1 := rW_lin (L := m) (k := 2 * m - 1 + c) h2.1 (by omega)
      have l2 := rW_lin (L := m) (k := 2 * m - 1 + c - 1) h2.1 (by omega)
      rw [show 2 * m - 1 + c + 1 - m = m + c by omega, Int.mul_add] at l1
      rw [show 2 * m - 1 + c - 1 + 1 - m = m + c - 1 by omega, Int.mul_sub, Int.mul_add, Int.mul_one] at l2
      exact ⟨by omega, by omega, .inr (by omega)⟩
    rw [e] at this
    exact this
  · obtain ⟨fu, d, hd, hf⟩ := pDur_go (n := n) h1.1 h2 40 (i := 0) (j := 2 * m - 1) (by omega) (by omega) (by omega) (by omega) (by omega) (.inl rfl)
    rw [← e0] at hf
    obtain ⟨j, hj⟩ := pDur_run n m h1 h2 _ _ _ hf
    have h := pDurK n m d d j (by rw [w8 (v := m * m) (by omega), w8 (by omega)]; exact decide_eq_false (by omega)) hj
    rw [rD_eq h2.1 h1.1 hd]
    simp only [pDurK_c0] at h
    exact h
end Go.Proofs.Ytjemhamkakgnhaa
