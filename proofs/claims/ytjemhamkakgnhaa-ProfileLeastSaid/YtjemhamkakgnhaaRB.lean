/- Layer 8: how far a ride gets. -/
import Derived.Test.YtjemhamkakgnhaaOgE
namespace Go.Proofs.Ytjemhamkakgnhaa
open Go Go.RowKit
set_option linter.unusedVariables false
set_option linter.unusedSimpArgs false
def IsR (m t r : Int) : Prop := 0 ≤ r ∧ r ≤ 63000 ∧ rD m r ≤ t ∧ (r = 63000 ∨ t < rD m (r + 1))
noncomputable def rR (m t : Int) : Int := Classical.epsilon (IsR m t)
theorem IsR.uniq {m t a b : Int} (hm : 1 ≤ m) (h : IsR m t a) (k : IsR m t b) : a = b := by
  obtain ⟨h1, h2, h3, h4⟩ := h
  obtain ⟨k1, k2, k3, k4⟩ := k
  rcases (by omega : a = b ∨ a < b ∨ b < a) with e | e | e
  · exact e
  · have := rD_mono (a := a + 1) (b := b) hm (by omega) (by omega); omega
  · have := rD_mono (a := b + 1) (b := a) hm (by omega) (by omega); omega
theorem IsR.eq {m t a : Int} (hm : 1 ≤ m) (h : IsR m t a) : rR m t = a := IsR.uniq hm (Classical.epsilon_spec ⟨a, h⟩) h
theorem rD_zero {m : Int} (hm : 1 ≤ m) : rD m 0 = 0 := by have := rD_bound (L := m) (n := 0) hm (by omega); omega
theorem pRe_go {t m : Int} (ht : 0 ≤ t) (hm : 1 ≤ m ∧ m ≤ 20) : ∀ (k : Nat) {i j : Int}, 0 ≤ i → i ≤ j → j ≤ 63000 → j - i ≤ k → (j = 63000 ∨ t < rD m (j + 1)) → (i = 0 ∨ rD m i ≤ t) → ∃ fu d, IsR m t d ∧ pRe_f t m fu i j = some (0, (d, d))
  | k, i, j, h0, h1, h2, hk, a, b => by
    have c0 : decide (0 ≤ i ∧ i ≤ j ∧ j ≤ 63000) = true := decide_eq_true ⟨h0, h1, h2⟩
    rcases (by omega : i = j ∨ i < j) with e | e
    · subst e
      refine ⟨1, i, ⟨h0, h2, ?_, a⟩, ?_⟩
      · rcases b with b | b
        · rw [b, rD_zero hm.1]; exact ht
        · exact b
      · rw [pRe_fs]
        simp only [c0, show decide (i < i) = false by simp, cond_true, cond_false]
    · cases k with
      | zero => omega
      | succ k =>
        have e1 : IntKind.i64.wrap ((IntKind.u64.wrap (IntKind.i64.wrap (i + j))).fdiv 2) = (i + j) / 2 := u64_fdiv (by omega) (by omega)
        have e2 : IntKind.i64.wrap ((i + j) / 2 + 1) = (i + j) / 2 + 1 := w8 (by omega)
        by_cases c : rD m ((i + j) / 2 + 1) > t
        · obtain ⟨fu, d, hd, hf⟩ := pRe_go ht hm k (i := i) (j := (i + j) / 2) h0 (by omega) (by omega) (by omega) (.inr c) b
          refine ⟨fu + 1, d, hd, ?_⟩
          rw [pRe_fs]
          simp only [c0, decide_eq_true e, e1, e2, decide_eq_true c, cond_true, Bool.not_true, cond_false]
          exact hf
        · obtain ⟨fu, d, hd, hf⟩ := pRe_go ht hm k (i := (i + j) / 2 + 1) (j := j) (by omega) (by omega) (by omega) (by omega) a (.inr (by omega))
          refine ⟨fu + 1, d, hd, ?_⟩
          rw [pRe_fs]
          simp only [c0, decide_eq_true e, e1, e2, decide_eq_false c, cond_true, Bool.not_false, cond_true]
          exact hf
theorem rRe_go {t m : Int} (ht : 0 ≤ t) (hm : 1 ≤ m ∧ m ≤ 20) : ∀ (k : Nat) {i j : Int}, 0 ≤ i → i ≤ j → j ≤ 63000 → j - i ≤ k → (j = 63000 ∨ t < rD m (j + 1)) → rD m i ≤ t → ∃ fu d, IsR m t d ∧ rRe_f t m fu i j = some (0, (d, d))
  | k, i, j, h0, h1, h2, hk, a, b => by
    have c0 : decide (0 ≤ i ∧ i ≤ j ∧ j ≤ 63000) = true := decide_eq_true ⟨h0, h1, h2⟩
    rcases (by omega : i = j ∨ i < j) with e | e
    · subst e
      refine ⟨1, i, ⟨h0, h2, b, a⟩, ?_⟩
      rw [rRe_fs]
      simp only [c0, show decide (i < i) = false by simp, cond_true, cond_false]
    · cases k with
      | zero => omega
      | succ k =>
        have e1 : IntKind.i64.wrap (j - i) = j - i := w8 (by omega)
        have e2 : IntKind.i64.wrap (j - i + 1) = j - i + 1 := w8 (by omega)
        have e3 : IntKind.i64.wrap ((j - i + 1).tdiv 2) = (j - i + 1) / 2 := by rw [Int.tdiv_eq_ediv_of_nonneg (by omega), w8 (by omega)]
        have e4 : IntKind.i64.wrap (i + (j - i + 1) / 2) = i + (j - i + 1) / 2 := w8 (by omega)
        have e5 : IntKind.i64.wrap (i + (j - i + 1) / 2 - 1) = i + (j - i + 1) / 2 - 1 := w8 (by omega)
        by_cases c : rD m (i + (j - i + 1) / 2) ≤ t
        · obtain ⟨fu, d, hd, hf⟩ := rRe_go ht hm k (i := i + (j - i + 1) / 2) (j := j) (by omega) (by omega) (by omega) (by omega) a c
          refine ⟨fu + 1, d, hd, ?_⟩
          rw [rRe_fs]
          simp only [c0, decide_eq_true e, e1, e2, e3, e4, decide_eq_true c, cond_true]
          exact hf
        · obtain ⟨fu, d, hd, hf⟩ := rRe_go ht hm k (i := i) (j := i + (j - i + 1) / 2 - 1) h0 (by omega) (by omega) (by omega) (.inr (by rw [show i + (j - i + 1) / 2 - 1 + 1 = i + (j - i + 1) / 2 by omega]; omega)) b
          refine ⟨fu + 1, d, hd, ?_⟩
          rw [rRe_fs]
          simp only [c0, decide_eq_true e, e1, e2, e3, e4, e5, decide_eq_false c, cond_true, cond_false]
          exact hf
theorem pReach {t m : Int} (h1 : 0 ≤ t ∧ t ≤ 63000) (h2 : 1 ≤ m ∧ m ≤ 20) : Known Try.prog [] 24 [.int .i64 t, .int .i64 m] (.tuple #[.int .i64 (rR m t), .int .i64 0]) := by
  obtain ⟨fu, d, hd, hf⟩ := pRe_go h1.1 h2 63000 (i := 0) (j := 63000) (by omega) (by omega) (by omega) (by omega) (.inl rfl) (.inl rfl)
  obtain ⟨j, hj⟩ := pRe_run t m h1 h2 _ _ _ hf
  have h := pReK t m d d j h1 h2 (decide_eq_false (by omega)) (decide_eq_false (by omega)) (decide_eq_false (by omega)) (decide_eq_false (by omega)) hj
  rw [hd.eq h2.1]
  simp only [pReK_c0] at h
  exact h
theorem rReach {t m : Int} (h1 : 0 ≤ t ∧ t ≤ 63000) (h2 : 1 ≤ m ∧ m ≤ 20) : Known Try.prog [] 25 [.int .i64 t, .int .i64 m] (.tuple #[.int .i64 (rR m t), .int .i64 0]) := by
  obtain ⟨fu, d, hd, hf⟩ := rRe_go h1.1 h2 63000 (i := 0) (j := 63000) (by omega) (by omega) (by omega) (by omega) (.inl rfl) (by rw [rD_zero h2.1]; exact h1.1)
  obtain ⟨j, hj⟩ := rRe_run t m h1 h2 _ _ _ hf
  have h := rReK t m d d j h1 h2 (decide_eq_false (by omega)) (decide_eq_false (by omega)) (decide_eq_false (by omega)) (decide_eq_false (by omega)) hj
  rw [hd.eq h2.1]
  simp only [rReK_c0] at h
  exact h
theorem rR_is {m t : Int} (hm : 1 ≤ m ∧ m ≤ 20) (ht : 0 ≤ t) : IsR m t (rR m t) := by
  obtain ⟨fu, d, hd, hf⟩ := pRe_go (m := m) ht hm 63000 (i := 0) (j := 63000) (by omega) (by omega) (by omega) (by omega) (.inl rfl) (.inl rfl)
  rw [hd.eq hm.1]; exact hd
theorem kMod {n m : Int} (h : 0 < m ∧ m ≤ 4611686018427387904) : Known Try.prog [] 29 [.int .i64 n, .int .i64 m] (.int .i64 (n % m)) := by
  have k := mod n m
  have e : mod_c0 n m = n % m := by
    unfold mod_c0
    have b0 := Int.emod_nonneg n (by omega : m ≠ 0)
    have b1 := Int.emod_lt_of_pos n h.1
    have c0 : decide (m < 1) = false := decide_eq_false (by omega)
    rw [c0, cond_false]
    by_cases hn : 0 ≤ n
    · rw [Int.tmod_eq_emod_of_nonneg hn, decide_eq_false (by omega), cond_false]
    · have t1 : n.tmod m = -((-n) % m) := by rw [tmodP h.1, if_neg hn]
      have d0 := Int.emod_nonneg (-n) (by omega : m ≠ 0)
      have d1 := Int.emod_lt_of_pos (-n) h.1
      have key : n % m = if (-n) % m = 0 then 0 else m - (-n) % m := by
        split
        · rename_i z
          have := Int.dvd_of_emod_eq_zero z
          exact Int.emod_eq_zero_of_dvd (Int.dvd_neg.1 this)
        · rename_i z
          have e1 : n = m - (-n) % m + m * (-((-n) / m) - 1) := by
            have := Int.emod_add_mul_ediv (-n) m
            rw [Int.mul_sub, Int.mul_neg, Int.mul_one]; omega
          rw [e1, Int.add_mul_emod_self_left, Int.emod_eq_of_lt (by omega) (by omega)]
          rw [← e1]
      rw [t1, key]
      split
      · rename_i z
        rw [z]; simp
      · rename_i z
        rw [decide_eq_true (by omega), cond_true, IntKind.wrap_i64]
        omega
  rw [e] at k
  exact k
end Go.Proofs.Ytjemhamkakgnhaa
