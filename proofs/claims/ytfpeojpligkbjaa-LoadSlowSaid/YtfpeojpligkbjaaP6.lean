/- Layer 11: LoadFull. -/
import Derived.Test.YtfpeojpligkbjaaP5
namespace Go.Proofs.Ytfpeojpligkbjaa
open Go.RowKit
set_option linter.unusedVariables false

theorem fullFacts (n a p : Int) (ha : 0 ≤ a ∧ a ≤ 199) (hp : 1 ≤ p ∧ p ≤ 60) :
    fitE (mE n) (mF n) (mS n) a p = 0 ∧ chl (mE n) (mF n) (mS n) a = 0 ∧ 0 ≤ fitV (mE n) (mF n) (mS n) a p ∧ fitV (mE n) (mF n) (mS n) a p ≤ 161 ∧
    ((bandV (mE n) (mF n) (mS n) a = 3 ∧ fitV (mE n) (mF n) (mS n) a p = 0) ∨
     (bandV (mE n) (mF n) (mS n) a ≠ 3 ∧
      0 ≤ fitV (mE n) (mF n) (mS n) a p * p ∧ fitV (mE n) (mF n) (mS n) a p * p ≤ 161 ∧ 0 ≤ (fitV (mE n) (mF n) (mS n) a p + 1) * p ∧ (fitV (mE n) (mF n) (mS n) a p + 1) * p ≤ 300 ∧
      chl (mE n) (mF n) (mS n) (a + fitV (mE n) (mF n) (mS n) a p * p) = 0 ∧ chl (mE n) (mF n) (mS n) (a + (fitV (mE n) (mF n) (mS n) a p + 1) * p) = 0 ∧
      bandV (mE n) (mF n) (mS n) (a + fitV (mE n) (mF n) (mS n) a p * p) ≠ 3 ∧ bandV (mE n) (mF n) (mS n) (a + (fitV (mE n) (mF n) (mS n) a p + 1) * p) = 3)) := by
  obtain ⟨m1, m2, m3, m4, m5, m6⟩ := m_rng n
  have c1 := chl_zero (n := a) (m_chk n) (by omega)
  have f1 : fitE (mE n) (mF n) (mS n) a p = 0 := by rw [fitE_def, if_pos c1, if_pos (by omega)]
  have v1 : fitV (mE n) (mF n) (mS n) a p = if mF n - a < 0 then 0 else (mF n - a) / p := by rw [fitV_def, if_pos f1]
  have b1 : bandV (mE n) (mF n) (mS n) a = bnd (mE n) (mF n) (mS n) a := by rw [bandV_def, if_pos c1]
  have e1 := bnd_def (mE n) (mF n) (mS n) a
  by_cases h : mF n < a
  · have h0 : fitV (mE n) (mF n) (mS n) a p = 0 := by omega
    exact ⟨f1, c1, by omega, by omega, .inl ⟨by omega, h0⟩⟩
  · have hk : fitV (mE n) (mF n) (mS n) a p = (mF n - a) / p := by omega
    generalize fitV (mE n) (mF n) (mS n) a p = k at *
    have h1 : k * p ≤ mF n - a := by rw [hk]; exact Int.ediv_mul_le _ (by omega)
    have h2 : mF n - a < (k + 1) * p := by rw [hk]; exact Int.lt_ediv_add_one_mul_self _ (by omega)
    have h3 : (k + 1) * p = k * p + p := by rw [Int.add_mul, Int.one_mul]
    have h4 : 0 ≤ k := by rw [hk]; exact Int.ediv_nonneg (by omega) (by omega)
    have h5 : 0 ≤ k * p := Int.mul_nonneg h4 (by omega)
    have h6 : k * 1 ≤ k * p := Int.mul_le_mul_of_nonneg_left hp.1 h4
    have c2 := chl_zero (n := a + k * p) (m_chk n) (by omega)
    have c3 := chl_zero (n := a + (k + 1) * p) (m_chk n) (by omega)
    have b2 : bandV (mE n) (mF n) (mS n) (a + k * p) = bnd (mE n) (mF n) (mS n) (a + k * p) := by rw [bandV_def, if_pos c2]
    have b3 : bandV (mE n) (mF n) (mS n) (a + (k + 1) * p) = bnd (mE n) (mF n) (mS n) (a + (k + 1) * p) := by rw [bandV_def, if_pos c3]
    have e2 := bnd_def (mE n) (mF n) (mS n) (a + k * p)
    have e3 := bnd_def (mE n) (mF n) (mS n) (a + (k + 1) * p)
    exact ⟨f1, c1, h4, by omega, .inr ⟨by omega, h5, by omega, by omega, by omega, c2, c3, by omega, by omega⟩⟩

set_option maxRecDepth 100000 in
set_option maxHeartbeats 16000000 in
theorem loadFull_true (n x y : Int) (w : World) (hn : In64 n) (hx : In64 x) (hy : In64 y) :
    Calls Try.prog 9 #[.int .i64 n, .int .i64 x, .int .i64 y] w fun e w' => e = .returned (.bool true) ∧ Below w.heap.size w w' := by
  have hx2 : 0 ≤ x % 200 ∧ x % 200 ≤ 199 := by omega
  have hy2 : 0 ≤ y % 60 ∧ y % 60 ≤ 59 := by omega
  obtain ⟨f1, f2, f3, f4, f5⟩ := fullFacts n (x % 200) (1 + y % 60) hx2 (by omega)
  obtain ⟨hy3, hy4⟩ := hy2
  obtain ⟨hx3, hx4⟩ := hx2
  rcases f5 with ⟨g1, g2⟩ | ⟨g1, g2, g3, g4, g5, g6, g7, g8, g9⟩
  · go_enter Try.func9, Try.ntmps9
    go_wp2_with fail
    refine (made_any n _ hn).mono ?_
    rintro _ w1 ⟨rfl, hb1⟩
    go_wp2_with fail
    refine (mod_any x 200 _ hx (by decide)).mono ?_
    rintro _ w2 ⟨rfl, hb2⟩
    rw [if_neg (by decide)]
    go_wp2_with fail
    refine (mod_any y 60 _ hy (by decide)).mono ?_
    rintro _ w3 ⟨rfl, hb3⟩
    rw [if_neg (by decide)]
    go_wp2_with (first | (go_at_call 28; (apply Calls.mono; (focus ((first | (with_reducible exact pFit _ _ _ _ _ _ i64_m1 i64_m2 i64_m3) | (apply pFit _ _ _ _ _ _ i64_m1 i64_m2 i64_m3 <;> first | (with_reducible assumption) | (first | omega | (simp only [Bool.not_eq_true', Bool.not_eq_false', beq_iff_eq, beq_eq_false_iff_ne, ne_eq, bne_iff_ne, bne_eq_false_iff_eq, Bool.not_eq_true, Bool.not_eq_false, decide_eq_true_eq, decide_eq_false_iff_not, Bool.and_eq_true, Bool.or_eq_true] at *; omega) | (simp only [Bool.not_eq_true', Bool.not_eq_false', beq_iff_eq, beq_eq_false_iff_ne, ne_eq, bne_iff_ne, bne_eq_false_iff_eq, Bool.not_eq_true, Bool.not_eq_false, decide_eq_true_eq, decide_eq_false_iff_not, Bool.and_eq_true, Bool.or_eq_true, wrap64] at *; omega)))); done))); rintro e w' ⟨rfl, hb⟩; obtain ⟨hr0, hr1, hr2⟩ := box3 (w := w3) (w' := w') (show Below (w3.alloc (.cells #[.int .i64 (mE n), .int .i64 (mF n), .int .i64 (mS n)] 23)).heap.size (w3.alloc (.cells #[.int .i64 (mE n), .int .i64 (mF n), .int .i64 (mS n)] 23)) w' from (by repeat (first | exact Below.refl _ _ | apply keep_alloc | apply keep_drew | apply keep_drewN | refine keep_step (by assumption) ?_ (by rfl) | refine keep_set ?_ _ _ (by first | exact Nat.le_refl _ | (show _ ≤ _; simp; done) | (show _ ≤ _; simp; omega)))))) | (go_at_call 11; (apply Calls.mono; (focus ((first | (with_reducible exact pBand _ _ _ _ _ i64_m1 i64_m2 i64_m3) | (apply pBand _ _ _ _ _ i64_m1 i64_m2 i64_m3 <;> first | (with_reducible assumption) | (first | omega | (simp only [Bool.not_eq_true', Bool.not_eq_false', beq_iff_eq, beq_eq_false_iff_ne, ne_eq, bne_iff_ne, bne_eq_false_iff_eq, Bool.not_eq_true, Bool.not_eq_false, decide_eq_true_eq, decide_eq_false_iff_not, Bool.and_eq_true, Bool.or_eq_true] at *; omega) | (simp only [Bool.not_eq_true', Bool.not_eq_false', beq_iff_eq, beq_eq_false_iff_ne, ne_eq, bne_iff_ne, bne_eq_false_iff_eq, Bool.not_eq_true, Bool.not_eq_false, decide_eq_true_eq, decide_eq_false_iff_not, Bool.and_eq_true, Bool.or_eq_true, wrap64] at *; omega)))); done))); rintro e w' ⟨rfl, hb⟩; obtain ⟨hr0, hr1, hr2⟩ := box3 (w := w3) (w' := w') (show Below (w3.alloc (.cells #[.int .i64 (mE n), .int .i64 (mF n), .int .i64 (mS n)] 23)).heap.size (w3.alloc (.cells #[.int .i64 (mE n), .int .i64 (mF n), .int .i64 (mS n)] 23)) w' from (by repeat (first | exact Below.refl _ _ | apply keep_alloc | apply keep_drew | apply keep_drewN | refine keep_step (by assumption) ?_ (by rfl) | refine keep_set ?_ _ _ (by first | exact Nat.le_refl _ | (show _ ≤ _; simp; done) | (show _ ≤ _; simp; omega)))))) | (go_at_call 17; (apply Calls.mono; (focus ((first | (with_reducible exact awake_true) | (apply awake_true <;> first | (with_reducible assumption) | (first | omega | (simp only [Bool.not_eq_true', Bool.not_eq_false', beq_iff_eq, beq_eq_false_iff_ne, ne_eq, bne_iff_ne, bne_eq_false_iff_eq, Bool.not_eq_true, Bool.not_eq_false, decide_eq_true_eq, decide_eq_false_iff_not, Bool.and_eq_true, Bool.or_eq_true] at *; omega) | (simp only [Bool.not_eq_true', Bool.not_eq_false', beq_iff_eq, beq_eq_false_iff_ne, ne_eq, bne_iff_ne, bne_eq_false_iff_eq, Bool.not_eq_true, Bool.not_eq_false, decide_eq_true_eq, decide_eq_false_iff_not, Bool.and_eq_true, Bool.or_eq_true, wrap64] at *; omega)))); done))); rintro e w' ⟨rfl, hb⟩; obtain ⟨hc, hf⟩ := bcell (show Below w.heap.size w w' from (by repeat (first | exact Below.refl _ _ | apply keep_alloc | apply keep_drew | apply keep_drewN | refine keep_step (by assumption) ?_ (by rfl) | refine keep_set ?_ _ _ (by first | exact Nat.le_refl _ | (show _ ≤ _; simp; done) | (show _ ≤ _; simp; omega)))))))
    go_ret
    exact ⟨rfl, (by repeat (first | exact Below.refl _ _ | apply keep_alloc | apply keep_drew | apply keep_drewN | refine keep_step (by assumption) ?_ (by rfl) | refine keep_set ?_ _ _ (by first | exact Nat.le_refl _ | (show _ ≤ _; simp; done) | (show _ ≤ _; simp; omega))))⟩
  · have g1b : (bandV (mE n) (mF n) (mS n) (x % 200) == 3) = false := by simp [g1]
    have g8b : (bandV (mE n) (mF n) (mS n) (x % 200 + fitV (mE n) (mF n) (mS n) (x % 200) (1 + y % 60) * (1 + y % 60)) != 3) = true := by simp [g8]
    clear g1 g8
    go_enter Try.func9, Try.ntmps9
    go_wp2_with fail
    refine (made_any n _ hn).mono ?_
    rintro _ w1 ⟨rfl, hb1⟩
    go_wp2_with fail
    refine (mod_any x 200 _ hx (by decide)).mono ?_
    rintro _ w2 ⟨rfl, hb2⟩
    rw [if_neg (by decide)]
    go_wp2_with fail
    refine (mod_any y 60 _ hy (by decide)).mono ?_
    rintro _ w3 ⟨rfl, hb3⟩
    rw [if_neg (by decide)]
    go_wp2_with (first | (go_at_call 28; (apply Calls.mono; (focus ((first | (with_reducible exact pFit _ _ _ _ _ _ i64_m1 i64_m2 i64_m3) | (apply pFit _ _ _ _ _ _ i64_m1 i64_m2 i64_m3 <;> first | (with_reducible assumption) | (first | omega | (simp only [Bool.not_eq_true', Bool.not_eq_false', beq_iff_eq, beq_eq_false_iff_ne, ne_eq, bne_iff_ne, bne_eq_false_iff_eq, Bool.not_eq_true, Bool.not_eq_false, decide_eq_true_eq, decide_eq_false_iff_not, Bool.and_eq_true, Bool.or_eq_true] at *; omega) | (simp only [Bool.not_eq_true', Bool.not_eq_false', beq_iff_eq, beq_eq_false_iff_ne, ne_eq, bne_iff_ne, bne_eq_false_iff_eq, Bool.not_eq_true, Bool.not_eq_false, decide_eq_true_eq, decide_eq_false_iff_not, Bool.and_eq_true, Bool.or_eq_true, wrap64] at *; omega)))); done))); rintro e w' ⟨rfl, hb⟩; obtain ⟨hr0, hr1, hr2⟩ := box3 (w := w3) (w' := w') (show Below (w3.alloc (.cells #[.int .i64 (mE n), .int .i64 (mF n), .int .i64 (mS n)] 23)).heap.size (w3.alloc (.cells #[.int .i64 (mE n), .int .i64 (mF n), .int .i64 (mS n)] 23)) w' from (by repeat (first | exact Below.refl _ _ | apply keep_alloc | apply keep_drew | apply keep_drewN | refine keep_step (by assumption) ?_ (by rfl) | refine keep_set ?_ _ _ (by first | exact Nat.le_refl _ | (show _ ≤ _; simp; done) | (show _ ≤ _; simp; omega)))))) | (go_at_call 11; (apply Calls.mono; (focus ((first | (with_reducible exact pBand _ _ _ _ _ i64_m1 i64_m2 i64_m3) | (apply pBand _ _ _ _ _ i64_m1 i64_m2 i64_m3 <;> first | (with_reducible assumption) | (first | omega | (simp only [Bool.not_eq_true', Bool.not_eq_false', beq_iff_eq, beq_eq_false_iff_ne, ne_eq, bne_iff_ne, bne_eq_false_iff_eq, Bool.not_eq_true, Bool.not_eq_false, decide_eq_true_eq, decide_eq_false_iff_not, Bool.and_eq_true, Bool.or_eq_true] at *; omega) | (simp only [Bool.not_eq_true', Bool.not_eq_false', beq_iff_eq, beq_eq_false_iff_ne, ne_eq, bne_iff_ne, bne_eq_false_iff_eq, Bool.not_eq_true, Bool.not_eq_false, decide_eq_true_eq, decide_eq_false_iff_not, Bool.and_eq_true, Bool.or_eq_true, wrap64] at *; omega)))); done))); rintro e w' ⟨rfl, hb⟩; obtain ⟨hr0, hr1, hr2⟩ := box3 (w := w3) (w' := w') (show Below (w3.alloc (.cells #[.int .i64 (mE n), .int .i64 (mF n), .int .i64 (mS n)] 23)).heap.size (w3.alloc (.cells #[.int .i64 (mE n), .int .i64 (mF n), .int .i64 (mS n)] 23)) w' from (by repeat (first | exact Below.refl _ _ | apply keep_alloc | apply keep_drew | apply keep_drewN | refine keep_step (by assumption) ?_ (by rfl) | refine keep_set ?_ _ _ (by first | exact Nat.le_refl _ | (show _ ≤ _; simp; done) | (show _ ≤ _; simp; omega)))))) | (go_at_call 17; (apply Calls.mono; (focus ((first | (with_reducible exact awake_true) | (apply awake_true <;> first | (with_reducible assumption) | (first | omega | (simp only [Bool.not_eq_true', Bool.not_eq_false', beq_iff_eq, beq_eq_false_iff_ne, ne_eq, bne_iff_ne, bne_eq_false_iff_eq, Bool.not_eq_true, Bool.not_eq_false, decide_eq_true_eq, decide_eq_false_iff_not, Bool.and_eq_true, Bool.or_eq_true] at *; omega) | (simp only [Bool.not_eq_true', Bool.not_eq_false', beq_iff_eq, beq_eq_false_iff_ne, ne_eq, bne_iff_ne, bne_eq_false_iff_eq, Bool.not_eq_true, Bool.not_eq_false, decide_eq_true_eq, decide_eq_false_iff_not, Bool.and_eq_true, Bool.or_eq_true, wrap64] at *; omega)))); done))); rintro e w' ⟨rfl, hb⟩; obtain ⟨hc, hf⟩ := bcell (show Below w.heap.size w w' from (by repeat (first | exact Below.refl _ _ | apply keep_alloc | apply keep_drew | apply keep_drewN | refine keep_step (by assumption) ?_ (by rfl) | refine keep_set ?_ _ _ (by first | exact Nat.le_refl _ | (show _ ≤ _; simp; done) | (show _ ≤ _; simp; omega)))))))
    go_ret
    exact ⟨rfl, (by repeat (first | exact Below.refl _ _ | apply keep_alloc | apply keep_drew | apply keep_drewN | refine keep_step (by assumption) ?_ (by rfl) | refine keep_set ?_ _ _ (by first | exact Nat.le_refl _ | (show _ ≤ _; simp; done) | (show _ ≤ _; simp; omega))))⟩
end Go.Proofs.Ytfpeojpligkbjaa
