/- Layer 22: Covers of the given program. -/
import Derived.Test.YthkjdhjfiofbpaaOgH
namespace Go.Proofs.Ythkjdhjfiofbpaa
open Go Go.RowKit
set_option linter.unusedVariables false
theorem stp_len (l : List Int) (f : Int) (R : List (Int × Int)) (x : Int × Int) : (stp l f R x).length ≤ R.length + 1 := by
  unfold stp
  split
  · split
    · simp
    · split <;> simp
  · omega
theorem fold_len (l : List Int) (f : Int) : ∀ (st R : List (Int × Int)), (st.foldl (stp l f) R).length ≤ R.length + st.length
  | [], R => by simp
  | x :: r, R => by
    rw [List.foldl_cons, List.length_cons]
    have h1 := fold_len l f r (stp l f R x)
    have h2 := stp_len l f R x
    omega
theorem sr_len {l : List Int} {f t : Int} {st : List (Int × Int)} : (srR l f t st).length ≤ 2000 := by
  unfold srR
  split
  · rename_i h
    have h1 := fold_len l f st []
    have h2 := (hi_ok (ak_ok h).2).1
    unfold strS
    rw [List.length_reverse]
    simp only [List.length_nil] at h1
    omega
  · simp
theorem rvA_go {l : List Int} {f t : Int} {st : List Stp} {a b : Int} : ∀ (k i : Nat), i + k = (srR l f t st).length →
    ∃ z, rvA_f l f t st a b (k + 1) (i : Int) = some (bif cov a b ((srR l f t st).drop i) then 0 else 1, z) := by
  have hL := sr_len (l := l) (f := f) (t := t) (st := st)
  intro k
  induction k with
  | zero =>
    intro i h
    rw [rvA_fs, bif_dT ⟨by omega, by omega⟩, bif_dF (by omega), List.drop_of_length_le (by omega)]
    exact ⟨_, rfl⟩
  | succ k ih =>
    intro i h
    rw [rvA_fs, bif_dT ⟨by omega, by omega⟩, bif_dT (by omega), el_drop (l := srR l f t st) (i := i) (by omega), w8n (n := (i : Int) + 1) (by omega) (by omega), show (i : Int) + 1 = ((i + 1 : Nat) : Int) by omega]
    obtain ⟨z, hz⟩ := ih (i + 1) (by omega)
    unfold cov at *
    rw [List.any_cons]
    by_cases h5 : (el (srR l f t st) (i : Int)).1 ≤ a
    · rw [bif_dT h5, decide_eq_true h5, Bool.true_and]
      by_cases h6 : b ≤ (el (srR l f t st) (i : Int)).2
      · rw [bif_dT h6, decide_eq_true h6, Bool.true_or]
        exact ⟨_, rfl⟩
      · rw [bif_dF h6, decide_eq_false h6, Bool.false_or]
        exact ⟨z, hz⟩
    · rw [bif_dF h5, decide_eq_false h5, Bool.false_and, Bool.false_or]
      exact ⟨z, hz⟩
theorem rcov_is (l : List Int) (f t : Int) (st : List Stp) (a b : Int) : KnownR Try.prog [] 12 [.agg [.list (rowA gI l) l.length, .val (.int .i64 f), .val (.int .i64 t)], .list (rowA gP st) st.length, .val (.int .i64 a), .val (.int .i64 b)] (.tuple #[.bool (cvB l f t st a b), .int .i64 (cvX l f t st a b)]) [] := by
  by_cases hE : akX l f t st = 0 ∧ 0 ≤ a ∧ a < b ∧ b ≤ 1099511627776
  · obtain ⟨ha, h0, hab, hb⟩ := hE
    have e1 : cvX l f t st a b = 0 := by unfold cvX; rw [if_pos ha, if_pos ⟨h0, by omega, hb⟩]
    have e2 : cvB l f t st a b = cov a b (srR l f t st) := by
      unfold cvB srR cov; rw [if_pos e1, if_neg (by omega), if_pos ha, List.any_reverse]
    rw [e1, e2]
    obtain ⟨z, hz⟩ := rvA_go (l := l) (f := f) (t := t) (st := st) (a := a) (b := b) (srR l f t st).length 0 (by omega)
    rw [List.drop_zero] at hz
    have ho := rvA_ok l f t st a b ha sr_len h0 hab hb _ _ _ hz
    have b1 : (akX l f t st == (0 : Int)) = true := by simp [ha]
    have b2 : (akX l f t st != (0 : Int)) = false := by simp [ha]
    cases e : cov a b (srR l f t st) with
    | true => rw [e] at ho; exact rv0 l f t st a b z ha sr_len h0 hab hb b1 (decide_eq_false (by omega)) (decide_eq_false (by omega)) (decide_eq_false (by omega)) b2 (beq_eq_false_iff_ne.2 (by omega)) ho
    | false => rw [e] at ho; exact rv1 l f t st a b z ha sr_len h0 hab hb b1 (decide_eq_false (by omega)) (decide_eq_false (by omega)) (decide_eq_false (by omega)) b2 (beq_eq_false_iff_ne.2 (by omega)) ho
  · have k := rvE l f t st a b hE
    have e1 : rvE_c1 l f t st a b = cvX l f t st a b := by
      unfold rvE_c1 cvX
      by_cases hc : akX l f t st = 0
      · rw [show (akX l f t st == 0) = true by simp [hc], cond_true, if_pos hc]
        by_cases h1 : a < 0
        · rw [bif_dT h1, if_neg (by omega)]
        · rw [bif_dF h1]
          by_cases h2 : b < a
          · rw [bif_dT h2, if_neg (by omega)]
          · rw [bif_dF h2]
            by_cases h3 : b > 1099511627776
            · rw [bif_dT h3, if_neg (by omega)]
            · rw [bif_dF h3, if_pos (by omega)]
      · rw [show (akX l f t st == 0) = false by simpa using hc, cond_false, if_neg hc]
    have e2 : rvE_c0 l f t st a b = cvB l f t st a b := by
      unfold cvB
      rw [← e1]
      unfold rvE_c0 rvE_c1
      by_cases hc : akX l f t st = 0
      · rw [show (akX l f t st == 0) = true by simp [hc], cond_true, cond_true]
        by_cases h1 : a < 0
        · rw [bif_dT h1, bif_dT h1]; rfl
        · rw [bif_dF h1, bif_dF h1]
          by_cases h2 : b < a
          · rw [bif_dT h2, bif_dT h2]; rfl
          · rw [bif_dF h2, bif_dF h2]
            by_cases h3 : b > 1099511627776
            · rw [bif_dT h3, bif_dT h3]; rfl
            · rw [bif_dF h3, bif_dF h3, if_pos rfl, if_pos (by
                have : ¬ a < b := fun h => hE ⟨hc, by omega, h, by omega⟩
                omega)]
      · rw [show (akX l f t st == 0) = false by simpa using hc, cond_false, cond_false, if_neg hc]
    rw [e1, e2] at k
    exact k
end Go.Proofs.Ythkjdhjfiofbpaa
