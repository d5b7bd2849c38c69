/- Layer 23: what a list contains; which choices a mode allows, in both. -/
import Derived.Test.YtokpimghaladjaaOgB
namespace Go.Proofs.Ytokpimghaladjaa
open Go Go.RowKit
set_option linter.unusedVariables false
theorem scA_go (xs : List Int) (v : Int) (hx : xs.length ≤ 20000) : ∀ (n i : Nat), i + n = xs.length → ∃ kk z, scA_f xs v (n + 1) (i : Int) = some (kk, z) ∧ 0 ≤ z ∧ ((kk = 0 ∧ (xs.drop i).any (v == ·) = true) ∨ (kk = 1 ∧ (xs.drop i).any (v == ·) = false)) := by
  intro n
  induction n with
  | zero =>
    intro i h
    refine ⟨1, (i : Int), ?_, by omega, .inr ⟨rfl, by rw [List.drop_of_length_le (by omega)]; rfl⟩⟩
    rw [scA_fs, bif_dT (by omega), bif_dF (by omega)]
  | succ n ih =>
    intro i h
    rw [scA_fs, bif_dT (by omega), bif_dT (by omega), el_drop (l := xs) (i := i) (by omega)]
    have hw : IntKind.i64.wrap ((i : Int) + 1) = ((i + 1 : Nat) : Int) := w8n (n := (i : Int) + 1) (by omega) (by omega)
    rw [hw]
    cases hc : (v == el xs (i : Int)) with
    | true =>
      rw [cond_true]
      exact ⟨0, (i : Int), rfl, by omega, .inl ⟨rfl, by rw [List.any_cons, hc]; rfl⟩⟩
    | false =>
      rw [cond_false]
      obtain ⟨kk, z, h1, h0, h2⟩ := ih (i + 1) (by omega)
      refine ⟨kk, z, h1, h0, ?_⟩
      rw [List.any_cons, hc, Bool.false_or]
      exact h2
theorem contains_p (xs : List Int) (v : Int) (hx : xs.length ≤ 20000) : KnownR Try.prog [] 47 [.list (rowA gI xs) xs.length, .val (.int .i64 v)] (.bool (xs.any (v == ·))) [] := by
  obtain ⟨kk, z, h1, h0, h2⟩ := scA_go xs v hx xs.length 0 (by omega)
  rw [List.drop_zero] at h2
  have hA := scA_ok xs v hx _ kk _ h1
  rcases h2 with ⟨rfl, h2⟩ | ⟨rfl, h2⟩
  · rw [h2]
    have k := sc0 xs v z hx h0 hA
    rw [show sc0_c0 xs v z = true from decide_eq_true h0] at k
    exact k
  · rw [h2]; exact sc1 xs v z hx h0 hA
/-- the choices that a mode allows in a trip -/
noncomputable def alL (n t : Int) : List Int := raL_c0 n t
noncomputable def alE (n t : Int) : Int := raL_c1 n t
theorem tm2 (t : Int) (h : 0 ≤ t) : t.tmod 2 = t % 2 := Int.tmod_eq_emod_of_nonneg h
theorem pal_eq (n t : Int) : paL_c0 n t = alL n t ∧ paL_c1 n t = alE n t := by
  unfold alL alE paL_c0 paL_c1 raL_c0 raL_c1
  by_cases h1 : n < 0
  · rw [bif_dF (by omega)]; simp [show ¬ n ≥ 0 by omega]
  by_cases h2 : n > 3
  · simp [show n ≥ 0 by omega, show ¬ n ≤ 3 by omega]
  by_cases h3 : t < 0
  · simp [show n ≥ 0 by omega, show n ≤ 3 by omega, h3]
  by_cases h4 : t ≥ 16
  · simp [show n ≥ 0 by omega, show n ≤ 3 by omega, show ¬ t < 0 by omega, h4]
  have hn : n = 0 ∨ n = 1 ∨ n = 2 ∨ n = 3 := by omega
  by_cases h5 : t.tmod 2 = 0
  · rcases hn with rfl | rfl | rfl | rfl <;> simp [h3, h4, h5]
  · rcases hn with rfl | rfl | rfl | rfl <;> simp [h3, h4, h5]
theorem pAllows (n t : Int) : KnownR Try.prog [] 28 [.val (.int .i64 n), .val (.int .i64 t)] (.tuple #[.complex .f64 0 (alL n t).length, .int .i64 (alE n t)]) [(rowA gI (alL n t), 3)] := by
  have k := paL n t
  rw [(pal_eq n t).1, (pal_eq n t).2] at k
  exact k
theorem rAllows (n t : Int) : KnownR Try.prog [] 29 [.val (.int .i64 n), .val (.int .i64 t)] (.tuple #[.complex .f64 0 (alL n t).length, .int .i64 (alE n t)]) [(rowA gI (alL n t), 3)] := raL n t
theorem len_c {b : Bool} {x y : List Int} (hx : x.length ≤ 2) (hy : y.length ≤ 2) : (cond b x y).length ≤ 2 := by cases b <;> assumption
theorem alL_len (n t : Int) : (alL n t).length ≤ 2 := by
  unfold alL raL_c0
  repeat' (first | refine len_c ?_ ?_ | (simp; done))
end Go.Proofs.Ytokpimghaladjaa
