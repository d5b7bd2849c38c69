import Derived.Test.YtbhmgchkgbenmaaOgJ
set_option linter.unusedVariables false
namespace Go.Proofs.Ytbhmgchkgbenmaa
open Go Go.RowKit
theorem cAll0 {xs : List Mv} (h : cAll xs = 0) : xs.length ≤ 10000 ∧ cE xs = 0 := by
 unfold cAll at h
 split at h
 ·cases h
 ·exact ⟨by omega, h⟩
theorem jpA_end (xs : List Mv) (hx : xs.length ≤ 10000) : ∀ (n i : Nat) (l : List Int), 1 ≤ i → xs.length ≤ i + n → i ≤ 10001 → l.length < i → ∃ z, jpA_f xs (n + 1) l (i : Int) = some (0, z) ∧ z.1.length ≤ 10000 := by
 intro n
 induction n with
 | zero =>
  intro i l h1 h2 h3 h4
  rw [jpA_fs, bif_dT ⟨by omega, by omega, by omega⟩, bif_dF (by omega)]
  exact ⟨_, rfl, by show l.length ≤ 10000; omega⟩
 | succ n ih =>
  intro i l h1 h2 h3 h4
  rw [jpA_fs, bif_dT ⟨by omega, by omega, by omega⟩]
  by_cases hi : (i : Int) < (xs.length : Int)
  ·rw [bif_dT hi]
   have hw : IntKind.i64.wrap ((i : Int) + 1) = ((i + 1 : Nat) : Int) := w8n (n := (i : Int) + 1) (by omega) (by omega)
   rw [hw]
   generalize pJmp_c0 _ _ _ _ _ _ _ _ _ _ = b
   cases b with
   | true => rw [cond_true]; exact ih (i + 1) _ (by omega) (by omega) (by omega) (by simp only [List.length_cons]; omega)
   | false => rw [cond_false]; exact ih (i + 1) _ (by omega) (by omega) (by omega) (by omega)
  ·rw [bif_dF hi]
   exact ⟨_, rfl, by show l.length ≤ 10000; omega⟩
theorem spA_end (xs : List Mv) (hx : xs.length ≤ 10000) : ∀ (n i : Nat) (l : List Int), 1 ≤ i → xs.length ≤ i + n → i ≤ 10001 → l.length < i → ∃ z, spA_f xs (n + 1) l (i : Int) = some (0, z) ∧ z.1.length ≤ 10000 := by
 intro n
 induction n with
 | zero =>
  intro i l h1 h2 h3 h4
  rw [spA_fs, bif_dT ⟨by omega, by omega, by omega⟩, bif_dF (by omega)]
  exact ⟨_, rfl, by show l.length ≤ 10000; omega⟩
 | succ n ih =>
  intro i l h1 h2 h3 h4
  rw [spA_fs, bif_dT ⟨by omega, by omega, by omega⟩]
  by_cases hi : (i : Int) < (xs.length : Int)
  ·rw [bif_dT hi]
   have hw : IntKind.i64.wrap ((i : Int) + 1) = ((i + 1 : Nat) : Int) := w8n (n := (i : Int) + 1) (by omega) (by omega)
   rw [hw]
   generalize decide ((el xs (IntKind.i64.wrap ((i : Int) - 1))).snd.fst > 0) = b
   generalize ((el xs (i : Int)).snd.fst == 0) = c
   cases b with
   | true =>
    rw [cond_true]
    cases c with
    | true => rw [cond_true]; exact ih (i + 1) _ (by omega) (by omega) (by omega) (by simp only [List.length_cons]; omega)
    | false => rw [cond_false]; exact ih (i + 1) _ (by omega) (by omega) (by omega) (by omega)
   | false => rw [cond_false]; exact ih (i + 1) _ (by omega) (by omega) (by omega) (by omega)
  ·rw [bif_dF hi]
   exact ⟨_, rfl, by show l.length ≤ 10000; omega⟩
noncomputable def jL (xs : List Mv) : List Int := if cAll xs = 0 then (((jpA_f xs (xs.length + 1) [] 1).getD (0, ([], 0))).2.1).reverse else []
noncomputable def sL (xs : List Mv) : List Int := if cAll xs = 0 then (((spA_f xs (xs.length + 1) [] 1).getD (0, ([], 0))).2.1).reverse else []
theorem jL_len (xs : List Mv) : (jL xs).length ≤ 10000 := by
 unfold jL
 split
 ·rename_i h
  obtain ⟨z, e, hz⟩ := jpA_end xs (cAll0 h).1 xs.length 1 [] (by omega) (by omega) (by omega) (by simp)
  have e : jpA_f xs (xs.length + 1) [] 1 = some (0, z) := e
  rw [e, List.length_reverse]
  exact hz
 ·simp
theorem sL_len (xs : List Mv) : (sL xs).length ≤ 10000 := by
 unfold sL
 split
 ·rename_i h
  obtain ⟨z, e, hz⟩ := spA_end xs (cAll0 h).1 xs.length 1 [] (by omega) (by omega) (by omega) (by simp)
  have e : spA_f xs (xs.length + 1) [] 1 = some (0, z) := e
  rw [e, List.length_reverse]
  exact hz
 ·simp
theorem jumps_p (xs : List Mv) : KnownR Try.prog [] 23 [.list (rowA gM xs) xs.length] (.tuple #[.complex .f64 0 (jL xs).length, .int .i64 (cAll xs)]) [(rowA gI (jL xs), 3)] := by
 unfold jL
 split
 ·rename_i h
  obtain ⟨z, e, hz⟩ := jpA_end xs (cAll0 h).1 xs.length 1 [] (by omega) (by omega) (by omega) (by simp)
  have e : jpA_f xs (xs.length + 1) [] 1 = some (0, z) := e
  have := jpC xs z.1 z.2 (cAll0 h).1 h (by simp [h]) (jpA_ok xs (cAll0 h).1 h (xs.length + 1) 0 z e)
  rw [e, h]
  exact this
 ·rename_i h; exact jpB xs h
theorem stops_p (xs : List Mv) : KnownR Try.prog [] 25 [.list (rowA gM xs) xs.length] (.tuple #[.complex .f64 0 (sL xs).length, .int .i64 (cAll xs)]) [(rowA gI (sL xs), 3)] := by
 unfold sL
 split
 ·rename_i h
  obtain ⟨z, e, hz⟩ := spA_end xs (cAll0 h).1 xs.length 1 [] (by omega) (by omega) (by omega) (by simp)
  have e : spA_f xs (xs.length + 1) [] 1 = some (0, z) := e
  have := spC xs z.1 z.2 (cAll0 h).1 h (by simp [h]) (spA_ok xs (cAll0 h).1 h (xs.length + 1) 0 z e)
  rw [e, h]
  exact this
 ·rename_i h; exact spB xs h
end Go.Proofs.Ytbhmgchkgbenmaa
