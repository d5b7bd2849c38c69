/- Layer 12: what the made entries are like; a number in a list. -/
import Derived.Test.YthjdoeeefighkaaOgT
namespace Go.Proofs.Ythjdoeeefighkaa
open Go Go.RowKit
set_option linter.unusedVariables false
theorem hsA_go (xs : List Int) (v : Int) (hx : xs.length ≤ 20000) : ∀ (n i : Nat), i + n = xs.length → ∃ kk z, hsA_f xs v (n + 1) (i : Int) = some (kk, z) ∧ ((kk = 0 ∧ (xs.drop i).any (· == v) = true) ∨ (kk = 1 ∧ (xs.drop i).any (· == v) = false)) := by
  intro n
  induction n with
  | zero =>
    intro i h
    refine ⟨1, (i : Int), ?_, .inr ⟨rfl, by rw [List.drop_of_length_le (by omega)]; rfl⟩⟩
    rw [hsA_fs, bif_dT (by omega), bif_dF (by omega)]
  | succ n ih =>
    intro i h
    rw [hsA_fs, bif_dT (by omega), bif_dT (by omega), el_drop (l := xs) (i := i) (by omega)]
    have hw : IntKind.i64.wrap ((i : Int) + 1) = ((i + 1 : Nat) : Int) := w8n (n := (i : Int) + 1) (by omega) (by omega)
    rw [hw]
    cases hc : (el xs (i : Int) == v) with
    | true =>
      rw [cond_true]
      exact ⟨0, (i : Int), rfl, .inl ⟨rfl, by rw [List.any_cons, hc]; rfl⟩⟩
    | false =>
      rw [cond_false]
      obtain ⟨kk, z, h1, h2⟩ := ih (i + 1) (by omega)
      refine ⟨kk, z, h1, ?_⟩
      rw [List.any_cons, hc, Bool.false_or]
      exact h2
theorem has_p (xs : List Int) (v : Int) (hx : xs.length ≤ 20000) : KnownR Try.prog [] 36 [.list (rowA gI xs) xs.length, .val (.int .i64 v)] (.bool (xs.any (· == v))) [] := by
  obtain ⟨kk, z, h1, h2⟩ := hsA_go xs v hx xs.length 0 (by omega)
  rw [List.drop_zero] at h2
  have hA := hsA_ok xs v hx _ kk _ h1
  rcases h2 with ⟨rfl, h2⟩ | ⟨rfl, h2⟩
  · rw [h2]; exact hsE xs v z hx hA
  · rw [h2]; exact hsF xs v z hx hA
theorem enA_end (xs : List Int) : ∀ (n i : Nat) (l : List En), i + n = 20 → l.length ≤ i → ∃ kk z, enA_f xs (n + 1) l (i : Int) = some (kk, z) ∧ z.1.length ≤ 20 ∧ (kk = 0 ∨ kk = 1) := by
  intro n
  induction n with
  | zero =>
    intro i l h hl
    rw [enA_fs, bif_dT ⟨by omega, by omega, by omega⟩]
    by_cases hi : (i : Int) < (xs.length : Int)
    · rw [bif_dT hi, bif_dF (by omega)]
      exact ⟨_, _, rfl, by show l.length ≤ 20; omega, .inl rfl⟩
    · rw [bif_dF hi]
      exact ⟨_, _, rfl, by show l.length ≤ 20; omega, .inr rfl⟩
  | succ n ih =>
    intro i l h hl
    rw [enA_fs, bif_dT ⟨by omega, by omega, by omega⟩]
    by_cases hi : (i : Int) < (xs.length : Int)
    · rw [bif_dT hi, bif_dT (by omega)]
      have hw : IntKind.i64.wrap ((i : Int) + 1) = ((i + 1 : Nat) : Int) := w8n (n := (i : Int) + 1) (by omega) (by omega)
      rw [hw]
      exact ih (i + 1) _ (by omega) (by simp only [List.length_cons]; omega)
    · rw [bif_dF hi]
      exact ⟨_, _, rfl, by show l.length ≤ 20; omega, .inr rfl⟩
noncomputable def eL (xs : List Int) : List En := ((enA_f xs 21 [] 0).getD (0, ([], 0))).2.1.reverse
theorem eL_len (xs : List Int) : (eL xs).length ≤ 20 := by
  unfold eL
  obtain ⟨kk, z, e, hz, _⟩ := enA_end xs 20 0 [] rfl (by simp)
  have e : enA_f xs 21 [] 0 = some (kk, z) := e
  rw [e, List.length_reverse]
  exact hz
theorem entries_p (xs : List Int) (hx : xs.length ≤ 18446744073709551615) : KnownR Try.prog [] 35 [.list (rowA gI xs) xs.length] (.complex .f64 0 (eL xs).length) [(rowA gE (eL xs), 71)] := by
  unfold eL
  obtain ⟨kk, z, e, hz, hk⟩ := enA_end xs 20 0 [] rfl (by simp)
  have e : enA_f xs 21 [] 0 = some (kk, z) := e
  have hl := enA_ok xs hx 21 kk z e
  rw [e]
  rcases hk with rfl | rfl
  · exact enE xs z.1 z.2 hx hl
  · exact enG xs z.1 z.2 hx hl
@[simp] theorem fL_app (xs ys : List En) (c : Int) : fL (xs ++ ys) c = fL xs c ++ fL ys c := by
  unfold fL
  split
  · simp
  · simp
theorem mod3 (a : Int) : 0 ≤ modV a 3 ∧ modV a 3 ≤ 2 := by
  unfold modV modG_c0
  rw [tmodP (by omega)]
  have w : ∀ x : Int, -3 < x → x < 3 → IntKind.i64.wrap (x + 3) = x + 3 := fun x _ _ => w8n (by omega) (by omega)
  split
  · rw [bif_dF (by omega)]; omega
  · by_cases h : -((-a) % 3) < 0
    · rw [bif_dT h, w _ (by omega) (by omega)]; omega
    · rw [bif_dF h]; omega
theorem same_q (xs ys : List Int) (hx : xs.length ≤ 20000) (h : xs = ys) : KnownR Try.prog [] 16 [.list (rowA gI xs) xs.length, .list (rowA gI ys) ys.length] (.bool true) [] := by
  subst h; exact same_i xs hx
end Go.Proofs.Ythjdoeeefighkaa
