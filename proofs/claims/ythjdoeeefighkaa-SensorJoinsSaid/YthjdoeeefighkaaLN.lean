/- Layer 12: the sensor works unless it failed; lists compared with themselves. -/
import Derived.Test.YthjdoeeefighkaaOgR
namespace Go.Proofs.Ythjdoeeefighkaa
open Go Go.RowKit
set_option linter.unusedVariables false
theorem wkA_go (xs : List En) (c : Int) (hl2 : (fL xs c).length ≤ 200) : ∀ (n i : Nat) (l : List Int), i + n = (fL xs c).length → l.length ≤ i → ∃ z, wkA_f xs c (n + 1) l (i : Int) = some (0, ((((fL xs c).drop i).filter (· == 5)).reverse ++ l, z)) := by
  intro n
  induction n with
  | zero =>
    intro i l h hl
    refine ⟨(i : Int), ?_⟩
    rw [wkA_fs, bif_dT ⟨by omega, by omega, by omega⟩, bif_dF (by omega), List.drop_of_length_le (by omega)]
    rfl
  | succ n ih =>
    intro i l h hl
    rw [wkA_fs, bif_dT ⟨by omega, by omega, by omega⟩, bif_dT (by omega), el_drop (l := fL xs c) (i := i) (by omega)]
    have hw : IntKind.i64.wrap ((i : Int) + 1) = ((i + 1 : Nat) : Int) := w8n (n := (i : Int) + 1) (by omega) (by omega)
    rw [hw]
    cases hc : (el (fL xs c) (i : Int) == 5) with
    | true =>
      rw [cond_true, List.filter_cons_of_pos (p := fun x => x == 5) hc]
      obtain ⟨z, hz⟩ := ih (i + 1) (el (fL xs c) (i : Int) :: l) (by omega) (by simp only [List.length_cons]; omega)
      exact ⟨z, by rw [hz]; simp⟩
    | false =>
      rw [cond_false, List.filter_cons_of_neg (p := fun x => x == 5) (by rw [hc]; simp)]
      exact ih (i + 1) l (by omega) (by omega)
theorem rwA_go (xs : List En) (c : Int) (hl2 : (fL xs c).length ≤ 200) : ∀ (n i : Nat), i + n = (fL xs c).length → ∃ kk z, rwA_f xs c (n + 1) (i : Int) = some (kk, z) ∧ ((kk = 0 ∧ ((fL xs c).drop i).all (· != 5) = false) ∨ (kk = 1 ∧ ((fL xs c).drop i).all (· != 5) = true)) := by
  intro n
  induction n with
  | zero =>
    intro i h
    refine ⟨1, (i : Int), ?_, .inr ⟨rfl, by rw [List.drop_of_length_le (by omega)]; rfl⟩⟩
    rw [rwA_fs, bif_dT (by omega), bif_dF (by omega)]
  | succ n ih =>
    intro i h
    rw [rwA_fs, bif_dT (by omega), bif_dT (by omega), el_drop (l := fL xs c) (i := i) (by omega)]
    have hw : IntKind.i64.wrap ((i : Int) + 1) = ((i + 1 : Nat) : Int) := w8n (n := (i : Int) + 1) (by omega) (by omega)
    rw [hw]
    cases hc : (el (fL xs c) (i : Int) == 5) with
    | true =>
      rw [cond_true]
      exact ⟨0, (i : Int), rfl, .inl ⟨rfl, by rw [List.all_cons]; simp [bne, hc]⟩⟩
    | false =>
      rw [cond_false]
      obtain ⟨kk, z, h1, h2⟩ := ih (i + 1) (by omega)
      refine ⟨kk, z, h1, ?_⟩
      rw [List.all_cons]
      have : (el (fL xs c) (i : Int) != 5) = true := by simp [bne, hc]
      rw [this, Bool.true_and]
      exact h2
noncomputable def wL (xs : List En) (c : Int) : Bool := if eC c = 0 then (fL xs c).all (· != 5) else false
theorem all_filter : ∀ (l : List Int), l.all (· != 5) = (((l.filter (· == 5)).reverse.length : Int) == 0)
  | [] => rfl
  | x :: l => by
    have ih := all_filter l
    cases hx : (x == 5) with
    | true => rw [List.filter_cons_of_pos (by exact hx), List.all_cons]; simp [bne, hx]; omega
    | false =>
      rw [List.filter_cons_of_neg (by rw [hx]; simp), List.all_cons, ← ih]
      simp [bne, hx]
theorem works_p (xs : List En) (c : Int) (hx : xs.length ≤ 200) : KnownR Try.prog [] 23 [.list (rowA gE xs) xs.length, .val (.int .i64 c)] (.tuple #[.bool (wL xs c), .int .i64 (eC c)]) [] := by
  unfold wL
  by_cases he : eC c = 0
  · rw [if_pos he]
    have hf := Nat.le_trans (fL_len xs c) hx
    obtain ⟨z, h1⟩ := wkA_go xs c hf (fL xs c).length 0 [] (by omega) (by simp)
    rw [List.drop_zero, List.append_nil] at h1
    have hA := wkA_ok xs c hx he hf _ 0 _ h1
    have := wkE xs c _ z hx he hf (by rw [he]; rfl) hA
    rw [he, all_filter]
    exact this
  · rw [if_neg he]
    exact wkN xs c hx he
theorem works_r (xs : List En) (c : Int) (hx : xs.length ≤ 200) : KnownR Try.prog [] 24 [.list (rowA gE xs) xs.length, .val (.int .i64 c)] (.tuple #[.bool (wL xs c), .int .i64 (eC c)]) [] := by
  unfold wL
  by_cases he : eC c = 0
  · rw [if_pos he]
    have hf := Nat.le_trans (fL_len xs c) hx
    obtain ⟨kk, z, h1, h2⟩ := rwA_go xs c hf (fL xs c).length 0 (by omega)
    rw [List.drop_zero] at h2
    have hA := rwA_ok xs c hx he hf _ kk _ h1
    rw [he]
    rcases h2 with ⟨rfl, h2⟩ | ⟨rfl, h2⟩
    · rw [h2]; exact rwE xs c z hx he hf (by rw [he]; rfl) hA
    · rw [h2]; exact rwF xs c z hx he hf (by rw [he]; rfl) hA
  · rw [if_neg he]
    exact rwN xs c hx he
theorem ba_self (b : ByteArray) : (b == b) = true := by
  first
  | exact beq_self_eq_true b
  | (obtain ⟨d⟩ := b; show (d == d) = true; exact beq_self_eq_true d)
theorem seA_go (xs : List En) (hx : xs.length ≤ 20000) : ∀ (n i : Nat), i + n = xs.length → ∃ z, seA_f xs xs (n + 1) (i : Int) = some (1, z) := by
  intro n
  induction n with
  | zero =>
    intro i h
    exact ⟨(i : Int), by rw [seA_fs, bif_dT (by omega), bif_dF (by omega)]⟩
  | succ n ih =>
    intro i h
    rw [seA_fs, bif_dT (by omega), bif_dT (by omega)]
    have hw : IntKind.i64.wrap ((i : Int) + 1) = ((i + 1 : Nat) : Int) := w8n (n := (i : Int) + 1) (by omega) (by omega)
    rw [hw]
    simp only [beq_self_eq_true, ba_self, Bool.and_self, Bool.not_true]
    rw [cond_false]
    exact ih (i + 1) (by omega)
theorem siA_go (xs : List Int) (hx : xs.length ≤ 20000) : ∀ (n i : Nat), i + n = xs.length → ∃ z, siA_f xs xs (n + 1) (i : Int) = some (1, z) := by
  intro n
  induction n with
  | zero =>
    intro i h
    exact ⟨(i : Int), by rw [siA_fs, bif_dT (by omega), bif_dF (by omega)]⟩
  | succ n ih =>
    intro i h
    rw [siA_fs, bif_dT (by omega), bif_dT (by omega)]
    have hw : IntKind.i64.wrap ((i : Int) + 1) = ((i + 1 : Nat) : Int) := w8n (n := (i : Int) + 1) (by omega) (by omega)
    rw [hw]
    have he : (el xs (i : Int) != el xs (i : Int)) = false := by simp
    rw [he, cond_false]
    exact ih (i + 1) (by omega)
theorem same_e (xs : List En) (hx : xs.length ≤ 20000) : KnownR Try.prog [] 25 [.list (rowA gE xs) xs.length, .list (rowA gE xs) xs.length] (.bool true) [] := by
  obtain ⟨z, h⟩ := seA_go xs hx xs.length 0 (by omega)
  exact seF xs xs z hx rfl (by simp) (seA_ok xs xs hx rfl (xs.length + 1) 1 z h)
theorem same_i (xs : List Int) (hx : xs.length ≤ 20000) : KnownR Try.prog [] 16 [.list (rowA gI xs) xs.length, .list (rowA gI xs) xs.length] (.bool true) [] := by
  obtain ⟨z, h⟩ := siA_go xs hx xs.length 0 (by omega)
  exact siF xs xs z hx rfl (by simp) (siA_ok xs xs hx rfl (xs.length + 1) 1 z h)
end Go.Proofs.Ythjdoeeefighkaa
