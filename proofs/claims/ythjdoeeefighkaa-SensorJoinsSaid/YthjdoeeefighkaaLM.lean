/- Layer 12: the faults of a car. -/
import Derived.Test.YthjdoeeefighkaaOgQ
import Derived.Test.YthjdoeeefighkaaLU
namespace Go.Proofs.Ythjdoeeefighkaa
open Go Go.RowKit
set_option linter.unusedVariables false
def wh (m : En) : Int := m.2.2.2.2.2.1
def sel (c : Int) (m : En) : Bool := ((m.snd.fst == 2) && ((m.snd.snd.snd.snd.fst == c) && (decide (m.snd.snd.snd.snd.snd.fst ≥ 3) && decide (m.snd.snd.snd.snd.snd.fst ≤ 6))))
theorem bif4 {α : Type} (a b c d : Bool) (x y : α) : (bif a then (bif b then (bif c then (bif d then x else y) else y) else y) else y) = bif (a && (b && (c && d))) then x else y := by cases a <;> cases b <;> cases c <;> cases d <;> rfl
theorem flA_go (xs : List En) (c : Int) (hx : xs.length ≤ 200) : ∀ (n i : Nat) (l : List En), i + n = xs.length → l.length ≤ i → ∃ z, flA_f xs c (n + 1) l (i : Int) = some (0, (((xs.drop i).filter (sel c)).reverse ++ l, z)) := by
  intro n
  induction n with
  | zero =>
    intro i l h hl
    refine ⟨(i : Int), ?_⟩
    rw [flA_fs, bif_dT ⟨by omega, by omega, by omega⟩, bif_dF (by omega), List.drop_of_length_le (by omega)]
    rfl
  | succ n ih =>
    intro i l h hl
    rw [flA_fs, bif_dT ⟨by omega, by omega, by omega⟩, bif_dT (by omega), el_drop (l := xs) (i := i) (by omega), bif4]
    have hw : IntKind.i64.wrap ((i : Int) + 1) = ((i + 1 : Nat) : Int) := w8n (n := (i : Int) + 1) (by omega) (by omega)
    rw [hw]
    have hs : (((el xs (i : Int)).snd.fst == 2) && (((el xs (i : Int)).snd.snd.snd.snd.fst == c) && (decide ((el xs (i : Int)).snd.snd.snd.snd.snd.fst ≥ 3) && decide ((el xs (i : Int)).snd.snd.snd.snd.snd.fst ≤ 6)))) = sel c (el xs (i : Int)) := rfl
    rw [hs]
    cases hc : sel c (el xs (i : Int)) with
    | true =>
      rw [cond_true, List.filter_cons_of_pos hc]
      obtain ⟨z, hz⟩ := ih (i + 1) (el xs (i : Int) :: l) (by omega) (by simp only [List.length_cons]; omega)
      exact ⟨z, by rw [hz]; simp⟩
    | false =>
      rw [cond_false, List.filter_cons_of_neg (by rw [hc]; simp)]
      exact ih (i + 1) l (by omega) (by omega)
theorem rfA_go (xs : List En) (c : Int) (hx : xs.length ≤ 200) : ∀ (n i : Nat) (l : List Int), i + n = xs.length → l.length ≤ i → ∃ z, rfA_f xs c (n + 1) l (i : Int) = some (0, ((((xs.drop i).filter (sel c)).map wh).reverse ++ l, z)) := by
  intro n
  induction n with
  | zero =>
    intro i l h hl
    refine ⟨(i : Int), ?_⟩
    rw [rfA_fs, bif_dT ⟨by omega, by omega, by omega⟩, bif_dF (by omega), List.drop_of_length_le (by omega)]
    rfl
  | succ n ih =>
    intro i l h hl
    rw [rfA_fs, bif_dT ⟨by omega, by omega, by omega⟩, bif_dT (by omega), el_drop (l := xs) (i := i) (by omega), bif4]
    have hw : IntKind.i64.wrap ((i : Int) + 1) = ((i + 1 : Nat) : Int) := w8n (n := (i : Int) + 1) (by omega) (by omega)
    rw [hw]
    have hs : (((el xs (i : Int)).snd.fst == 2) && (((el xs (i : Int)).snd.snd.snd.snd.fst == c) && (decide ((el xs (i : Int)).snd.snd.snd.snd.snd.fst ≥ 3) && decide ((el xs (i : Int)).snd.snd.snd.snd.snd.fst ≤ 6)))) = sel c (el xs (i : Int)) := rfl
    rw [hs]
    cases hc : sel c (el xs (i : Int)) with
    | true =>
      rw [cond_true, List.filter_cons_of_pos hc]
      obtain ⟨z, hz⟩ := ih (i + 1) ((el xs (i : Int)).snd.snd.snd.snd.snd.fst :: l) (by omega) (by simp only [List.length_cons]; omega)
      exact ⟨z, by rw [hz]; simp [wh]⟩
    | false =>
      rw [cond_false, List.filter_cons_of_neg (by rw [hc]; simp)]
      exact ih (i + 1) l (by omega) (by omega)
theorem flB_go (xs : List En) (c : Int) (z0 : List En) (z1 : Int) (hx : z0.length ≤ 200) : ∀ (n i : Nat) (l : List Int), i + n = z0.length → l.length ≤ i → ∃ z, flB_f xs c z0 z1 (n + 1) l (i : Int) = some (0, (((z0.reverse.drop i).map wh).reverse ++ l, z)) := by
  intro n
  induction n with
  | zero =>
    intro i l h hl
    refine ⟨(i : Int), ?_⟩
    rw [flB_fs, bif_dT ⟨by omega, by omega, by omega⟩, bif_dF (by omega), List.drop_of_length_le (by rw [List.length_reverse]; omega)]
    rfl
  | succ n ih =>
    intro i l h hl
    rw [flB_fs, bif_dT ⟨by omega, by omega, by omega⟩, bif_dT (by omega), el_drop (l := z0.reverse) (i := i) (by rw [List.length_reverse]; omega)]
    have hw : IntKind.i64.wrap ((i : Int) + 1) = ((i + 1 : Nat) : Int) := w8n (n := (i : Int) + 1) (by omega) (by omega)
    rw [hw]
    obtain ⟨z, hz⟩ := ih (i + 1) ((el z0.reverse (i : Int)).snd.snd.snd.snd.snd.fst :: l) (by omega) (by simp only [List.length_cons]; omega)
    exact ⟨z, by rw [hz]; simp [wh]⟩
noncomputable def fL (xs : List En) (c : Int) : List Int := if 1 ≤ c ∧ c ≤ 8 then (xs.filter (sel c)).map wh else []
noncomputable def eC (c : Int) : Int := if 1 ≤ c ∧ c ≤ 8 then 0 else 2
theorem fL_len (xs : List En) (c : Int) : (fL xs c).length ≤ xs.length := by
  unfold fL
  split
  · rw [List.length_map]; exact List.length_filter_le _ _
  · simp
theorem faults_p (xs : List En) (c : Int) (hx : xs.length ≤ 200) : KnownR Try.prog [] 21 [.list (rowA gE xs) xs.length, .val (.int .i64 c)] (.tuple #[.complex .f64 0 (fL xs c).length, .int .i64 (eC c)]) [(rowA gI (fL xs c), 3)] := by
  unfold fL eC
  by_cases hc : 1 ≤ c ∧ c ≤ 8
  · rw [if_pos hc, if_pos hc]
    obtain ⟨z, h1⟩ := flA_go xs c hx xs.length 0 [] (by omega) (by simp)
    rw [List.drop_zero, List.append_nil] at h1
    have hA := flA_ok xs c hx hc (xs.length + 1) 0 _ h1
    have hlen : ((xs.filter (sel c)).reverse).length ≤ 200 := by rw [List.length_reverse]; exact Nat.le_trans (List.length_filter_le _ _) hx
    obtain ⟨z2, h2⟩ := flB_go xs c (xs.filter (sel c)).reverse z hlen ((xs.filter (sel c)).reverse).length 0 [] (by omega) (by simp)
    rw [List.drop_zero, List.append_nil, List.reverse_reverse] at h2
    have k0 : decide (c < 1) = false := by simp; omega
    have k3 : decide (c > 8) = false := by simp; omega
    have hB := flB_ok xs c _ z hx hc hlen k0 k3 hA _ 0 _ h2
    have := flE xs c _ z _ z2 hx hc hlen k0 k3 hA hB
    have e : flE_c0 xs c (xs.filter (sel c)).reverse z ((xs.filter (sel c)).map wh).reverse z2 = (xs.filter (sel c)).map wh := by unfold flE_c0; simp
    rw [e] at this
    exact this
  · rw [if_neg hc, if_neg hc]
    exact flN xs c hc
theorem faults_r (xs : List En) (c : Int) (hx : xs.length ≤ 200) : KnownR Try.prog [] 22 [.list (rowA gE xs) xs.length, .val (.int .i64 c)] (.tuple #[.complex .f64 0 (fL xs c).length, .int .i64 (eC c)]) [(rowA gI (fL xs c), 3)] := by
  unfold fL eC
  by_cases hc : 1 ≤ c ∧ c ≤ 8
  · rw [if_pos hc, if_pos hc]
    obtain ⟨z, h1⟩ := rfA_go xs c hx xs.length 0 [] (by omega) (by simp)
    rw [List.drop_zero, List.append_nil] at h1
    have hA := rfA_ok xs c hx hc (xs.length + 1) 0 _ h1
    have k0 : decide (c < 1) = false := by simp; omega
    have k3 : decide (c > 8) = false := by simp; omega
    have := rfE xs c _ z hx hc k0 k3 hA
    have e : rfE_c0 xs c ((xs.filter (sel c)).map wh).reverse z = (xs.filter (sel c)).map wh := by unfold rfE_c0; simp
    rw [e] at this
    exact this
  · rw [if_neg hc, if_neg hc]
    exact rfN xs c hc
end Go.Proofs.Ythjdoeeefighkaa
