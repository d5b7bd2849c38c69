/- Layer 23: the first choice, in both. -/
import Derived.Test.YtokpimghaladjaaOgC
namespace Go.Proofs.Ytokpimghaladjaa
open Go Go.RowKit
set_option linter.unusedVariables false
/-- the first choice that is allowed and possible, or 0 -/
noncomputable def fiV (n t : Int) (xs : List Int) : Int := if alE n t = 0 then ((alL n t).find? fun c => xs.any fun x => c == x).getD 0 else 0
theorem pfA_go (n t : Int) (xs : List Int) (hl : (alL n t).length ≤ 2) : ∀ (k i : Nat), i + k = (alL n t).length → ∃ kk z, pfA_f n t xs (k + 1) (i : Int) = some (kk, z) ∧ ((kk = 0 ∧ ((alL n t).drop i).find? (fun c => xs.any fun x => c == x) = some (el (alL n t) z)) ∨ (kk = 1 ∧ ((alL n t).drop i).find? (fun c => xs.any fun x => c == x) = none)) := by
  intro k
  induction k with
  | zero =>
    intro i h
    refine ⟨1, (i : Int), ?_, .inr ⟨rfl, by rw [List.drop_of_length_le (by omega)]; rfl⟩⟩
    rw [pfA_fs, bif_dT (by omega), bif_dF (by omega)]
  | succ k ih =>
    intro i h
    rw [pfA_fs, bif_dT (by omega), bif_dT (by omega), el_drop (l := alL n t) (i := i) (by omega)]
    have hw : IntKind.i64.wrap ((i : Int) + 1) = ((i + 1 : Nat) : Int) := w8n (n := (i : Int) + 1) (by omega) (by omega)
    rw [hw]
    cases hc : (xs.any fun x => el (alL n t) (i : Int) == x) with
    | true =>
      rw [cond_true]
      exact ⟨0, (i : Int), rfl, .inl ⟨rfl, by rw [List.find?_cons, hc]⟩⟩
    | false =>
      rw [cond_false]
      obtain ⟨kk, z, h1, h2⟩ := ih (i + 1) (by omega)
      refine ⟨kk, z, h1, ?_⟩
      rw [List.find?_cons, hc]
      exact h2
theorem rfI_go (n t : Int) (xs : List Int) (u : Int) (hx : xs.length ≤ 20000) : ∀ (k i : Nat), i + k = xs.length → ∃ kk z, rfI_f n t xs u (k + 1) (i : Int) = some (kk, z) ∧ ((kk = 0 ∧ (xs.drop i).any (fun x => el (alL n t) u == x) = true) ∨ (kk = 1 ∧ (xs.drop i).any (fun x => el (alL n t) u == x) = false)) := by
  intro k
  induction k with
  | zero =>
    intro i h
    refine ⟨1, (i : Int), ?_, .inr ⟨rfl, by rw [List.drop_of_length_le (by omega)]; rfl⟩⟩
    rw [rfI_f.eq_2, bif_dT (by omega), bif_dF (by omega)]
  | succ k ih =>
    intro i h
    rw [rfI_f.eq_2, bif_dT (by omega), bif_dT (by omega), el_drop (l := xs) (i := i) (by omega)]
    have hw : IntKind.i64.wrap ((i : Int) + 1) = ((i + 1 : Nat) : Int) := w8n (n := (i : Int) + 1) (by omega) (by omega)
    rw [hw]
    cases hc : (el (alL n t) u == el xs (i : Int)) with
    | true =>
      rw [cond_true]
      exact ⟨0, (i : Int), rfl, .inl ⟨rfl, by rw [List.any_cons, hc]; rfl⟩⟩
    | false =>
      rw [cond_false]
      obtain ⟨kk, z, h1, h2⟩ := ih (i + 1) (by omega)
      refine ⟨kk, z, h1, ?_⟩
      rw [List.any_cons, hc, Bool.false_or]
      exact h2
theorem rfA_go (n t : Int) (xs : List Int) (hx : xs.length ≤ 20000) (hl : (alL n t).length ≤ 2) : ∀ (k i : Nat), i + k = (alL n t).length → ∃ kk z, rfA_f n t xs (k + 1) (i : Int) = some (kk, z) ∧ ((kk = 0 ∧ ((alL n t).drop i).find? (fun c => xs.any fun x => c == x) = some (el (alL n t) z.1)) ∨ (kk = 1 ∧ ((alL n t).drop i).find? (fun c => xs.any fun x => c == x) = none)) := by
  intro k
  induction k with
  | zero =>
    intro i h
    refine ⟨1, ((i : Int), default), ?_, .inr ⟨rfl, by rw [List.drop_of_length_le (by omega)]; rfl⟩⟩
    rw [rfA_f.eq_2, bif_dT (by omega), bif_dF (by omega)]
  | succ k ih =>
    intro i h
    rw [rfA_f.eq_2, bif_dT (by omega), bif_dT (by omega), el_drop (l := alL n t) (i := i) (by omega)]
    have hw : IntKind.i64.wrap ((i : Int) + 1) = ((i + 1 : Nat) : Int) := w8n (n := (i : Int) + 1) (by omega) (by omega)
    rw [hw]
    obtain ⟨jj, zz, g1, g2⟩ := rfI_go n t xs (i : Int) hx xs.length 0 (by omega)
    rw [List.drop_zero] at g2
    have g1 : rfI_f n t xs (i : Int) (xs.length + 1) (0 : Int) = some (jj, zz) := g1
    rw [g1]
    simp only [rfI_m]
    rcases g2 with ⟨rfl, g2⟩ | ⟨rfl, g2⟩
    · rw [show Nat.beq 0 0 = true from rfl, cond_true]
      exact ⟨0, ((i : Int), zz), rfl, .inl ⟨rfl, by rw [List.find?_cons, g2]⟩⟩
    · rw [show Nat.beq 1 0 = false from rfl, cond_false, show Nat.beq 1 1 = true from rfl, cond_true]
      obtain ⟨kk, z, h1, h2⟩ := ih (i + 1) (by omega)
      refine ⟨kk, z, h1, ?_⟩
      rw [List.find?_cons, g2]
      exact h2
theorem pFirst (n t : Int) (xs : List Int) (hx : xs.length ≤ 20000) : KnownR Try.prog [] 30 [.val (.int .i64 n), .val (.int .i64 t), .list (rowA gI xs) xs.length] (.tuple #[.int .i64 (fiV n t xs), .int .i64 (alE n t)]) [] := by
  unfold fiV
  by_cases hc : alE n t = 0
  · rw [if_pos hc]
    obtain ⟨kk, z, h1, h2⟩ := pfA_go n t xs (alL_len n t) (alL n t).length 0 (by omega)
    rw [List.drop_zero] at h2
    have hA := pfA_ok n t xs hc hx (alL_len n t) _ kk _ h1
    rcases h2 with ⟨rfl, h2⟩ | ⟨rfl, h2⟩
    · rw [h2]
      have k := pf0 n t xs z hc hx (alL_len n t) (by rw [hc]; rfl) hA
      rw [hc]; exact k
    · rw [h2]
      have k := pf1 n t xs z hc hx (alL_len n t) (by rw [hc]; rfl) hA
      rw [hc]; exact k
  · rw [if_neg hc]
    exact pfE n t xs hc
theorem rFirst (n t : Int) (xs : List Int) (hx : xs.length ≤ 20000) : KnownR Try.prog [] 31 [.val (.int .i64 n), .val (.int .i64 t), .list (rowA gI xs) xs.length] (.tuple #[.int .i64 (fiV n t xs), .int .i64 (alE n t)]) [] := by
  unfold fiV
  by_cases hc : alE n t = 0
  · rw [if_pos hc]
    obtain ⟨kk, z, h1, h2⟩ := rfA_go n t xs hx (alL_len n t) (alL n t).length 0 (by omega)
    rw [List.drop_zero] at h2
    have hA := rfA_ok n t xs hc hx (alL_len n t) _ kk _ h1
    rcases h2 with ⟨rfl, h2⟩ | ⟨rfl, h2⟩
    · rw [h2]
      have k := rf0 n t xs z.1 z.2 hc hx (alL_len n t) (by rw [hc]; rfl) hA
      rw [hc]; exact k
    · rw [h2]
      have k := rf1 n t xs z.1 z.2 hc hx (alL_len n t) (by rw [hc]; rfl) hA
      rw [hc]; exact k
  · rw [if_neg hc]
    exact rfE n t xs hc
end Go.Proofs.Ytokpimghaladjaa
