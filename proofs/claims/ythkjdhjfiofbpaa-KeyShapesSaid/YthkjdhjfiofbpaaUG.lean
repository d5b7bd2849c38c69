import Derived.Test.YthkjdhjfiofbpaaOgM
set_option linter.unusedVariables false
namespace Go.Proofs.Ythkjdhjfiofbpaa
open Go Go.RowKit
def smS (t n : Int) : Int × Int := (t + n % 65536 % 17, if n % 65536 / 17 % 3 = 0 then 7 else if n % 65536 / 17 % 3 = 1 then 42 else 9)
def smL : List Int → Int → List (Int × Int)
 | [], _ => []
 | n :: r, t => smS t n :: smL r (smS t n).1
theorem el_take {l : List Int} {i : Nat} (h : i < 30) : el (l.take 30) (i : Int) = el l (i : Int) := by
 unfold el
 rw [List.getD_eq_getElem?_getD, List.getD_eq_getElem?_getD, Int.toNat_natCast, List.getElem?_take_of_lt h]
theorem smA_go {xs : List Int} : ∀ (k i : Nat) (y0 : List (Int × Int)) (t : Int), i + k = (xs.take 30).length → y0.length ≤ i → 0 ≤ t → t ≤ 16 * i →
  ∃ z, smA_f xs (k + 1) y0 t (i : Int) = some (0, ((smL ((xs.take 30).drop i) t).reverse ++ y0, z)) := by
 intro k
 induction k with
 | zero =>
  intro i y0 t h h1 h2 h3
  have hl : (xs.take 30).length = min 30 xs.length := by simp
  rw [smA_fs, bif_dT (by omega), List.drop_of_length_le (by omega)]
  by_cases h4 : (i : Int) < (xs.length : Int)
  ·rw [bif_dT h4, bif_dF (by omega)]; exact ⟨_, rfl⟩
  ·rw [bif_dF h4]; exact ⟨_, rfl⟩
 | succ k ih =>
  intro i y0 t h h1 h2 h3
  have hl : (xs.take 30).length = min 30 xs.length := by simp
  rw [smA_fs, bif_dT (by omega), bif_dT (by omega), bif_dT (by omega), el_drop (l := xs.take 30) (i := i) (by omega), el_take (by omega)]
  generalize el xs (i : Int) = n
  have b0 := Int.emod_nonneg n (by decide : (65536 : Int) ≠ 0)
  have b1 := Int.emod_lt_of_pos n (by decide : (0 : Int) < 65536)
  have e1 : (n % 65536).tmod 17 = n % 65536 % 17 := Int.tmod_eq_emod_of_nonneg b0
  have e2 : (n % 65536).tdiv 17 = n % 65536 / 17 := Int.tdiv_eq_ediv_of_nonneg b0
  have c1 := Int.emod_lt_of_pos (n % 65536) (by decide : (0 : Int) < 17)
  have c0 := Int.emod_nonneg (n % 65536) (by decide : (17 : Int) ≠ 0)
  have e3 : IntKind.i64.wrap (n % 65536 / 17) = n % 65536 / 17 := w8n (by omega) (by omega)
  have e4 : (n % 65536 / 17).tmod 3 = n % 65536 / 17 % 3 := Int.tmod_eq_emod_of_nonneg (by omega)
  have e5 : IntKind.i64.wrap (t + n % 65536 % 17) = t + n % 65536 % 17 := w8n (by omega) (by omega)
  rw [e1, e2, e3, e4, e5, w8n (n := (i : Int) + 1) (by omega) (by omega), show (i : Int) + 1 = ((i + 1 : Nat) : Int) by omega]
  have key : ∀ q : Int, smS t n = (t + n % 65536 % 17, q) → ∃ z, smA_f xs (k + 1) ((t + n % 65536 % 17, q) :: y0) (t + n % 65536 % 17) ((i + 1 : Nat) : Int) = some (0, ((smL (n :: (xs.take 30).drop (i + 1)) t).reverse ++ y0, z)) := fun q hq => by
   obtain ⟨z, hz⟩ := ih (i + 1) ((t + n % 65536 % 17, q) :: y0) (t + n % 65536 % 17) (by omega) (by simp only [List.length_cons]; omega) (by omega) (by omega)
   refine ⟨z, hz.trans ?_⟩
   rw [show smL (n :: (xs.take 30).drop (i + 1)) t = smS t n :: smL ((xs.take 30).drop (i + 1)) (smS t n).1 from rfl, hq, List.reverse_cons, List.append_assoc]
   rfl
  by_cases h5 : n % 65536 / 17 % 3 = 0
  ·rw [bif_dT h5]; exact key 7 (by unfold smS; rw [if_pos h5])
  ·rw [bif_dF h5]
   by_cases h6 : n % 65536 / 17 % 3 = 1
   ·rw [bif_dT h6]; exact key 42 (by unfold smS; rw [if_neg h5, if_pos h6])
   ·rw [bif_dF h6]; exact key 9 (by unfold smS; rw [if_neg h5, if_neg h6])
def stL (xs : List Int) : List (Int × Int) := smL (xs.take 30) 0
theorem sm_len : ∀ (l : List Int) (t : Int), (smL l t).length = l.length
 | [], t => rfl
 | n :: r, t => by unfold smL; simp [sm_len r]
theorem st_len (xs : List Int) : (stL xs).length ≤ 30 := by
 unfold stL
 rw [sm_len]
 simp
 omega
theorem sm_hi : ∀ (l : List Int) (t p : Int), 0 ≤ p → p ≤ t → t + 16 * l.length ≤ 1099511627776 → hiS (smL l t) p = 2
 | [], t, p, h0, h1, h2 => by unfold smL hiS; rfl
 | n :: r, t, p, h0, h1, h2 => by
  have c1 := Int.emod_lt_of_pos (n % 65536) (by decide : (0 : Int) < 17)
  have c0 := Int.emod_nonneg (n % 65536) (by decide : (17 : Int) ≠ 0)
  simp only [List.length_cons] at h2
  unfold smL hiS
  have hk : 1 ≤ (smS t n).2 ∧ (smS t n).2 ≤ 99 := by
   unfold smS
   dsimp only
   split
   ·omega
   ·split <;> omega
  have ht : (smS t n).1 = t + n % 65536 % 17 := rfl
  rw [if_neg (by omega), if_neg (by omega)]
  exact sm_hi r _ _ (by omega) (by omega) (by omega)
end Go.Proofs.Ythkjdhjfiofbpaa
