import Derived.Test.YtaogbagopdlkmaaOgR
set_option linter.unusedVariables false
namespace Go.Proofs.Ytaogbagopdlkmaa
open Go Go.RowKit
theorem made_ck (n : Int) : ckX (mM n) (mD n) (mT n) (mS n) (mC n) = 0 ∧ trN (mM n) (mT n) (mS n) = mN n ∧ slN (mS n) (mC n) = mK n := by
 obtain ⟨h1, h2, h3, h4⟩ := m_in n
 have hs := mS_in n
 have e1 : trN (mM n) (mT n) (mS n) = mN n := trN_of (by unfold mT; omega) rfl h3.1 (by omega)
 have e2 : slN (mS n) (mC n) = mK n := slN_of hs.1 rfl h4.1 (by omega)
 refine ⟨?_, e1, e2⟩
 unfold ckX
 rw [if_pos ⟨h1.1, by omega, h2.1, by omega⟩, if_pos (show mT n = mM n + mD n from rfl), e1, if_neg (by omega), e2, if_neg (by omega)]
theorem prt_next {m d : Int} {N k : Nat} (h : k < 2 * N + 3) : fst m d (k + 1) = fst m d k + (prt m d N k).2.2.2 := by
 rcases odd_even k with rfl | ⟨i, rfl⟩ | ⟨i, rfl⟩
 ·rw [prt_zero, show 0 + 1 = 2 * 0 + 1 from rfl, fst_odd]
  have f0 : fst m d 0 = 0 := by unfold fst; rw [if_pos rfl]
  rw [f0]; simp
 ·rw [fst_odd, show 2 * i + 1 + 1 = 2 * i + 2 from rfl, fst_even]
  by_cases hi : i = N
  ·subst hi; rw [prt_pmove]
  ·rw [prt_move m d N i hi]
 ·rw [fst_even, show 2 * i + 2 + 1 = 2 * (i + 1) + 1 by omega, fst_odd, nsucc]
  by_cases hi : i = N
  ·subst hi; rw [prt_pdoor]; dsimp only; omega
  ·rw [prt_door m d N i hi]; dsimp only; omega
def In64 (n : Int) : Prop := -9223372036854775808 ≤ n ∧ n ≤ 9223372036854775807
end Go.Proofs.Ytaogbagopdlkmaa
