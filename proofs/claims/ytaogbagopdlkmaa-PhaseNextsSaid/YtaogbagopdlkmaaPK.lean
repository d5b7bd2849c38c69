import Derived.Test.YtaogbagopdlkmaaOgR
set_option linter.unusedVariables false
namespace Go.Proofs.Ytaogbagopdlkmaa
open Go Go.RowKit
theorem made_ck (n : Int) : ckX (mM n) (mD n) (mT n) (mS n) (mC n) = 0 ∧ trN (mM n) (mT n) (mS n) = mN n ∧ slN (mS n) (mC n) = mK n := by
 obtain ⟨h1, h2, h3, h4⟩ := m_in n
 have hs := mS_in n
 have e1 : trN (mM n) (mT n) (mS n) = mN n := trN_of (by unfold mT; omega) rfl h3.1 (by omega)
 have e2 : slN (mS n) (mC n) = mK n := slN_of hs.1 rfl h4.1 (by omega)
 refine ⟨?_, e1, e2⟩
 unfold ckX
 rw [if_pos ⟨h1.1, by omega, h2.1, by omega⟩, if_pos (show mT n = mM n + mD n from rfl), e1, if_neg (by omega), e2, if_neg (by omega)]
theorem ph_is {m d t s c x : Int} (h : ckX m d t s c = 0) (hx : 0 ≤ x ∧ x ≤ 1099511627776) : ∃ (N k : Nat), trN m t s = N ∧ N ≤ 16 ∧ k < 2 * N + 3 ∧ fst m d k ≤ x % s ∧ x % s < fst m d (k + 1) ∧ phE m d t s c x = 0 ∧ phA m d t s c x = x / s ∧ phB m d t s c x = (prt m d N k).1 ∧ phC m d t s c x = (prt m d N k).2.1 ∧ phF m d t s c x = x % s - fst m d k ∧ fst m d (2 * N + 3) = s := by
 obtain ⟨h1, h2, h3, h4, h5, h6, h7⟩ := ck_all h
 obtain ⟨N, hN⟩ : ∃ N : Nat, trN m t s = N := ⟨(trN m t s).toNat, by omega⟩
 have hsl := slot_len (d := d) hN (by omega) h3
 have hf : fst m d (2 * N + 3) = s := by rw [show 2 * N + 3 = 2 * (N + 1) + 1 by omega, fst_odd, nsucc]; omega
 have u0 := Int.emod_nonneg x (b := s) (by omega)
 have u1 := Int.emod_lt_of_pos x (b := s) (by omega)
 have ⟨g1, g2⟩ := kOf_is h1.1 h2.1 u0
 have hk : kOf m d (x % s) < 2 * N + 3 := by
  rcases Nat.lt_or_ge (kOf m d (x % s)) (2 * N + 3) with g | g
  ·exact g
  ·have := fst_mono h1.1 h2.1 g; omega
 have e := phE_in h hx
 refine ⟨N, kOf m d (x % s), hN, by omega, hk, g1, g2, e, ?_, ?_, ?_, ?_, hf⟩
 ·unfold phA; rw [if_pos e]
 ·unfold phB phP; rw [if_pos e, hN, Int.toNat_natCast]
 ·unfold phC phP; rw [if_pos e, hN, Int.toNat_natCast]
 ·unfold phF phP; rw [if_pos e, hN, Int.toNat_natCast, prt_fst]
def In64 (n : Int) : Prop := -9223372036854775808 ≤ n ∧ n ≤ 9223372036854775807
end Go.Proofs.Ytaogbagopdlkmaa
