import Derived.Test.YtaogbagopdlkmaaOgR
set_option linter.unusedVariables false
namespace Go.Proofs.Ytaogbagopdlkmaa
open Go Go.RowKit
theorem made_ck (n : Int) : ckX (mM n) (mD n) (mT n) (mS n) (mC n) = 0 ∧ trN (mM n) (mT n) (mS n) = mN n ∧ slN (mS n) (mC n) = mK n := by
 obtain ⟨h1, h2, h3, h4⟩ := m_in n
 have hs := mS_in n
 have e1 : trN (mM n) (mT n) (mS n) = mN n := trN_of (by unfold mT; omega) rfl h3.1 (by omega)
 have e2 : slN (mS n) (mC n) = mK n := slN_of hs.1 rfl h4.1 (by omega)
 refine ⟨?_, e1, e2⟩
 unfold ckX
 rw [if_pos ⟨h1.1, by omega, h2.1, by omega⟩, if_pos (show mT n = mM n + mD n from rfl), e1, if_neg (by omega), e2, if_neg (by omega)]
theorem prt_next {m d : Int} {N k : Nat} (h : k < 2 * N + 3) : fst m d (k + 1) = fst m d k + (prt m d N k).2.2.2 := by
 rcases odd_even k with rfl | ⟨i, rfl⟩ | ⟨i, rfl⟩
 ·rw [prt_zero, show 0 + 1 = 2 * 0 + 1 from rfl, fst_odd]
  have f0 : fst m d 0 = 0 := by unfold fst; rw [if_pos rfl]
  rw [f0]; simp
 ·rw [fst_odd, show 2 * i + 1 + 1 = 2 * i + 2 from rfl, fst_even]
  by_cases hi : i = N
  ·subst hi; rw [prt_pmove]
  ·rw [prt_move m d N i hi]
 ·rw [fst_even, show 2 * i + 2 + 1 = 2 * (i + 1) + 1 by omega, fst_odd, nsucc]
  by_cases hi : i = N
  ·subst hi; rw [prt_pdoor]; dsimp only; omega
  ·rw [prt_door m d N i hi]; dsimp only; omega
theorem kind_ne {m d : Int} {N k : Nat} (h : k + 1 < 2 * N + 3) : (prt m d N (k + 1)).1 ≠ (prt m d N k).1 := by
 rcases odd_even k with rfl | ⟨i, rfl⟩ | ⟨i, rfl⟩
 ·rw [prt_zero, show 0 + 1 = 2 * 0 + 1 from rfl]
  by_cases hi : 0 = N
  ·subst hi; rw [prt_pmove]; simp
  ·rw [prt_move m d N 0 hi]; simp
 ·rw [show 2 * i + 1 + 1 = 2 * i + 2 from rfl]
  by_cases hi : i = N
  ·subst hi; rw [prt_pmove, prt_pdoor]; simp
  ·rw [prt_move m d N i hi, prt_door m d N i hi]; simp
 ·rw [show 2 * i + 2 + 1 = 2 * (i + 1) + 1 by omega, prt_door m d N i (by omega)]
  by_cases hi : i + 1 = N
  ·subst hi; rw [prt_pmove]; simp
  ·rw [prt_move m d N (i + 1) hi]; simp
theorem ph_is {m d t s c x : Int} (h : ckX m d t s c = 0) (hx : 0 ≤ x ∧ x ≤ 1099511627776) : ∃ (N k : Nat), trN m t s = N ∧ N ≤ 16 ∧ k < 2 * N + 3 ∧ fst m d k ≤ x % s ∧ x % s < fst m d (k + 1) ∧ phE m d t s c x = 0 ∧ phA m d t s c x = x / s ∧ phB m d t s c x = (prt m d N k).1 ∧ phC m d t s c x = (prt m d N k).2.1 ∧ phF m d t s c x = x % s - fst m d k ∧ fst m d (2 * N + 3) = s := by
 obtain ⟨h1, h2, h3, h4, h5, h6, h7⟩ := ck_all h
 obtain ⟨N, hN⟩ : ∃ N : Nat, trN m t s = N := ⟨(trN m t s).toNat, by omega⟩
 have hsl := slot_len (d := d) hN (by omega) h3
 have hf : fst m d (2 * N + 3) = s := by rw [show 2 * N + 3 = 2 * (N + 1) + 1 by omega, fst_odd, nsucc]; omega
 have u0 := Int.emod_nonneg x (b := s) (by omega)
 have u1 := Int.emod_lt_of_pos x (b := s) (by omega)
 have ⟨g1, g2⟩ := kOf_is h1.1 h2.1 u0
 have hk : kOf m d (x % s) < 2 * N + 3 := by
  rcases Nat.lt_or_ge (kOf m d (x % s)) (2 * N + 3) with g | g
  ·exact g
  ·have := fst_mono h1.1 h2.1 g; omega
 have e := phE_in h hx
 refine ⟨N, kOf m d (x % s), hN, by omega, hk, g1, g2, e, ?_, ?_, ?_, ?_, hf⟩
 ·unfold phA; rw [if_pos e]
 ·unfold phB phP; rw [if_pos e, hN, Int.toNat_natCast]
 ·unfold phC phP; rw [if_pos e, hN, Int.toNat_natCast]
 ·unfold phF phP; rw [if_pos e, hN, Int.toNat_natCast, prt_fst]
theorem tick_back {m d t s c x : Int} (h : ckX m d t s c = 0) (hx : 0 ≤ x ∧ x ≤ 1099511627776) : tkE' m d t s c (phA m d t s c x) (phB m d t s c x) (phC m d t s c x) (phF m d t s c x) = 0 ∧ tkV m d t s c (phA m d t s c x) (phB m d t s c x) (phC m d t s c x) (phF m d t s c x) = x := by
 obtain ⟨N, k, hN, hN2, hk, g1, g2, e, eA, eB, eC, eF, hf⟩ := ph_is h hx
 obtain ⟨h1, h2, h3, h4, h5, h6, h7⟩ := ck_all h
 obtain ⟨p1, p2, p3, p4⟩ := prt_of m d N k hk
 have hnx := prt_next (m := m) (d := d) hk
 have q0 : 0 ≤ x / s := Int.ediv_nonneg hx.1 (by omega)
 have q1 : x / s ≤ 1099511627776 / s := Int.ediv_le_ediv (by omega) hx.2
 have q2 := Int.emod_add_mul_ediv x s
 rw [Int.mul_comm] at q2
 have eb : tkB m d N (prt m d N k).1 (prt m d N k).2.1 = fst m d k := by rw [← p3, prt_fst]
 have e0 : tkE' m d t s c (phA m d t s c x) (phB m d t s c x) (phC m d t s c x) (phF m d t s c x) = 0 := by
  unfold tkE'
  rw [if_pos h, eA, eB, eC, eF, if_pos p1, hN, if_pos]
  unfold tkOk
  rw [decide_eq_true p1, p2, ← p4, eb, decide_eq_true (show 0 ≤ x % s - fst m d k ∧ x % s - fst m d k < (prt m d N k).2.2.2 by omega), decide_eq_true ⟨q0, q1⟩, decide_eq_true (show x / s * s + fst m d k + (x % s - fst m d k) ≤ 1099511627776 by omega)]
  rfl
 refine ⟨e0, ?_⟩
 unfold tkV
 rw [if_pos e0, eA, eB, eC, eF, hN, eb]
 omega
theorem ph_cycle {m d t s c x : Int} (h : ckX m d t s c = 0) (hx : 0 ≤ x) (hy : x + c ≤ 1099511627776) (hc : 0 ≤ c) : phE m d t s c (x + c) = 0 ∧ phA m d t s c (x + c) = phA m d t s c x + slN s c ∧ phB m d t s c (x + c) = phB m d t s c x ∧ phC m d t s c (x + c) = phC m d t s c x ∧ phF m d t s c (x + c) = phF m d t s c x := by
 obtain ⟨h1, h2, h3, h4, h5, h6, h7⟩ := ck_all h
 have hsl := slN_eq (ck_ok h).2.2.2.2
 have e1 := phE_in h (x := x) ⟨hx, by omega⟩
 have e2 := phE_in h (x := x + c) ⟨by omega, hy⟩
 have em : (x + c) % s = x % s := by rw [← hsl.1]; exact Int.add_mul_emod_self_right x _ s
 have ed : (x + c) / s = x / s + slN s c := by
  conv => lhs; rw [← hsl.1]
  exact Int.add_mul_ediv_right x _ (by omega)
 refine ⟨e2, ?_, ?_, ?_, ?_⟩
 ·unfold phA; rw [if_pos e1, if_pos e2, ed]
 ·unfold phB phP; rw [if_pos e1, if_pos e2, em]
 ·unfold phC phP; rw [if_pos e1, if_pos e2, em]
 ·unfold phF phP; rw [if_pos e1, if_pos e2, em]
theorem ph_next {m d t s c x : Int} (h : ckX m d t s c = 0) (hx : 0 ≤ x) (hy : x + 1 ≤ 1099511627776) :
  (phA m d t s c (x + 1) = phA m d t s c x ∧ phB m d t s c (x + 1) = phB m d t s c x ∧ phC m d t s c (x + 1) = phC m d t s c x ∧ phF m d t s c (x + 1) = phF m d t s c x + 1) ∨
  (phF m d t s c (x + 1) = 0 ∧ (phB m d t s c (x + 1) ≠ phB m d t s c x ∨ phA m d t s c (x + 1) ≠ phA m d t s c x)) := by
 obtain ⟨N, k, hN, hN2, hk, g1, g2, e, eA, eB, eC, eF, hf⟩ := ph_is h (x := x) ⟨hx, by omega⟩
 obtain ⟨N', k', hN', _, hk', g1', g2', e', eA', eB', eC', eF', _⟩ := ph_is h (x := x + 1) ⟨by omega, hy⟩
 obtain ⟨h1, h2, h3, h4, h5, h6, h7⟩ := ck_all h
 have : N' = N := by omega
 subst this
 have u0 := Int.emod_nonneg x (b := s) (by omega)
 have u1 := Int.emod_lt_of_pos x (b := s) (by omega)
 have q2 := Int.emod_add_mul_ediv x s
 rcases (by omega : x % s + 1 < s ∨ x % s + 1 = s) with hlt | heq
 ·have em : (x + 1) % s = x % s + 1 := by
   have : x + 1 = (x % s + 1) + s * (x / s) := by omega
   rw [this, Int.add_mul_emod_self_left, Int.emod_eq_of_lt (by omega) hlt]
  have ed : (x + 1) / s = x / s := by
   have : x + 1 = (x % s + 1) + s * (x / s) := by omega
   conv => lhs; rw [this]
   rw [Int.add_mul_ediv_left _ _ (by omega), Int.ediv_eq_zero_of_lt (by omega) hlt, Int.zero_add]
  rw [em] at g1' g2' eF'
  have ku := kOf_one h1.1 h2.1 u0 g1 g2
  have ku' := kOf_one h1.1 h2.1 (u := x % s + 1) (by omega) g1' g2'
  rcases (by omega : x % s + 1 < fst m d (k + 1) ∨ x % s + 1 = fst m d (k + 1)) with hl | he
  ·have e2 := kOf_one h1.1 h2.1 (u := x % s + 1) (k := k) (by omega) (by omega) hl
   have : k' = k := by omega
   subst this
   exact .inl ⟨by rw [eA', eA, ed], by rw [eB', eB], by rw [eC', eC], by rw [eF', eF]; omega⟩
  ·have hs := fst_step h1.1 h2.1 (k + 1)
   have e2 := kOf_one h1.1 h2.1 (u := x % s + 1) (k := k + 1) (by omega) (by omega) (by omega)
   have : k' = k + 1 := by omega
   subst this
   exact .inr ⟨by rw [eF']; omega, .inl (by rw [eB', eB]; exact kind_ne hk')⟩
 ·have em : (x + 1) % s = 0 := by
   have : x + 1 = 0 + s * (x / s + 1) := by rw [Int.mul_add]; omega
   rw [this, Int.add_mul_emod_self_left]; simp
  have ed : (x + 1) / s = x / s + 1 := by
   have : x + 1 = 0 + s * (x / s + 1) := by rw [Int.mul_add]; omega
   conv => lhs; rw [this]
   rw [Int.add_mul_ediv_left _ _ (by omega)]; simp
  rw [em] at g1' g2' eF'
  have f0 : fst m d 0 = 0 := by unfold fst; rw [if_pos rfl]
  have hm := fst_mono h1.1 h2.1 (a := 0) (b := k') (by omega)
  refine .inr ⟨by rw [eF']; omega, .inr (by rw [eA', eA, ed]; omega)⟩
theorem walks_one (n x : Int) : lawW_c0 n x = true := by
 obtain ⟨ck, et, es⟩ := made_ck n
 obtain ⟨h1, h2, h3, h4⟩ := m_in n
 have hs := mS_in n
 have hc := mC_in n
 have w5 : IntKind.i64.wrap ((5 : Int) * mC n) = 5 * mC n := w8n (by omega) (by omega)
 unfold lawW_c0
 rw [w5]
 have t0 := Int.emod_nonneg x (b := 5 * mC n) (by omega)
 have t1 := Int.emod_lt_of_pos x (b := 5 * mC n) (by omega)
 generalize x % (5 * mC n) = T at *
 rw [w8n (n := T + 1) (by omega) (by omega), w8n (n := T + mC n) (by omega) (by omega)]
 have hT : 0 ≤ T ∧ T ≤ 1099511627776 := by omega
 obtain ⟨N, k, hN, hN2, hk, g1, g2, e, eA, eB, eC, eF, hf⟩ := ph_is ck hT
 obtain ⟨b1, b2⟩ := tick_back ck hT
 obtain ⟨c0, c1, c2, c3, c4⟩ := ph_cycle ck (x := T) t0 (by omega) (by omega)
 have e1 := phE_in ck (x := T + 1) (by omega)
 have hn := ph_next ck (x := T) t0 (by omega)
 have q0 : 0 ≤ T / mS n := Int.ediv_nonneg t0 (by omega)
 have q1 : T / mS n ≤ T := Int.ediv_le_self _ t0
 have hF : 0 ≤ phF (mM n) (mD n) (mT n) (mS n) (mC n) T ∧ phF (mM n) (mD n) (mT n) (mS n) (mC n) T ≤ 100 := by
  rw [eF]
  have u1 := Int.emod_lt_of_pos T (b := mS n) (by omega)
  have f0 : fst (mM n) (mD n) 0 = 0 := by unfold fst; rw [if_pos rfl]
  have hm := fst_mono h1.1 h2.1 (a := 0) (b := k) (by omega)
  omega
 have eT : trX (mM n) (mD n) (mT n) (mS n) (mC n) = mN n := by unfold trX; rw [if_pos ck, et]
 have eS : slX (mM n) (mD n) (mT n) (mS n) (mC n) = mK n := by unfold slX; rw [if_pos ck, es]
 rw [e, b1, b2, c0, c1, c2, c3, c4, e1, ck, eT, eS, es, w8n (n := phA (mM n) (mD n) (mT n) (mS n) (mC n) T + mK n) (by rw [eA]; omega) (by rw [eA]; omega), w8n (n := phF (mM n) (mD n) (mT n) (mS n) (mC n) T + 1) (by omega) (by omega)]
 simp only [bne_self_eq_false, beq_self_eq_true, Bool.and_self, Bool.not_true, cond_false]
 rcases hn with ⟨n1, n2, n3, n4⟩ | ⟨n1, n2⟩
 ·rw [n1, n2, n3, n4]; simp
 ·rw [n1]
  rcases n2 with n2 | n2
  ·rw [show (phB (mM n) (mD n) (mT n) (mS n) (mC n) (T + 1) != phB (mM n) (mD n) (mT n) (mS n) (mC n) T) = true from bne_iff_ne.2 n2]; simp
  ·rw [show (phA (mM n) (mD n) (mT n) (mS n) (mC n) (T + 1) != phA (mM n) (mD n) (mT n) (mS n) (mC n) T) = true from bne_iff_ne.2 n2]; simp
def In64 (n : Int) : Prop := -9223372036854775808 ≤ n ∧ n ≤ 9223372036854775807
theorem phaseWalks_true (n x : Int) (w : World) (_ : In64 n) (_ : In64 x) :
  Calls Try.prog 7 #[.int .i64 n, .int .i64 x] w fun e w' => e = .returned (.bool true) ∧ Below w.heap.size w w' := by
 have hc := mC_in n
 have hs := mS_in n
 have k := lawW n x (decide_eq_true (by rw [w8n (n := 5 * mC n) (by omega) (by omega)]; omega))
 rw [walks_one n x] at k
 exact knownR_law k (LaidL.nil w) (.cons (.val rfl) (.cons (.val rfl) .nil))
end Go.Proofs.Ytaogbagopdlkmaa
