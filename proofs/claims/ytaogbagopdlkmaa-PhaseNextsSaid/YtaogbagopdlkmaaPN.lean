import Derived.Test.YtaogbagopdlkmaaOgU
set_option linter.unusedVariables false
namespace Go.Proofs.Ytaogbagopdlkmaa
open Go Go.RowKit
theorem move_at {m d t s c a : Int} {N : Nat} (h : ckX m d t s c = 0) (hN : trN m t s = N) (hx : 0 ≤ a ∧ a ≤ 1099511627776) (hB : phB m d t s c a = 2) (hF : phF m d t s c a = 0) : ∃ i : Nat, i < N ∧ a = a / s * s + m + i * (m + d) := by
 obtain ⟨N', j, hN', _, hj, g1, g2, e, eA, eB, eC, eF, hf⟩ := ph_is h hx
 have : N' = N := by omega
 subst this
 have r2 := Int.emod_add_mul_ediv a s
 have rc : s * (a / s) = a / s * s := Int.mul_comm _ _
 rw [hB] at eB
 rw [hF] at eF
 rcases odd_even j with rfl | ⟨i, rfl⟩ | ⟨i, rfl⟩
 ·rw [prt_zero] at eB; exact absurd eB (by simp)
 ·by_cases hi : i = N'
  ·subst hi; rw [prt_pmove] at eB; exact absurd eB (by simp)
  ·rw [fst_odd] at eF
   exact ⟨i, by omega, by omega⟩
 ·by_cases hi : i = N'
  ·subst hi; rw [prt_pdoor] at eB; exact absurd eB (by simp)
  ·rw [prt_door m d N' i hi] at eB; exact absurd eB (by simp)
theorem moves_apart {m d t s c a b : Int} (h : ckX m d t s c = 0) (ha : 0 ≤ a) (hab : a < b) (hb : b ≤ 1099511627776) (hB : phB m d t s c a = 2) (hF : phF m d t s c a = 0) (hB' : phB m d t s c b = 2) (hF' : phF m d t s c b = 0) : t ≤ b - a := by
 obtain ⟨h1, h2, h3, h4, h5, h6, h7⟩ := ck_all h
 obtain ⟨N, hN⟩ : ∃ N : Nat, trN m t s = N := ⟨(trN m t s).toNat, by omega⟩
 have hsl := slot_len (d := d) hN (by omega) h3
 obtain ⟨i, i1, i2⟩ := move_at h hN ⟨ha, by omega⟩ hB hF
 obtain ⟨j, j1, j2⟩ := move_at h hN ⟨by omega, hb⟩ hB' hF'
 have hi0 : 0 ≤ (i : Int) * (m + d) := Int.mul_nonneg (by omega) (by omega)
 have hj0 : 0 ≤ (j : Int) * (m + d) := Int.mul_nonneg (by omega) (by omega)
 have hiN : ((i + 1 : Nat) : Int) * (m + d) ≤ N * (m + d) := Int.mul_le_mul_of_nonneg_right (by omega) (by omega)
 have hjN : ((j + 1 : Nat) : Int) * (m + d) ≤ N * (m + d) := Int.mul_le_mul_of_nonneg_right (by omega) (by omega)
 rw [nsucc] at hiN hjN
 rcases (by omega : b / s < a / s ∨ b / s = a / s ∨ a / s + 1 ≤ b / s) with c | c | c
 ·have := Int.ediv_le_ediv (show 0 < s by omega) (show a ≤ b by omega); omega
 ·rw [c] at j2
  rcases Nat.lt_or_ge i j with g | g
  ·have : ((i + 1 : Nat) : Int) * (m + d) ≤ j * (m + d) := Int.mul_le_mul_of_nonneg_right (by omega) (by omega)
   rw [nsucc] at this
   omega
  ·have : (j : Int) * (m + d) ≤ i * (m + d) := Int.mul_le_mul_of_nonneg_right (by omega) (by omega)
   omega
 ·have : (a / s + 1) * s ≤ b / s * s := Int.mul_le_mul_of_nonneg_right c (by omega)
  rw [Int.add_mul] at this
  omega
theorem lwA_go {n x y : Int} (hT : 0 ≤ x % IntKind.i64.wrap ((2 : Int) * mC n)) (hnx : Nx (mM n) (mD n) (mT n) (mS n) (mC n) (x % IntKind.i64.wrap ((2 : Int) * mC n)) (IntKind.i64.wrap ((1 : Int) + y % (5 : Int))) (nxV (mM n) (mD n) (mT n) (mS n) (mC n) (x % IntKind.i64.wrap ((2 : Int) * mC n)) (IntKind.i64.wrap ((1 : Int) + y % (5 : Int))))) (hat : nxV (mM n) (mD n) (mT n) (mS n) (mC n) (x % IntKind.i64.wrap ((2 : Int) * mC n)) (IntKind.i64.wrap ((1 : Int) + y % (5 : Int))) ≤ 1000000) :
  ∀ (k : Nat) (i : Int), x % IntKind.i64.wrap ((2 : Int) * mC n) < i → i + k = nxV (mM n) (mD n) (mT n) (mS n) (mC n) (x % IntKind.i64.wrap ((2 : Int) * mC n)) (IntKind.i64.wrap ((1 : Int) + y % (5 : Int))) + 1 → ∃ z, lwA_f n x y (k + 1) i = some (1, z) := by
 obtain ⟨ck, _, _⟩ := made_ck n
 intro k
 induction k with
 | zero =>
  intro i h1 h2
  refine ⟨i, ?_⟩
  rw [lwA_f.eq_2, cond_true, bif_dF (by omega)]
 | succ k ih =>
  intro i h1 h2
  have hle : i ≤ nxV (mM n) (mD n) (mT n) (mS n) (mC n) (x % IntKind.i64.wrap ((2 : Int) * mC n)) (IntKind.i64.wrap ((1 : Int) + y % (5 : Int))) := by omega
  rw [lwA_f.eq_2, cond_true, bif_dT hle, w8n (n := i + 1) (by omega) (by omega)]
  obtain ⟨z, hz⟩ := ih (i + 1) (by omega) (by omega)
  refine ⟨z, ?_⟩
  rw [hz]
  have hE := phE_in ck (x := i) (by omega)
  have hde : deB (mM n) (mD n) (mT n) (mS n) (mC n) i = (phB (mM n) (mD n) (mT n) (mS n) (mC n) i == 2 && phF (mM n) (mD n) (mT n) (mS n) (mC n) i == 0) := by
   unfold deB
   simp only [hE, true_and, Bool.decide_and]
   rfl
  rw [hE, hde]
  generalize hat1 : nxV (mM n) (mD n) (mT n) (mS n) (mC n) (x % IntKind.i64.wrap ((2 : Int) * mC n)) (IntKind.i64.wrap ((1 : Int) + y % (5 : Int))) = a at *
  have hno := hnx.none i h1
  have hAt := hnx.at_
  have key : ((phB (mM n) (mD n) (mT n) (mS n) (mC n) i == IntKind.i64.wrap ((1 : Int) + y % (5 : Int))) && (phF (mM n) (mD n) (mT n) (mS n) (mC n) i == 0)) = (i == a) := by
   by_cases e : i = a
   ·subst e; rw [hAt.1, hAt.2]; simp
   ·have : ¬ (phB (mM n) (mD n) (mT n) (mS n) (mC n) i = IntKind.i64.wrap ((1 : Int) + y % (5 : Int)) ∧ phF (mM n) (mD n) (mT n) (mS n) (mC n) i = 0) := hno (by omega)
    rw [show (i == a) = false from beq_eq_false_iff_ne.2 e]
    by_cases g : phB (mM n) (mD n) (mT n) (mS n) (mC n) i = IntKind.i64.wrap ((1 : Int) + y % (5 : Int))
    ·rw [show (phF (mM n) (mD n) (mT n) (mS n) (mC n) i == 0) = false from beq_eq_false_iff_ne.2 (fun q => this ⟨g, q⟩), Bool.and_false]
    ·rw [show (phB (mM n) (mD n) (mT n) (mS n) (mC n) i == IntKind.i64.wrap ((1 : Int) + y % (5 : Int))) = false from beq_eq_false_iff_ne.2 g, Bool.false_and]
  rw [← key]
  cases (phB (mM n) (mD n) (mT n) (mS n) (mC n) i == IntKind.i64.wrap ((1 : Int) + y % (5 : Int))) <;> cases (phF (mM n) (mD n) (mT n) (mS n) (mC n) i == 0) <;> cases (phB (mM n) (mD n) (mT n) (mS n) (mC n) i == 2) <;> rfl
theorem phaseNexts_true (n x y : Int) (w : World) (_ : In64 n) (_ : In64 x) (_ : In64 y) :
  Calls Try.prog 9 #[.int .i64 n, .int .i64 x, .int .i64 y] w fun e w' => e = .returned (.bool true) ∧ Below w.heap.size w w' := by
 obtain ⟨ck, _, _⟩ := made_ck n
 have hc := mC_in n
 have hs := mS_in n
 have w2 : IntKind.i64.wrap ((2 : Int) * mC n) = 2 * mC n := w8n (by omega) (by omega)
 have t0 : 0 ≤ x % IntKind.i64.wrap ((2 : Int) * mC n) := Int.emod_nonneg x (by omega)
 have t1 : x % IntKind.i64.wrap ((2 : Int) * mC n) < IntKind.i64.wrap ((2 : Int) * mC n) := Int.emod_lt_of_pos x (by omega)
 have hT : 0 ≤ x % IntKind.i64.wrap ((2 : Int) * mC n) ∧ x % IntKind.i64.wrap ((2 : Int) * mC n) ≤ 1000000 := by omega
 have hK : 1 ≤ IntKind.i64.wrap ((1 : Int) + y % (5 : Int)) ∧ IntKind.i64.wrap ((1 : Int) + y % (5 : Int)) ≤ 5 := by
  rw [w8n (by omega) (by omega)]; omega
 have hnx := (nxV_is ck hT hK).2
 have hlo := hnx.lo
 have hhi := hnx.hi
 have hT2 : 0 ≤ nxV (mM n) (mD n) (mT n) (mS n) (mC n) (x % IntKind.i64.wrap ((2 : Int) * mC n)) (IntKind.i64.wrap ((1 : Int) + y % (5 : Int))) ∧ nxV (mM n) (mD n) (mT n) (mS n) (mC n) (x % IntKind.i64.wrap ((2 : Int) * mC n)) (IntKind.i64.wrap ((1 : Int) + y % (5 : Int))) ≤ 1000000 := by omega
 have hg : decide (0 < IntKind.i64.wrap ((2 : Int) * mC n) ∧ IntKind.i64.wrap ((2 : Int) * mC n) ≤ 4611686018427387904) = true := decide_eq_true (by omega)
 have hA := decide_eq_false (show ¬ nxV (mM n) (mD n) (mT n) (mS n) (mC n) (x % IntKind.i64.wrap ((2 : Int) * mC n)) (IntKind.i64.wrap ((1 : Int) + y % (5 : Int))) ≤ x % IntKind.i64.wrap ((2 : Int) * mC n) by omega)
 have hB := decide_eq_false (show ¬ nxV (mM n) (mD n) (mT n) (mS n) (mC n) (x % IntKind.i64.wrap ((2 : Int) * mC n)) (IntKind.i64.wrap ((1 : Int) + y % (5 : Int))) > IntKind.i64.wrap (x % IntKind.i64.wrap ((2 : Int) * mC n) + mS n) by rw [w8n (n := x % IntKind.i64.wrap ((2 : Int) * mC n) + mS n) (by omega) (by omega)]; omega)
 obtain ⟨z, hz⟩ := lwA_go t0 hnx hT2.2 (nxV (mM n) (mD n) (mT n) (mS n) (mC n) (x % IntKind.i64.wrap ((2 : Int) * mC n)) (IntKind.i64.wrap ((1 : Int) + y % (5 : Int))) - x % IntKind.i64.wrap ((2 : Int) * mC n)).toNat (x % IntKind.i64.wrap ((2 : Int) * mC n) + 1) (by omega) (by omega)
 rw [← w8n (n := x % IntKind.i64.wrap ((2 : Int) * mC n) + 1) (by omega) (by omega)] at hz
 have hl := lwA_ok n x y ck hT hK hg hA hB _ 1 z hz
 have k := lwN n x y z ck hT hK hg hA hB hT2 hg hA hB hl
 have e : lwN_c0 n x y z = true := by
  unfold lwN_c0
  by_cases h2 : IntKind.i64.wrap ((1 : Int) + y % (5 : Int)) = 2
  ·have hn2 := (nxV_is ck hT2 hK).2
   have l2 := hn2.lo
   have u2 := hn2.hi
   have a1 := hnx.at_
   have a2 := hn2.at_
   have := moves_apart ck hT2.1 l2 (by omega) (by rw [a1.1, h2]) a1.2 (by rw [a2.1, h2]) a2.2
   rw [show (IntKind.i64.wrap ((1 : Int) + y % (5 : Int)) != 2) = false from (by rw [h2]; rfl), cond_false, w8n (by omega) (by omega), bif_dT (show _ ≥ _ from this)]
  ·rw [show (IntKind.i64.wrap ((1 : Int) + y % (5 : Int)) != 2) = true from bne_iff_ne.2 h2]; rfl
 rw [e] at k
 exact knownR_law k (LaidL.nil w) (.cons (.val rfl) (.cons (.val rfl) (.cons (.val rfl) .nil)))
end Go.Proofs.Ytaogbagopdlkmaa
