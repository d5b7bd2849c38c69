import Derived.Test.YtaogbagopdlkmaaOgZa
import Derived.Test.YtaogbagopdlkmaaPK
set_option linter.unusedVariables false
namespace Go.Proofs.Ytaogbagopdlkmaa
open Go Go.RowKit
theorem sums_of (n F G : Int) (hF : 0 ≤ F) (hFG : F ≤ G) : (∀ k, 0 ≤ coV (mM n) (mD n) (mT n) (mS n) F G k) ∧ (∀ k, 1 ≤ k ∧ k ≤ 5 → coV (mM n) (mD n) (mT n) (mS n) F (F + mS n) k = if k = 2 ∨ k = 3 then mN n * tkL (mM n) (mD n) k else tkL (mM n) (mD n) k) ∧
  coV (mM n) (mD n) (mT n) (mS n) F G 1 + coV (mM n) (mD n) (mT n) (mS n) F G 2 + coV (mM n) (mD n) (mT n) (mS n) F G 3 + coV (mM n) (mD n) (mT n) (mS n) F G 4 + coV (mM n) (mD n) (mT n) (mS n) F G 5 = G - F := by
 obtain ⟨ck, et, _⟩ := made_ck n
 obtain ⟨h1, h2, h3, h4⟩ := m_in n
 have hs := mS_in n
 obtain ⟨N, hN⟩ : ∃ N : Nat, mN n = N := ⟨(mN n).toNat, by omega⟩
 have hN' : trN (mM n) (mT n) (mS n) = N := by rw [et, hN]
 have hsl := slot_len (d := mD n) hN' (by omega) rfl
 have hf : fst (mM n) (mD n) (2 * N + 3) = mS n := by rw [show 2 * N + 3 = 2 * (N + 1) + 1 by omega, fst_odd, nsucc]; omega
 have ecv : ∀ a b k, coV (mM n) (mD n) (mT n) (mS n) a b k = cntK (mM n) (mD n) (mS n) N k b - cntK (mM n) (mD n) (mS n) N k a := fun a b k => by
  unfold coV; rw [hN', Int.toNat_natCast]
 refine ⟨fun k => ?_, fun k hk => ?_, ?_⟩
 ·rw [ecv]
  have := cnt_mono (k := k) h1.1 h2.1 (x := F) hF hs.1 hf (G - F).toNat
  rw [show F + ((G - F).toNat : Int) = G by omega] at this
  omega
 ·rw [ecv, cnt_slot hs.1, ws_is _ _ _ _ hk, hN]
  unfold tkL
  rcases (by omega : k = 1 ∨ k = 2 ∨ k = 3 ∨ k = 4 ∨ k = 5) with rfl | rfl | rfl | rfl | rfl <;> simp <;> omega
 ·have a := cnt_total h1.1 h2.1 hs.1 hf G.toNat
  have b := cnt_total h1.1 h2.1 hs.1 hf F.toNat
  rw [show (G.toNat : Int) = G by omega] at a
  rw [show (F.toNat : Int) = F by omega] at b
  rw [ecv, ecv, ecv, ecv, ecv]
  omega
theorem phaseSums_true (n x y : Int) (w : World) (_ : In64 n) (_ : In64 x) (_ : In64 y) :
  Calls Try.prog 8 #[.int .i64 n, .int .i64 x, .int .i64 y] w fun e w' => e = .returned (.bool true) ∧ Below w.heap.size w w' := by
 obtain ⟨ck, _, _⟩ := made_ck n
 obtain ⟨h1, h2, h3, h4⟩ := m_in n
 have hc := mC_in n
 have hs := mS_in n
 have w3 : IntKind.i64.wrap ((3 : Int) * mC n) = 3 * mC n := w8n (by omega) (by omega)
 have a0 : 0 ≤ x % IntKind.i64.wrap ((3 : Int) * mC n) := Int.emod_nonneg x (by omega)
 have a1 : x % IntKind.i64.wrap ((3 : Int) * mC n) < IntKind.i64.wrap ((3 : Int) * mC n) := Int.emod_lt_of_pos x (by omega)
 have b0 : 0 ≤ y % IntKind.i64.wrap ((3 : Int) * mC n) := Int.emod_nonneg y (by omega)
 have b1 : y % IntKind.i64.wrap ((3 : Int) * mC n) < IntKind.i64.wrap ((3 : Int) * mC n) := Int.emod_lt_of_pos y (by omega)
 have hg : decide (0 < IntKind.i64.wrap ((3 : Int) * mC n) ∧ IntKind.i64.wrap ((3 : Int) * mC n) ≤ 4611686018427387904) = true := decide_eq_true (by omega)
 have hL : ∀ k, 1 ≤ tkL (mM n) (mD n) k ∧ tkL (mM n) (mD n) k ≤ 9 := fun k => by unfold tkL; split <;> omega
 have hM : ∀ k, IntKind.i64.wrap (mN n * tkL (mM n) (mD n) k) = mN n * tkL (mM n) (mD n) k := fun k => by
  have := hL k
  have := mul_low (n := mN n) (t := tkL (mM n) (mD n) k) (a := 4) (b := 9) (by omega) (by omega) (by omega) (by omega)
  exact w8n (by omega) (by omega)
 have harg : DIns w [.val (.int .i64 n), .val (.int .i64 x), .val (.int .i64 y)] [.int .i64 n, .int .i64 x, .int .i64 y] := .cons (.val rfl) (.cons (.val rfl) (.cons (.val rfl) .nil))
 have facts : ∀ F G : Int, 0 ≤ F → F ≤ G → G ≤ 2000 → (∀ k, decide (coV (mM n) (mD n) (mT n) (mS n) F G k < 0) = false) ∧ (∀ k, 1 ≤ k ∧ k ≤ 5 → ¬ (k = 2 ∨ k = 3) → (coV (mM n) (mD n) (mT n) (mS n) F (IntKind.i64.wrap (F + mS n)) k != tkL (mM n) (mD n) k) = false) ∧ (∀ k, 1 ≤ k ∧ k ≤ 5 → (k = 2 ∨ k = 3) → (coV (mM n) (mD n) (mT n) (mS n) F (IntKind.i64.wrap (F + mS n)) k != IntKind.i64.wrap (mN n * tkL (mM n) (mD n) k)) = false) ∧
   (IntKind.i64.wrap (IntKind.i64.wrap (IntKind.i64.wrap (IntKind.i64.wrap (IntKind.i64.wrap ((0 : Int) + coV (mM n) (mD n) (mT n) (mS n) F G 1) + coV (mM n) (mD n) (mT n) (mS n) F G 2) + coV (mM n) (mD n) (mT n) (mS n) F G 3) + coV (mM n) (mD n) (mT n) (mS n) F G 4) + coV (mM n) (mD n) (mT n) (mS n) F G 5) == IntKind.i64.wrap (G - F)) = true := fun F G f0 f1 f2 => by
  obtain ⟨p1, p2, p3⟩ := sums_of n F G f0 f1
  have q1 := p1 1
  have q2 := p1 2
  have q3 := p1 3
  have q4 := p1 4
  have q5 := p1 5
  refine ⟨fun k => decide_eq_false (by have := p1 k; omega), fun k hk hn => ?_, fun k hk hn => ?_, ?_⟩
  ·rw [w8n (n := F + mS n) (by omega) (by omega), p2 k hk, if_neg hn]; simp
  ·rw [w8n (n := F + mS n) (by omega) (by omega), p2 k hk, if_pos hn, hM]; simp
  ·generalize coV (mM n) (mD n) (mT n) (mS n) F G 1 = c1 at *
   generalize coV (mM n) (mD n) (mT n) (mS n) F G 2 = c2 at *
   generalize coV (mM n) (mD n) (mT n) (mS n) F G 3 = c3 at *
   generalize coV (mM n) (mD n) (mT n) (mS n) F G 4 = c4 at *
   generalize coV (mM n) (mD n) (mT n) (mS n) F G 5 = c5 at *
   rw [w8n (n := 0 + c1) (by omega) (by omega), w8n (n := 0 + c1 + c2) (by omega) (by omega), w8n (n := 0 + c1 + c2 + c3) (by omega) (by omega), w8n (n := 0 + c1 + c2 + c3 + c4) (by omega) (by omega), w8n (n := 0 + c1 + c2 + c3 + c4 + c5) (by omega) (by omega), w8n (n := G - F) (by omega) (by omega)]
   exact beq_iff_eq.2 (by omega)
 by_cases hlt : y % IntKind.i64.wrap ((3 : Int) * mC n) < x % IntKind.i64.wrap ((3 : Int) * mC n)
 ·obtain ⟨p1, p2, p3, p4⟩ := facts _ _ b0 (show y % IntKind.i64.wrap ((3 : Int) * mC n) ≤ x % IntKind.i64.wrap ((3 : Int) * mC n) by omega) (by omega)
  have e := w8n (n := y % IntKind.i64.wrap ((3 : Int) * mC n) + mS n) (by omega) (by omega)
  exact knownR_law (lsB n x y ck b0 (by omega) (by omega) (by rw [e]; omega) (by rw [e]; omega) hg (decide_eq_true hlt) (p1 1) (p2 1 (by decide) (by decide)) (p1 2) (p3 2 (by decide) (by decide)) (p1 3) (p3 3 (by decide) (by decide)) (p1 4) (p2 4 (by decide) (by decide)) (p1 5) (p2 5 (by decide) (by decide)) p4) (LaidL.nil w) harg
 ·obtain ⟨p1, p2, p3, p4⟩ := facts _ _ a0 (show x % IntKind.i64.wrap ((3 : Int) * mC n) ≤ y % IntKind.i64.wrap ((3 : Int) * mC n) by omega) (by omega)
  have e := w8n (n := x % IntKind.i64.wrap ((3 : Int) * mC n) + mS n) (by omega) (by omega)
  exact knownR_law (lsA n x y ck a0 (by omega) (by omega) (by rw [e]; omega) (by rw [e]; omega) hg (decide_eq_false hlt) (p1 1) (p2 1 (by decide) (by decide)) (p1 2) (p3 2 (by decide) (by decide)) (p1 3) (p3 3 (by decide) (by decide)) (p1 4) (p2 4 (by decide) (by decide)) (p1 5) (p2 5 (by decide) (by decide)) p4) (LaidL.nil w) harg
end Go.Proofs.Ytaogbagopdlkmaa
