/- Layer 9: MotionKeeps, out of its contract. -/
import Derived.Test.YtaohbffjfedcgaaOgH
namespace Go.Proofs.Ytaohbffjfedcgaa
open Go Go.RowKit
set_option linter.unusedVariables false
def In64 (n : Int) : Prop := -9223372036854775808 ≤ n ∧ n ≤ 9223372036854775807
theorem kp_inv {G M y1 y2 : Int} (hv : vM y1 G y2 M) (hG : 0 ≤ G ∧ G ≤ 299) (hy : 0 ≤ y1 ∧ y1 ≤ 299) : 0 ≤ y2 ∧ y2 ≤ M ∧ ckM y1 G y2 M = 0 ∧ ckM (tkP y1 G y2 M) G (tkS y1 G y2 M) M = 0 ∧ 0 ≤ tkP y1 G y2 M ∧ tkP y1 G y2 M ≤ 299 ∧ 0 ≤ lfV y1 G y2 M ∧ lfV y1 G y2 M ≤ 300 ∧ lfV (tkP y1 G y2 M) G (tkS y1 G y2 M) M ≤ 300 ∧ 0 ≤ lfV (tkP y1 G y2 M) G (tkS y1 G y2 M) M ∧ ((y1 = G ∧ lfV y1 G y2 M = 0 ∧ tkP y1 G y2 M = y1 ∧ tkS y1 G y2 M = y2) ∨ (G < y1 ∧ lfV (tkP y1 G y2 M) G (tkS y1 G y2 M) M = lfV y1 G y2 M - 1 ∧ G ≤ tkP y1 G y2 M ∧ tkP y1 G y2 M < y1 ∧ y1 - tkP y1 G y2 M ≤ M ∧ y1 - tkP y1 G y2 M - y2 ≤ 1 ∧ y2 - (y1 - tkP y1 G y2 M) ≤ 1 ∧ ((tkP y1 G y2 M = G ∧ tkS y1 G y2 M = 0) ∨ (tkP y1 G y2 M ≠ G ∧ tkS y1 G y2 M = y1 - tkP y1 G y2 M))) ∨ (y1 < G ∧ lfV (tkP y1 G y2 M) G (tkS y1 G y2 M) M = lfV y1 G y2 M - 1 ∧ tkP y1 G y2 M ≤ G ∧ y1 < tkP y1 G y2 M ∧ tkP y1 G y2 M - y1 ≤ M ∧ tkP y1 G y2 M - y1 - y2 ≤ 1 ∧ y2 - (tkP y1 G y2 M - y1) ≤ 1 ∧ ((tkP y1 G y2 M = G ∧ tkS y1 G y2 M = 0) ∨ (tkP y1 G y2 M ≠ G ∧ tkS y1 G y2 M = tkP y1 G y2 M - y1)))) := by
  have hb := vM_b hv
  have ht := tk_ok hv
  have hl := lfV_bb hv
  have hl2 := lfV_bb ht
  have hp := tk_between hv hy hG
  have hr : rst y1 G = if G ≤ y1 then y1 - G else G - y1 := rfl
  have hr2 : rst (tkP y1 G y2 M) G = if G ≤ tkP y1 G y2 M then tkP y1 G y2 M - G else G - tkP y1 G y2 M := rfl
  refine ⟨hb.2.2.2.1, hb.2.2.2.2, ckM_ok.2 hv, ckM_ok.2 ht, hp.1, hp.2, hl.1, by omega, by omega, hl2.1, ?_⟩
  by_cases e : y1 = G
  · left
    subst e
    have t := tk_eq hv
    exact ⟨rfl, lfV_eq, t.1, by rw [t.2.1, t.2.2]⟩
  · right
    have ha := tk_all hv e
    have h1 := lfV_step hv e
    have e1 : tkP y1 G y2 M = if G < y1 then y1 - nxV M y2 (rst y1 G) else y1 + nxV M y2 (rst y1 G) := by unfold tkP; omega
    have e2 : tkS y1 G y2 M = if nxV M y2 (rst y1 G) = rst y1 G then 0 else nxV M y2 (rst y1 G) := by unfold tkS; rw [if_neg e]
    generalize nxV M y2 (rst y1 G) = w at *
    generalize lfV (tkP y1 G y2 M) G (tkS y1 G y2 M) M = l2 at *
    generalize lfV y1 G y2 M = l1 at *
    by_cases c : G < y1
    · left
      rw [if_pos c] at e1
      refine ⟨c, by omega, by omega, by omega, by omega, by omega, by omega, ?_⟩
      by_cases q : w = rst y1 G
      · rw [if_pos q] at e2; left; exact ⟨by omega, e2⟩
      · rw [if_neg q] at e2; right; exact ⟨by omega, by omega⟩
    · right
      rw [if_neg c] at e1
      refine ⟨by omega, by omega, by omega, by omega, by omega, by omega, by omega, ?_⟩
      by_cases q : w = rst y1 G
      · rw [if_pos q] at e2; left; exact ⟨by omega, e2⟩
      · rw [if_neg q] at e2; right; exact ⟨by omega, by omega⟩
theorem kpA_go {pos goal most ticks : Int} (hG : 0 ≤ moG goal ∧ moG goal ≤ 299) : ∀ (k : Nat) {y0 y1 y2 : Int}, lfV y1 (moG goal) y2 (moM most) = k → 0 ≤ y0 → y0 + k ≤ 399 → vM y1 (moG goal) y2 (moM most) → 0 ≤ y1 ∧ y1 ≤ 299 → ∃ z0 z2, kpA_f pos goal most ticks (k + 1) y0 y1 y2 = some (0, (z0, moG goal, z2)) ∧ vM (moG goal) (moG goal) z2 (moM most)
  | 0, y0, y1, y2, hk, h0, h1, hv, hy => by
    have hi := kp_inv hv hG hy
    have e : y1 = moG goal := by
      rcases (by omega : y1 = moG goal ∨ y1 ≠ moG goal) with e | e
      · exact e
      · have := lfV_step hv e; have := lfV_bb (tk_ok hv); omega
    refine ⟨y0, y2, ?_, by rw [e] at hv; exact hv⟩
    rw [kpA_fs, decide_eq_true ⟨h0, by omega, hy.1, hy.2, hi⟩, cond_true, decide_eq_true (by omega), cond_true, show (y1 == moG goal) = true by simpa using e, cond_true, e]
  | k + 1, y0, y1, y2, hk, h0, h1, hv, hy => by
    have hi := kp_inv hv hG hy
    have e : y1 ≠ moG goal := by intro e; rw [e, lfV_eq] at hk; omega
    have hs := lfV_step hv e
    obtain ⟨z0, z2, hf, hz⟩ := kpA_go (pos := pos) (ticks := ticks) hG k (y0 := y0 + 1) (y1 := tkP y1 (moG goal) y2 (moM most)) (y2 := tkS y1 (moG goal) y2 (moM most)) (by omega) (by omega) (by omega) (tk_ok hv) (tk_between hv hy hG)
    refine ⟨z0, z2, ?_, hz⟩
    rw [kpA_fs, decide_eq_true ⟨h0, by omega, hy.1, hy.2, hi⟩, cond_true, decide_eq_true (by omega), cond_true, show (y1 == moG goal) = false by simpa using e, cond_false, w8 (v := y0 + 1) (by omega), hf]
    simp
theorem keeps_one (pos goal most ticks : Int) : Known Try.prog [] 6 [.int .i64 pos, .int .i64 goal, .int .i64 most, .int .i64 ticks] (.bool true) := by
  have hv := mo_v pos goal most ticks
  have hG : 0 ≤ moG goal ∧ moG goal ≤ 299 := by unfold moG; omega
  have hb := vM_b hv
  have hy := mo_b pos goal most ticks
  have hl := lfV_bb hv
  have hr : rst (moP pos goal most ticks) (moG goal) = if moG goal ≤ moP pos goal most ticks then moP pos goal most ticks - moG goal else moG goal - moP pos goal most ticks := rfl
  obtain ⟨k, hk⟩ : ∃ k : Nat, lfV (moP pos goal most ticks) (moG goal) (moS pos goal most ticks) (moM most) = k := ⟨(lfV (moP pos goal most ticks) (moG goal) (moS pos goal most ticks) (moM most)).toNat, by omega⟩
  obtain ⟨z0, z2, hf, hz⟩ := kpA_go (pos := pos) (ticks := ticks) hG k (y0 := 0) hk (by omega) (by omega) hv hy
  have hlo := kpA_ok pos goal most ticks ⟨hb.2.1, hb.2.2.1⟩ hG _ _ _ hf
  have r := kpK pos goal most ticks _ _ _ ⟨hb.2.1, hb.2.2.1⟩ hG hlo
  have t := tk_eq hz
  rw [show kpK_c0 pos goal most ticks z0 (moG goal) z2 = true by unfold kpK_c0; rw [t.1, t.2.1, t.2.2]; simp] at r
  exact r
theorem motionKeeps_true (pos goal most ticks : Int) (w : World) (_ : In64 pos) (_ : In64 goal) (_ : In64 most) (_ : In64 ticks) : Calls Try.prog 6 #[.int .i64 pos, .int .i64 goal, .int .i64 most, .int .i64 ticks] w fun e w' => e = .returned (.bool true) ∧ Below w.heap.size w w' :=
  (keeps_one pos goal most ticks).2.2 w (LaidL.nil w)
end Go.Proofs.Ytaohbffjfedcgaa
