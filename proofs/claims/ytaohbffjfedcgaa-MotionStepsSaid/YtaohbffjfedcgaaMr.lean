/- Layer 9: the reference's functions. -/
import Derived.Test.YtaohbffjfedcgaaMe
import Derived.Test.YtaohbffjfedcgaaOgE
namespace Go.Proofs.Ytaohbffjfedcgaa
open Go Go.RowKit
set_option linter.unusedVariables false
set_option linter.unusedSimpArgs false
theorem rst_gt {p g : Int} (h : 0 ≤ p ∧ p ≤ 63000 ∧ 0 ≤ g ∧ g ≤ 63000) : (if IntKind.i64.wrap (g - p) > IntKind.i64.wrap (p - g) then IntKind.i64.wrap (g - p) else IntKind.i64.wrap (p - g)) = rst p g := by
  rw [w8 (v := p - g) (by omega), w8 (v := g - p) (by omega), rst_max']
theorem rLf_go {p g s m : Int} : ∀ (k : Nat) {y0 y1 y2 : Int}, lfV y1 g y2 m = k → vM y1 g y2 m → 0 ≤ y0 → y0 + k ≤ 70000 → ∃ z1 z2, rLf_f p g s m (k + 1) y0 y1 y2 = some (0, (y0 + k, z1, z2))
  | 0, y0, y1, y2, hk, hv, h0, h1 => by
    have e : y1 = g := by
      rcases (by omega : y1 = g ∨ y1 ≠ g) with e | e
      · exact e
      · have := lfV_step hv e; have := lfV_bb (tk_ok hv); omega
    have hb := vM_b hv
    refine ⟨y1, y2, ?_⟩
    rw [rLf_fs, bif_dT ⟨ckM_ok.2 hv, by omega, by omega, by omega, by omega⟩, rst_gt hb.1, bif_dF (by unfold rst; omega)]; simp
  | k + 1, y0, y1, y2, hk, hv, h0, h1 => by
    have e : y1 ≠ g := by intro e; subst e; rw [lfV_eq] at hk; omega
    have hb := vM_b hv
    obtain ⟨z0, z1, hf⟩ := rLf_go (p := p) (s := s) k (y0 := y0 + 1) (by have := lfV_step hv e; omega) (tk_ok hv) (by omega) (by omega)
    refine ⟨z0, z1, ?_⟩
    rw [rLf_fs, bif_dT ⟨ckM_ok.2 hv, by omega, by omega, by omega, by omega⟩, rst_gt hb.1, bif_dT (by unfold rst; omega), w8 (by omega), hf]
    simp; omega
theorem rLeft_is (p g s m : Int) : Known Try.prog [] 18 [.agg #[.int .i64 p, .int .i64 g, .int .i64 s, .int .i64 m]] (.tuple #[.int .i64 (lfW p g s m), .int .i64 (ckM p g s m)]) := by
  unfold lfW
  by_cases h : ckM p g s m = 0
  · have hv := ckM_ok.1 h
    have hb := vM_b hv
    have hl := lfV_bb hv
    have hr := rst_b hv
    obtain ⟨k, hk⟩ : ∃ k : Nat, lfV p g s m = k := ⟨(lfV p g s m).toNat, by omega⟩
    obtain ⟨z0, z1, hf⟩ := rLf_go (p := p) (s := s) k (y0 := 0) hk hv (by omega) (by omega)
    have hl := rLf_ok p g s m h hb.1 _ _ _ hf
    have r := rLfK p g s m _ _ _ h hb.1 (by simp [h]) hl
    rw [if_pos h, hk, h]
    rw [show rLfK_c0 p g s m (0 + (k : Int)) z0 z1 = (k : Int) by unfold rLfK_c0; omega] at r
    exact r
  · rw [if_neg h]
    exact rLfE p g s m h
theorem pStep_is (p g s m : Int) : Known Try.prog [] 13 [.agg #[.int .i64 p, .int .i64 g, .int .i64 s, .int .i64 m]] (.tuple #[.agg #[.int .i64 (rSp_c0 p g s m), .int .i64 (rSp_c1 p g s m), .int .i64 (rSp_c2 p g s m), .int .i64 (rSp_c3 p g s m)], .int .i64 (rSp_c4 p g s m)]) := by
  by_cases h : ckM p g s m = 0
  · have hv := ckM_ok.1 h
    have hb := vM_b hv
    have k := pSp p g s m hb.1 hb.2 h
    have e : (ckM p g s m != 0) = false := by simp [h]
    have c := pSp_eq hv
    rw [c.1, c.2] at k
    unfold rSp_c0 rSp_c1 rSp_c2 rSp_c3 rSp_c4
    rw [e]
    exact k
  · have k := pSpE p g s m h
    have e : (ckM p g s m != 0) = true := by simpa using h
    unfold rSp_c0 rSp_c1 rSp_c2 rSp_c3 rSp_c4
    rw [e]
    exact k
theorem rNear_is (p g s m : Int) : Known Try.prog [] 20 [.agg #[.int .i64 p, .int .i64 g, .int .i64 s, .int .i64 m]] (.tuple #[.int .i64 (nrW p g s m), .int .i64 (ckM p g s m)]) := by
  unfold nrW
  by_cases h : ckM p g s m = 0
  · have hv := ckM_ok.1 h
    have hb := vM_b hv
    have k := rNr p g s m hb.1 hb.2 h
    have t := rT_b1 (s := s) (by omega) (by omega)
    rw [if_pos h, h]
    have e : rNr_c0 p g s m = if g < p then p - rT (s - 1) else p + rT (s - 1) := by
      unfold rNr_c0
      simp (disch := omega) only [w8]
      rw [bq, Bool.cond_decide, Bool.cond_decide]
      by_cases z : s = 0
      · subst z; rw [rT_m1]; split <;> split <;> omega
      · rw [if_neg z]; split <;> omega
    rw [e] at k
    exact k
  · rw [if_neg h]
    exact rNrE p g s m h
theorem rStart_is (p g m : Int) : Known Try.prog [] 10 [.int .i64 p, .int .i64 g, .int .i64 m] (.tuple #[.agg #[.int .i64 (pSt_c0 p g m), .int .i64 (pSt_c1 p g m), .int .i64 0, .int .i64 (pSt_c3 p g m)], .int .i64 (pSt_c4 p g m)]) := by
  have k := rSt p g m
  have c : ckM p g 0 m = if 0 ≤ p ∧ p ≤ 63000 ∧ 0 ≤ g ∧ g ≤ 63000 ∧ 1 ≤ m ∧ m ≤ 20 then 0 else 2 := by
    unfold ckM
    split <;> (try split) <;> omega
  have e : rSt_c0 p g m = pSt_c0 p g m ∧ rSt_c1 p g m = pSt_c1 p g m ∧ rSt_c3 p g m = pSt_c3 p g m ∧ rSt_c4 p g m = pSt_c4 p g m := by
    unfold rSt_c0 rSt_c1 rSt_c3 rSt_c4 pSt_c0 pSt_c1 pSt_c3 pSt_c4
    rw [c]
    refine ⟨?_, ?_, ?_, ?_⟩
    all_goals repeat' (refine cond_split ?_ ?_ <;> intro)
    all_goals simp only [decide_eq_true_eq, decide_eq_false_iff_not, bnq, Bool.cond_decide] at *
    all_goals (split <;> omega)
  rw [e.1, e.2.1, e.2.2.1, e.2.2.2] at k
  exact k
theorem rRn_go {p g s m n : Int} (hn : n ≤ 100000) : ∀ (k : Nat) {y0 y1 y2 : Int}, n - y0 = k → vM y1 g y2 m → 0 ≤ y0 → ∃ z0, rRn_f p g s m n (k + 1) y0 y1 y2 = some (0, (z0, (itN g m k y1 y2).1, (itN g m k y1 y2).2))
  | 0, y0, y1, y2, hk, hv, h0 => by
    have hb := vM_b hv
    refine ⟨y0, ?_⟩
    rw [rRn_fs, bif_dT ⟨ckM_ok.2 hv, by omega, by omega, by omega, by omega⟩, bif_dF (by omega)]
    rfl
  | k + 1, y0, y1, y2, hk, hv, h0 => by
    have hb := vM_b hv
    by_cases e : y1 = g
    · have hv' := hv
      rw [e] at hv'
      refine ⟨y0, ?_⟩
      rw [rRn_fs, bif_dT ⟨ckM_ok.2 hv, by omega, by omega, by omega, by omega⟩, bif_dT (by omega), rst_gt hb.1, bif_dF (by unfold rst; omega), e, itN_rest _ hv']
    · obtain ⟨z0, hf⟩ := rRn_go (p := p) (s := s) hn k (y0 := y0 + 1) (by omega) (tk_ok hv) (by omega)
      refine ⟨z0, ?_⟩
      rw [rRn_fs, bif_dT ⟨ckM_ok.2 hv, by omega, by omega, by omega, by omega⟩, bif_dT (by omega), rst_gt hb.1, bif_dT (by unfold rst; omega), w8 (by omega), hf]
      rfl
theorem rRun_is (p g s m n : Int) : Known Try.prog [] 16 [.agg #[.int .i64 p, .int .i64 g, .int .i64 s, .int .i64 m], .int .i64 n] (.tuple #[.agg #[.int .i64 (rnP p g s m n), .int .i64 (rnG p g s m n), .int .i64 (rnS p g s m n), .int .i64 (rnM p g s m n)], .int .i64 (rnE p g s m n)]) := by
  by_cases h : ckM p g s m = 0 ∧ 0 ≤ n ∧ n ≤ 100000
  · have e : rnE p g s m n = 0 := by unfold rnE; rw [if_pos h.1, if_pos h.2]
    have hv := ckM_ok.1 h.1
    have hb := vM_b hv
    unfold rnP rnG rnS rnM
    rw [e]
    obtain ⟨k, hk⟩ : ∃ k : Nat, n.toNat = k := ⟨_, rfl⟩
    obtain ⟨z0, hf⟩ := rRn_go (p := p) (s := s) h.2.2 k (y0 := 0) (by omega) hv (by omega)
    have hl := rRn_ok p g s m n h.2 h.1 hb.1 _ _ _ hf
    dsimp only at hl
    rw [hk]
    exact rRnK p g s m n _ _ _ h.2 h.1 hb.1 (by simp [h.1]) (decide_eq_false (by omega)) (decide_eq_false (by omega)) (by simp [h.1]) hl
  · have e : rnE p g s m n ≠ 0 := by unfold rnE; split <;> (try split) <;> omega
    have r := rRnE p g s m n h
    unfold rnP rnG rnS rnM
    rw [if_neg e, if_neg e, if_neg e, if_neg e]
    rw [show rRnE_c4 p g s m n = rnE p g s m n by
      unfold rRnE_c4 rnE
      by_cases c : ckM p g s m = 0
      · rw [show (ckM p g s m == 0) = true by simp [c], cond_true, if_pos c, if_neg (fun q => h ⟨c, q⟩)]
      · rw [show (ckM p g s m == 0) = false by simpa using c, cond_false, if_neg c]] at r
    exact r
end Go.Proofs.Ytaohbffjfedcgaa
