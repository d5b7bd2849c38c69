/- Layer 9: Path and Nearest, of both. -/
import Derived.Test.YtaohbffjfedcgaaMp
import Derived.Test.YtaohbffjfedcgaaOgQ
import Derived.Test.YtaohbffjfedcgaaOgR
namespace Go.Proofs.Ytaohbffjfedcgaa
open Go Go.RowKit
set_option linter.unusedVariables false
set_option linter.unusedSimpArgs false
theorem vM_b {p g s m : Int} (h : vM p g s m) : (0 ≤ p ∧ p ≤ 63000 ∧ 0 ≤ g ∧ g ≤ 63000) ∧ (1 ≤ m ∧ m ≤ 20 ∧ 0 ≤ s ∧ s ≤ m) := by
  obtain ⟨a1, a2, a3, a4, a5, a6, a7, a8, a9⟩ := h
  exact ⟨⟨a1, a2, a3, a4⟩, a5, a6, a7, a8⟩
theorem rst_gt {p g : Int} (h : 0 ≤ p ∧ p ≤ 63000 ∧ 0 ≤ g ∧ g ≤ 63000) : (if IntKind.i64.wrap (g - p) > IntKind.i64.wrap (p - g) then IntKind.i64.wrap (g - p) else IntKind.i64.wrap (p - g)) = rst p g := by
  rw [w8 (v := p - g) (by omega), w8 (v := g - p) (by omega), rst_max']
noncomputable def nrW (p g s m : Int) : Int := if ckM p g s m = 0 then (if g < p then p - rT (s - 1) else p + rT (s - 1)) else 0
theorem rT_m1 : rT (0 - 1) = 0 := by decide
theorem rT_b1 {s : Int} (h0 : 0 ≤ s) (h : s ≤ 20) : 0 ≤ rT (s - 1) ∧ rT (s - 1) ≤ 231 := by
  rcases (by omega : s = 0 ∨ 1 ≤ s) with e | e
  · subst e; rw [rT_m1]; omega
  · exact rT_bound (by omega) (by omega)
theorem pNear_is (p g s m : Int) : Known Try.prog [] 19 [.agg #[.int .i64 p, .int .i64 g, .int .i64 s, .int .i64 m]] (.tuple #[.int .i64 (nrW p g s m), .int .i64 (ckM p g s m)]) := by
  unfold nrW
  by_cases h : ckM p g s m = 0
  · have hv := ckM_ok.1 h
    have hb := vM_b hv
    have k := pNr p g s m hb.1 hb.2 h
    have t := rT_b1 (s := s) (by omega) (by omega)
    rw [if_pos h, h]
    have e : pNr_c0 p g s m = if g < p then p - rT (s - 1) else p + rT (s - 1) := by
      unfold pNr_c0
      simp (disch := omega) only [w8]
      rw [Bool.cond_decide]
      split <;> omega
    rw [e] at k
    exact k
  · rw [if_neg h]
    exact pNrE p g s m h
theorem rNear_is (p g s m : Int) : Known Try.prog [] 20 [.agg #[.int .i64 p, .int .i64 g, .int .i64 s, .int .i64 m]] (.tuple #[.int .i64 (nrW p g s m), .int .i64 (ckM p g s m)]) := by
  unfold nrW
  by_cases h : ckM p g s m = 0
  · have hv := ckM_ok.1 h
    have hb := vM_b hv
    have k := rNr p g s m hb.1 hb.2 h
    have t := rT_b1 (s := s) (by omega) (by omega)
    rw [if_pos h, h]
    have e : rNr_c0 p g s m = if g < p then p - rT (s - 1) else p + rT (s - 1) := by
      unfold rNr_c0
      simp (disch := omega) only [w8]
      rw [bq, Bool.cond_decide, Bool.cond_decide]
      by_cases z : s = 0
      · subst z; rw [rT_m1]; split <;> split <;> omega
      · rw [if_neg z]; split <;> omega
    rw [e] at k
    exact k
  · rw [if_neg h]
    exact rNrE p g s m h
theorem rPt_go {p g s m n : Int} (hn : n ≤ 1000) : ∀ (k : Nat) {y0 : List Int} {y1 y2 y3 : Int}, n - y1 = k → vM y2 g y3 m → 0 ≤ y1 → (y0.length : Int) ≤ y1 → ∃ z1 z2 z3, rPt_f p g s m n (k + 1) y0 y1 y2 y3 = some (0, ((ptN g m k y2 y3).reverse ++ y0, z1, z2, z3)) := by
  intro k
  induction k with
  | zero =>
    intro y0 y1 y2 y3 hk hv h0 hy
    have hb := vM_b hv
    rw [rPt_fs, bif_dT ⟨ckM_ok.2 hv, by omega, by omega, by omega, by omega, by omega⟩, bif_dF (by omega)]
    exact ⟨_, _, _, rfl⟩
  | succ k ih =>
    intro y0 y1 y2 y3 hk hv h0 hy
    have hb := vM_b hv
    rw [rPt_fs, bif_dT ⟨ckM_ok.2 hv, by omega, by omega, by omega, by omega, by omega⟩, bif_dT (by omega), rst_gt hb.1]
    unfold ptN
    by_cases e : y2 = g
    · rw [if_pos e, bif_dF (by unfold rst; omega)]; exact ⟨_, _, _, rfl⟩
    · rw [if_neg e, bif_dT (by unfold rst; omega), w8 (by omega)]
      obtain ⟨z1, z2, z3, h2⟩ := ih (y0 := tkP y2 g y3 m :: y0) (y1 := y1 + 1) (by omega) (tk_ok hv) (by omega) (by rw [List.length_cons]; omega)
      refine ⟨z1, z2, z3, h2.trans ?_⟩
      rw [List.reverse_cons, List.append_assoc]; rfl
/-- a path, and its error -/
noncomputable def ptL (p g s m n : Int) : List Int := if ckM p g s m = 0 ∧ 0 ≤ n ∧ n ≤ 1000 then ptN g m n.toNat p s else []
noncomputable def ptX (p g s m n : Int) : Int := if ckM p g s m = 0 then (if 0 ≤ n ∧ n ≤ 1000 then 0 else 2) else ckM p g s m
theorem pPath_is (p g s m n : Int) : KnownR Try.prog [] 22 [.val (.agg #[.int .i64 p, .int .i64 g, .int .i64 s, .int .i64 m]), .val (.int .i64 n)] (.tuple #[.complex .f64 0 (ptL p g s m n).length, .int .i64 (ptX p g s m n)]) [(rowA gI (ptL p g s m n), 3)] := by
  unfold ptL ptX
  by_cases h : ckM p g s m = 0 ∧ 0 ≤ n ∧ n ≤ 1000
  · rw [if_pos h, if_pos h.1, if_pos h.2]
    have hv := ckM_ok.1 h.1
    have hb := vM_b hv
    rcases (by omega : n = 0 ∨ 1 ≤ n) with e | e
    · subst e
      exact pPt0 p g s m 0 hb.1 hb.2 h.1 rfl
    · obtain ⟨kk, z1, z2, z3, hkk, hf⟩ := pPt_go (p := p) (s := s) (n := n) h.2.2 (n.toNat - 1) (y0 := []) (y3 := 0) (by omega) hv (by omega) (by simp)
      have ho := pPt_ok p g s m n hb.1 hb.2 h.1 ⟨e, h.2.2⟩ _ _ _ hf
      dsimp only at ho
      have e1 : n.toNat - 1 + 1 = n.toNat := by omega
      rw [e1] at ho
      rcases hkk with rfl | rfl
      · have k := pPtK p g s m n _ _ _ _ hb.1 hb.2 h.1 ⟨e, h.2.2⟩ (by simp [h.1]) (decide_eq_false (by omega)) (decide_eq_false (by omega)) (by simp; omega) ho
        have e2 : pPtK_c0 p g s m n ((ptN g m n.toNat p s).reverse ++ []) z1 z2 z3 = ptN g m n.toNat p s := by unfold pPtK_c0; simp
        rw [e2] at k; exact k
      · have k := pPtL p g s m n _ _ _ _ hb.1 hb.2 h.1 ⟨e, h.2.2⟩ (by simp [h.1]) (decide_eq_false (by omega)) (decide_eq_false (by omega)) (by simp; omega) ho
        have e2 : pPtL_c0 p g s m n ((ptN g m n.toNat p s).reverse ++ []) z1 z2 z3 = ptN g m n.toNat p s := by unfold pPtL_c0; simp
        rw [e2] at k; exact k
  · rw [if_neg h]
    have k := pPtE p g s m n h
    have e : pPtE_c1 p g s m n = if ckM p g s m = 0 then (if 0 ≤ n ∧ n ≤ 1000 then 0 else 2) else ckM p g s m := by
      unfold pPtE_c1
      by_cases h1 : ckM p g s m = 0
      · rw [if_pos h1, if_neg (fun h2 => h ⟨h1, h2⟩), h1]; rfl
      · rw [if_neg h1, show (ckM p g s m != 0) = true by simpa using h1, cond_true]
    rw [e] at k; exact k
theorem rPath_is (p g s m n : Int) : KnownR Try.prog [] 23 [.val (.agg #[.int .i64 p, .int .i64 g, .int .i64 s, .int .i64 m]), .val (.int .i64 n)] (.tuple #[.complex .f64 0 (ptL p g s m n).length, .int .i64 (ptX p g s m n)]) [(rowA gI (ptL p g s m n), 3)] := by
  unfold ptL ptX
  by_cases h : ckM p g s m = 0 ∧ 0 ≤ n ∧ n ≤ 1000
  · rw [if_pos h, if_pos h.1, if_pos h.2]
    have hv := ckM_ok.1 h.1
    have hb := vM_b hv
    obtain ⟨z1, z2, z3, hf⟩ := rPt_go (p := p) (s := s) (n := n) h.2.2 n.toNat (y0 := []) (y1 := 0) (by omega) hv (by omega) (by simp)
    have ho := rPt_ok p g s m n h.2 h.1 hb.1 _ _ _ hf
    dsimp only at ho
    have k := rPtK p g s m n _ _ _ _ h.2 h.1 hb.1 (by simp [h.1]) (decide_eq_false (by omega)) (decide_eq_false (by omega)) (by simp [h.1]) ho
    have e2 : rPtK_c0 p g s m n ((ptN g m n.toNat p s).reverse ++ []) z1 z2 z3 = ptN g m n.toNat p s := by unfold rPtK_c0; simp
    rw [e2] at k; exact k
  · rw [if_neg h]
    have k := rPtE p g s m n h
    have e : rPtE_c1 p g s m n = if ckM p g s m = 0 then (if 0 ≤ n ∧ n ≤ 1000 then 0 else 2) else ckM p g s m := by
      unfold rPtE_c1
      by_cases h1 : ckM p g s m = 0
      · rw [if_pos h1, if_neg (fun h2 => h ⟨h1, h2⟩), h1]; rfl
      · rw [if_neg h1, show (ckM p g s m == 0) = false by simpa using h1, cond_false]
    rw [e] at k; exact k
theorem ptL_len (p g s m n : Int) : (ptL p g s m n).length ≤ 1000 := by
  unfold ptL
  split
  · rename_i h
    exact Nat.le_trans (ptN_len _ _ _) (by omega)
  · exact Nat.zero_le _
end Go.Proofs.Ytaohbffjfedcgaa
