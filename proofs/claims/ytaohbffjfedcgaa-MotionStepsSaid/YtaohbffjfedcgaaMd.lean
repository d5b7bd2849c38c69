/- Layer 9: Left, Step, Nearest, Start: one way for program and reference. -/
import Derived.Test.YtaohbffjfedcgaaMc
import Derived.Test.YtaohbffjfedcgaaOgE0
import Derived.Test.YtaohbffjfedcgaaOgF
namespace Go.Proofs.Ytaohbffjfedcgaa
open Go Go.RowKit
set_option linter.unusedVariables false
set_option linter.unusedSimpArgs false
theorem vM_b {p g s m : Int} (h : vM p g s m) : (0 ≤ p ∧ p ≤ 63000 ∧ 0 ≤ g ∧ g ≤ 63000) ∧ (1 ≤ m ∧ m ≤ 20 ∧ 0 ≤ s ∧ s ≤ m) := by
  obtain ⟨a1, a2, a3, a4, a5, a6, a7, a8, a9⟩ := h
  exact ⟨⟨a1, a2, a3, a4⟩, a5, a6, a7, a8⟩
/-- ticks left, with enough fuel -/
def lfN (g m : Int) : Nat → Int → Int → Int
  | 0, _, _ => 0
  | k + 1, p, s => if p = g then 0 else 1 + lfN g m k (tkP p g s m) (tkS p g s m)
def lfV (p g s m : Int) : Int := lfN g m (rst p g).toNat p s
theorem lfN_stab {g m : Int} : ∀ (k j : Nat) {p s : Int}, vM p g s m → rst p g ≤ k → rst p g ≤ j → lfN g m k p s = lfN g m j p s
  | 0, 0, p, s, _, _, _ => rfl
  | 0, j + 1, p, s, h, h1, h2 => by
    have : p = g := by unfold rst at h1; omega
    simp only [lfN, if_pos this]
  | k + 1, 0, p, s, h, h1, h2 => by
    have : p = g := by unfold rst at h2; omega
    simp only [lfN, if_pos this]
  | k + 1, j + 1, p, s, h, h1, h2 => by
    by_cases e : p = g
    · simp only [lfN, if_pos e]
    · have ha := tk_all h e
      simp only [lfN, if_neg e]
      rw [lfN_stab k j (tk_ok h) (by omega) (by omega)]
theorem lfV_eq {g s m : Int} : lfV g g s m = 0 := by
  unfold lfV
  have : rst g g = 0 := by unfold rst; omega
  rw [this]; rfl
theorem lfV_step {p g s m : Int} (h : vM p g s m) (e : p ≠ g) : lfV p g s m = 1 + lfV (tkP p g s m) g (tkS p g s m) m := by
  have ha := tk_all h e
  have hr : 1 ≤ rst p g := by omega
  unfold lfV
  obtain ⟨k, hk⟩ : ∃ k : Nat, (rst p g).toNat = k + 1 := ⟨(rst p g).toNat - 1, by omega⟩
  rw [hk]
  simp only [lfN, if_neg e]
  rw [lfN_stab k _ (tk_ok h) (by omega) (by omega : rst (tkP p g s m) g ≤ ((rst (tkP p g s m) g).toNat : Nat))]
theorem lfV_b {g m : Int} : ∀ (k : Nat) {p s : Int}, vM p g s m → rst p g ≤ k → 0 ≤ lfV p g s m ∧ lfV p g s m ≤ rst p g
  | 0, p, s, h, h1 => by
    have : p = g := by unfold rst at h1; omega
    subst this
    rw [lfV_eq]; exact ⟨Int.le_refl 0, rst_nn⟩
  | k + 1, p, s, h, h1 => by
    by_cases e : p = g
    · subst e
      rw [lfV_eq]; exact ⟨Int.le_refl 0, rst_nn⟩
    · have ha := tk_all h e
      have := lfV_b k (tk_ok h) (by omega)
      rw [lfV_step h e]; omega
theorem lfV_bb {p g s m : Int} (h : vM p g s m) : 0 ≤ lfV p g s m ∧ lfV p g s m ≤ rst p g := lfV_b (rst p g).toNat h (by omega)
theorem rst_b {p g s m : Int} (h : vM p g s m) : 0 ≤ rst p g ∧ rst p g ≤ 63000 := by
  have := (vM_b h).1; unfold rst; omega
theorem pLf_go {p g s m : Int} : ∀ (k : Nat) {y0 y1 y2 : Int}, lfV y0 g y1 m = k → vM y0 g y1 m → 0 ≤ y2 → y2 + k ≤ 70000 → ∃ z0 z1, pLf_f p g s m (k + 1) y0 y1 y2 = some (0, (z0, z1, y2 + k))
  | 0, y0, y1, y2, hk, hv, h0, h1 => by
    have e : y0 = g := by
      rcases (by omega : y0 = g ∨ y0 ≠ g) with e | e
      · exact e
      · have := lfV_step hv e; have := lfV_bb (tk_ok hv); omega
    refine ⟨y0, y1, ?_⟩
    rw [pLf_step _ hv ⟨h0, by omega⟩, if_pos e]; simp
  | k + 1, y0, y1, y2, hk, hv, h0, h1 => by
    have e : y0 ≠ g := by intro e; subst e; rw [lfV_eq] at hk; omega
    obtain ⟨z0, z1, hf⟩ := pLf_go (p := p) (s := s) k (y2 := y2 + 1) (by have := lfV_step hv e; omega) (tk_ok hv) (by omega) (by omega)
    refine ⟨z0, z1, ?_⟩
    rw [pLf_step _ hv ⟨h0, by omega⟩, if_neg e, hf]
    simp; omega
noncomputable def lfW (p g s m : Int) : Int := if ckM p g s m = 0 then lfV p g s m else 0
theorem pLeft_is (p g s m : Int) : Known Try.prog [] 17 [.agg #[.int .i64 p, .int .i64 g, .int .i64 s, .int .i64 m]] (.tuple #[.int .i64 (lfW p g s m), .int .i64 (ckM p g s m)]) := by
  unfold lfW
  by_cases h : ckM p g s m = 0
  · have hv := ckM_ok.1 h
    have hb := vM_b hv
    have hl := lfV_bb hv
    have hr := rst_b hv
    obtain ⟨k, hk⟩ : ∃ k : Nat, lfV p g s m = k := ⟨(lfV p g s m).toNat, by omega⟩
    obtain ⟨z0, z1, hf⟩ := pLf_go (p := p) (s := s) k (y2 := 0) hk hv (by omega) (by omega)
    have hl := pLf_ok p g s m hb.1 hb.2 h _ _ _ hf
    have r := pLfK p g s m _ _ _ hb.1 hb.2 h (by simp [h]) hl
    rw [if_pos h, hk, h]
    rw [show pLfK_c0 p g s m z0 z1 (0 + (k : Int)) = (k : Int) by unfold pLfK_c0; omega] at r
    exact r
  · rw [if_neg h]
    exact pLfE p g s m h
set_option maxHeartbeats 4000000 in
theorem pSp_eq {p g s m : Int} (hv : vM p g s m) : pSp_c0 p g s m = tkP p g s m ∧ pSp_c2 p g s m = tkS p g s m := by
  have hw := hv
  obtain ⟨a1, a2, a3, a4, a5, a6, a7, a8, a9⟩ := hv
  unfold pSp_c0 pSp_c2
  simp (disch := omega) only [w8, rst_max]
  have hr : rst p g = if g ≤ p then p - g else g - p := rfl
  by_cases e : p = g
  · subst e
    have t := tk_eq hw
    rw [t.1, t.2.1]
    have t2 := t.2.2
    clear t
    subst t2
    have z1 : rT 1 = 1 := by decide
    have z0 : rT 0 = 0 := by decide
    have z2 : rst p p = 0 := by unfold rst; omega
    rw [z2]
    simp only [Int.zero_add, z1, z0]
    constructor
    all_goals repeat' (refine cond_split ?_ ?_ <;> intro)
    all_goals simp only [decide_eq_true_eq, decide_eq_false_iff_not, Bool.not_eq_true', Bool.not_eq_false', beq_iff_eq, beq_eq_false_iff_ne, ne_eq, rst] at *
    all_goals omega
  · have ha := tk_all hw e
    have hn := nxV_is (m := m) (v := s) (l := rst p g) a7 a8 a5 (by omega) (by omega)
    have e1 : tkP p g s m = if g < p then p - nxV m s (rst p g) else p + nxV m s (rst p g) := by unfold tkP; omega
    have e2 : tkS p g s m = if nxV m s (rst p g) = rst p g then 0 else nxV m s (rst p g) := by unfold tkS; rw [if_neg e]
    have ts := rT_succ (v := s)
    have tp := rT_pred (v := s)
    unfold NextV at hn
    rw [e1, e2]
    have ha1 := ha.1
    clear ha e1 e2 hw
    generalize nxV m s (rst p g) = n at *
    generalize rst p g = r at *
    rcases hn with ⟨g1, k1, k2⟩ | ⟨g1, k1, k2, k3⟩ | ⟨g1, k1, k2, k3⟩
    all_goals subst g1
    all_goals constructor
    all_goals repeat' (refine cond_split ?_ ?_ <;> intro)
    all_goals simp only [decide_eq_true_eq, decide_eq_false_iff_not, Bool.not_eq_true', Bool.not_eq_false', beq_iff_eq, beq_eq_false_iff_ne, ne_eq, rst] at *
    all_goals omega
noncomputable def nrW (p g s m : Int) : Int := if ckM p g s m = 0 then (if g < p then p - rT (s - 1) else p + rT (s - 1)) else 0
theorem rT_m1 : rT (0 - 1) = 0 := by decide
theorem rT_b1 {s : Int} (h0 : 0 ≤ s) (h : s ≤ 20) : 0 ≤ rT (s - 1) ∧ rT (s - 1) ≤ 231 := by
  rcases (by omega : s = 0 ∨ 1 ≤ s) with e | e
  · subst e; rw [rT_m1]; omega
  · exact rT_bound (by omega) (by omega)
theorem pNear_is (p g s m : Int) : Known Try.prog [] 19 [.agg #[.int .i64 p, .int .i64 g, .int .i64 s, .int .i64 m]] (.tuple #[.int .i64 (nrW p g s m), .int .i64 (ckM p g s m)]) := by
  unfold nrW
  by_cases h : ckM p g s m = 0
  · have hv := ckM_ok.1 h
    have hb := vM_b hv
    have k := pNr p g s m hb.1 hb.2 h
    have t := rT_b1 (s := s) (by omega) (by omega)
    rw [if_pos h, h]
    have e : pNr_c0 p g s m = if g < p then p - rT (s - 1) else p + rT (s - 1) := by
      unfold pNr_c0
      simp (disch := omega) only [w8]
      rw [Bool.cond_decide]
      split <;> omega
    rw [e] at k
    exact k
  · rw [if_neg h]
    exact pNrE p g s m h
theorem step_ok {p g s m : Int} (h : ckM p g s m = 0) : Known Try.prog [] 13 [.agg #[.int .i64 p, .int .i64 g, .int .i64 s, .int .i64 m]] (.tuple #[.agg #[.int .i64 (tkP p g s m), .int .i64 g, .int .i64 (tkS p g s m), .int .i64 m], .int .i64 0]) := by
  have hv := ckM_ok.1 h
  have hb := vM_b hv
  have k := pSp p g s m hb.1 hb.2 h
  have c := pSp_eq hv
  rw [c.1, c.2] at k
  exact k
end Go.Proofs.Ytaohbffjfedcgaa
