/- Layer 9: Run, one way for program and reference. -/
import Derived.Test.YtaohbffjfedcgaaMd
import Derived.Test.YtaohbffjfedcgaaOgC
namespace Go.Proofs.Ytaohbffjfedcgaa
open Go Go.RowKit
set_option linter.unusedVariables false
set_option linter.unusedSimpArgs false
set_option maxHeartbeats 4000000 in
theorem pRn_step {p g s m n : Int} (fu : Nat) {y0 y1 y2 : Int} (hv : vM y0 g y1 m) (h2 : 0 ≤ y2 ∧ y2 < n) (hn : n ≤ 100000) :
    pRn_f p g s m n (fu + 1) y0 y1 y2 = if y0 = g then some (1, (y0, y1, y2)) else if y2 + 1 = n then some (0, (tkP y0 g y1 m, tkS y0 g y1 m, y2 + 1)) else pRn_f p g s m n fu (tkP y0 g y1 m) (tkS y0 g y1 m) (y2 + 1) := by
  have hw := hv
  obtain ⟨a1, a2, a3, a4, a5, a6, a7, a8, a9⟩ := hv
  rw [pRn_fs, bif_dT (by omega)]
  simp (disch := omega) only [w8, rst_max]
  have hr : rst y0 g = if g ≤ y0 then y0 - g else g - y0 := rfl
  by_cases e : y0 = g
  · rw [if_pos e, bif_dF (by omega)]
  · rw [if_neg e, bif_dT (by omega)]
    have ha := tk_all hw e
    have hnx := nxV_is (m := m) (v := y1) (l := rst y0 g) a7 a8 a5 (by omega) (by omega)
    have e1 : tkP y0 g y1 m = if g < y0 then y0 - nxV m y1 (rst y0 g) else y0 + nxV m y1 (rst y0 g) := by unfold tkP; omega
    have e2 : tkS y0 g y1 m = if nxV m y1 (rst y0 g) = rst y0 g then 0 else nxV m y1 (rst y0 g) := by unfold tkS; rw [if_neg e]
    have ts := rT_succ (v := y1)
    have tp := rT_pred (v := y1)
    unfold NextV at hnx
    rw [e1, e2]
    have ha1 := ha.1
    clear ha e1 e2 hw
    generalize nxV m y1 (rst y0 g) = x at *
    generalize rst y0 g = r at *
    by_cases hq : y2 + 1 = n
    all_goals first | rw [if_pos hq] | rw [if_neg hq]
    all_goals rcases hnx with ⟨g1, k1, k2⟩ | ⟨g1, k1, k2, k3⟩ | ⟨g1, k1, k2, k3⟩
    all_goals subst g1
    all_goals repeat' (refine cond_split ?_ ?_ <;> intro)
    all_goals simp only [decide_eq_true_eq, decide_eq_false_iff_not, Bool.not_eq_true', Bool.not_eq_false', beq_iff_eq, beq_eq_false_iff_ne, ne_eq, rst] at *
    all_goals first
      | (exfalso; omega)
      | (congr 1 <;> omega)
      | (simp only [Option.some.injEq, Prod.mk.injEq, true_and, and_true]; omega)
/-- so many ticks -/
def itN (g m : Int) : Nat → Int → Int → Int × Int
  | 0, p, s => (p, s)
  | k + 1, p, s => itN g m k (tkP p g s m) (tkS p g s m)
theorem itN_rest {g m s : Int} : ∀ (k : Nat), vM g g s m → itN g m k g s = (g, s)
  | 0, h => rfl
  | k + 1, h => by
    have t := tk_eq h
    simp only [itN]
    rw [t.1, t.2.1]
    have := itN_rest k h
    rw [t.2.2] at this ⊢
    exact this
theorem itN_ok {g m : Int} : ∀ (k : Nat) {p s : Int}, vM p g s m → vM (itN g m k p s).1 g (itN g m k p s).2 m
  | 0, p, s, h => h
  | k + 1, p, s, h => itN_ok k (tk_ok h)
theorem pRn_go {p g s m n : Int} (hn : n ≤ 100000) : ∀ (k : Nat) {y0 y1 y2 : Int}, n - y2 = (k + 1 : Nat) → vM y0 g y1 m → 0 ≤ y2 → ∃ kk z2, kk ≤ 1 ∧ pRn_f p g s m n (k + 1) y0 y1 y2 = some (kk, ((itN g m (k + 1) y0 y1).1, (itN g m (k + 1) y0 y1).2, z2))
  | 0, y0, y1, y2, hk, hv, h0 => by
    rw [pRn_step _ hv ⟨h0, by omega⟩ hn]
    by_cases e : y0 = g
    · subst e
      rw [if_pos rfl, itN_rest _ hv]
      exact ⟨1, _, by omega, rfl⟩
    · rw [if_neg e, if_pos (by omega)]
      exact ⟨0, _, by omega, rfl⟩
  | k + 1, y0, y1, y2, hk, hv, h0 => by
    rw [pRn_step _ hv ⟨h0, by omega⟩ hn]
    by_cases e : y0 = g
    · subst e
      rw [if_pos rfl, itN_rest _ hv]
      exact ⟨1, _, by omega, rfl⟩
    · rw [if_neg e, if_neg (by omega)]
      exact pRn_go hn k (by omega) (tk_ok hv) (by omega)
noncomputable def rnE (p g s m n : Int) : Int := if ckM p g s m = 0 then (if 0 ≤ n ∧ n ≤ 100000 then 0 else 2) else ckM p g s m
noncomputable def rnP (p g s m n : Int) : Int := if rnE p g s m n = 0 then (itN g m n.toNat p s).1 else 0
noncomputable def rnG (p g s m n : Int) : Int := if rnE p g s m n = 0 then g else 0
noncomputable def rnS (p g s m n : Int) : Int := if rnE p g s m n = 0 then (itN g m n.toNat p s).2 else 0
noncomputable def rnM (p g s m n : Int) : Int := if rnE p g s m n = 0 then m else 0
theorem run_ok {p g s m n : Int} (hc : ckM p g s m = 0) (hn : 0 ≤ n ∧ n ≤ 100000) : Known Try.prog [] 15 [.agg #[.int .i64 p, .int .i64 g, .int .i64 s, .int .i64 m], .int .i64 n] (.tuple #[.agg #[.int .i64 (itN g m n.toNat p s).1, .int .i64 g, .int .i64 (itN g m n.toNat p s).2, .int .i64 m], .int .i64 0]) := by
  have hv := ckM_ok.1 hc
  have hb := vM_b hv
  by_cases h0 : n = 0
  · have r := pRn0 p g s m n hb.1 hb.2 hc h0
    subst h0
    exact r
  · obtain ⟨k, hk⟩ : ∃ k : Nat, n.toNat = k + 1 := ⟨n.toNat - 1, by omega⟩
    obtain ⟨kk, z2, h1, hf⟩ := pRn_go (p := p) (s := s) hn.2 k (y2 := 0) (by omega) hv (by omega)
    have hl := pRn_ok p g s m n hb.1 hb.2 hc (by omega) _ _ _ hf
    rw [hk]
    have d1 : (ckM p g s m != 0) = false := by simp [hc]
    have d2 : (n == 0) = false := by simpa using h0
    rcases (by omega : kk = 0 ∨ kk = 1) with e | e
    · subst e
      exact pRnK p g s m n _ _ _ hb.1 hb.2 hc (by omega) d1 (decide_eq_false (by omega)) (decide_eq_false (by omega)) d1 d2 hl
    · subst e
      exact pRnL p g s m n _ _ _ hb.1 hb.2 hc (by omega) d1 (decide_eq_false (by omega)) (decide_eq_false (by omega)) d1 d2 hl
theorem pRun_is (p g s m n : Int) : Known Try.prog [] 15 [.agg #[.int .i64 p, .int .i64 g, .int .i64 s, .int .i64 m], .int .i64 n] (.tuple #[.agg #[.int .i64 (rnP p g s m n), .int .i64 (rnG p g s m n), .int .i64 (rnS p g s m n), .int .i64 (rnM p g s m n)], .int .i64 (rnE p g s m n)]) := by
  by_cases h : ckM p g s m = 0 ∧ 0 ≤ n ∧ n ≤ 100000
  · have e : rnE p g s m n = 0 := by unfold rnE; rw [if_pos h.1, if_pos h.2]
    unfold rnP rnG rnS rnM
    rw [e]
    exact run_ok h.1 h.2
  · have e : rnE p g s m n ≠ 0 := by unfold rnE; split <;> (try split) <;> omega
    have r := pRnE p g s m n h
    unfold rnP rnG rnS rnM
    rw [if_neg e, if_neg e, if_neg e, if_neg e]
    rw [show pRnE_c4 p g s m n = rnE p g s m n by
      unfold pRnE_c4 rnE
      by_cases c : ckM p g s m = 0
      · rw [show (ckM p g s m != 0) = false by simp [c], cond_false, if_pos c, if_neg (fun q => h ⟨c, q⟩)]
      · rw [show (ckM p g s m != 0) = true by simpa using c, cond_true, if_neg c]] at r
    exact r
end Go.Proofs.Ytaohbffjfedcgaa
