/- Layer 9: the reference's tick. -/
import Derived.Test.YtaohbffjfedcgaaOgB
namespace Go.Proofs.Ytaohbffjfedcgaa
open Go Go.RowKit
set_option linter.unusedVariables false
set_option linter.unusedSimpArgs false
theorem rTk_go {p g s m w : Int} (hp : 0 ≤ p ∧ p ≤ 63000 ∧ 0 ≤ g ∧ g ≤ 63000) (hw : 1 ≤ w ∧ w ≤ 20) (hl : rT w ≤ rst p g) : ∀ (k : Nat) {y : Int}, y = w + k → y ≤ 20 → (∀ z, w < z → z ≤ y → rst p g < rT z) → rTk_f p g s m (k + 1) y = some (0, w)
  | 0, y, hy, h2, hz => by
    have : y = w := by omega
    subst this
    rw [rTk_fs, w8 (v := p - g) (by omega), w8 (v := g - p) (by omega), rst_max', bif_dT (by omega), bif_dT (by omega), bif_dF (by omega)]
  | k + 1, y, hy, h2, hz => by
    have := hz y (by omega) (Int.le_refl _)
    rw [rTk_fs, w8 (v := p - g) (by omega), w8 (v := g - p) (by omega), rst_max', bif_dT (by omega), bif_dT (by omega), bif_dT (by omega), w8 (by omega)]
    exact rTk_go hp hw hl k (by omega) (by omega) fun z h3 h4 => hz z h3 (by omega)
theorem rTk_is {p g s m : Int} (h : vM p g s m) (hpg : p ≠ g) : ∃ fu, rTk_f p g s m fu (if m < IntKind.i64.wrap (s + 1) then m else IntKind.i64.wrap (s + 1)) = some (0, nxV m s (rst p g)) := by
  have ha := tk_all h hpg
  obtain ⟨a1, a2, a3, a4, a5, a6, a7, a8, a9⟩ := h
  have hn := nxV_is (m := m) (v := s) (l := rst p g) a7 a8 a5 (by omega) (by omega)
  have e1 : IntKind.i64.wrap (s + 1) = s + 1 := w8 (by omega)
  have ts := rT_succ (v := s)
  have hp : 0 ≤ p ∧ p ≤ 63000 ∧ 0 ≤ g ∧ g ≤ 63000 := ⟨a1, a2, a3, a4⟩
  rw [e1]
  rcases hn with ⟨g1, k1, k2⟩ | ⟨g1, k1, k2, k3⟩ | ⟨g1, k1, k2, k3⟩
  · rw [g1] at k1 k2 ⊢
    rw [if_neg (by omega)]
    exact ⟨1, rTk_go hp (by omega) k2 0 (by simp) (by omega) fun z a b => by omega⟩
  · rw [g1]
    split
    · have : s = m := by omega
      subst this
      exact ⟨1, rTk_go hp (by omega) k2 0 (by simp) (by omega) fun z a b => by omega⟩
    · exact ⟨2, rTk_go hp (by omega) k2 1 (by simp) (by omega) fun z a b => by
        have : z = s + 1 := by omega
        subst this; omega⟩
  · rw [g1]
    split
    · have : s = m := by omega
      subst this
      exact ⟨2, rTk_go hp (by omega) k2 1 (by simp) (by omega) fun z a b => by
        have : z = s := by omega
        subst this; omega⟩
    · exact ⟨3, rTk_go hp (by omega) k2 2 (by simp; omega) (by omega) fun z a b => by
        rcases (by omega : z = s ∨ z = s + 1) with c | c
        · subst c; omega
        · subst c; omega⟩
theorem rTick_is {p g s m : Int} (hc : ckM p g s m = 0) : Known Try.prog [] 43 [.agg #[.int .i64 p, .int .i64 g, .int .i64 s, .int .i64 m]] (.agg #[.int .i64 (tkP p g s m), .int .i64 g, .int .i64 (tkS p g s m), .int .i64 m]) := by
  have h := ckM_ok.1 hc
  by_cases e : p = g
  · have k := rTkE p g s m ⟨h.1, h.2.1⟩ e
    subst e
    have t := tk_eq h
    rw [t.1, t.2.1]
    rw [show rTkE_c0 p p s m = p from rfl, show rTkE_c1 p p s m = p from rfl, show rTkE_c2 p p s m = s from rfl, show rTkE_c3 p p s m = m from rfl, t.2.2] at k
    rw [t.2.2]
    exact k
  · have ha := tk_all h e
    obtain ⟨fu, hf⟩ := rTk_is h e
    have hv := h
    obtain ⟨a1, a2, a3, a4, a5, a6, a7, a8, a9⟩ := h
    have hl := rTk_ok p g s m ⟨a1, a2, a3, a4⟩ ⟨a5, a6, a7, a8⟩ e fu 0 _ hf
    have em : (if IntKind.i64.wrap (g - p) > IntKind.i64.wrap (p - g) then IntKind.i64.wrap (g - p) else IntKind.i64.wrap (p - g)) = rst p g := by
      rw [w8 (v := p - g) (by omega), w8 (v := g - p) (by omega), rst_max']
    have k := rTkK p g s m _ ⟨a1, a2, a3, a4⟩ ⟨a5, a6, a7, a8⟩ e (by rw [em]; simp; unfold rst; omega) hl
    have e0 : rTkK_c0 p g s m (nxV m s (rst p g)) = tkP p g s m := by
      unfold rTkK_c0 tkP
      generalize nxV m s (rst p g) = w at *
      have b : 0 ≤ w ∧ w ≤ 20 := by omega
      rw [w8 (v := w * -1) (by omega), w8 (v := w * 1) (by omega)]
      by_cases c : g < p
      · rw [bif_dT c, if_pos c, w8 (by omega)]; omega
      · rw [bif_dF c, if_neg c, if_neg e, w8 (by omega)]; omega
    have e2 : rTkK_c2 p g s m (nxV m s (rst p g)) = tkS p g s m := by
      unfold rTkK_c2 tkS
      rw [em, if_neg e, bq, Bool.cond_decide]
      split <;> split <;> omega
    rw [e0, e2] at k
    exact k
end Go.Proofs.Ytaohbffjfedcgaa
