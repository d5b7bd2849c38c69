/- Layer 13: what the law looks at in a tick. -/
import Derived.Test.YtkmooakeilkdiaaOgJ
namespace Go.Proofs.Ytkmooakeilkdiaa
open Go Go.RowKit
set_option linter.unusedVariables false
set_option linter.unusedSimpArgs false
/-- between the start and the goal -/
def Btw (f g p : Int) : Prop := (f ≤ g → f ≤ p ∧ p ≤ g) ∧ (g ≤ f → g ≤ p ∧ p ≤ f)
/-- how far a tick goes -/
noncomputable def wG (p g v q s : Int) : Int := if q = 2 then tW s p g v else 0
theorem went_is {p g v q l s k : Int} (h : DOk p g v q l s k) : IntKind.i64.wrap ((if p > tP p g v q s then p else tP p g v q s) - if p < tP p g v q s then p else tP p g v q s) = wG p g v q s ∧ 0 ≤ wG p g v q s ∧ wG p g v q s ≤ s ∧ wG p g v q s ≤ v + 1 ∧ v - 1 ≤ wG p g v q s ∧ wG p g v q s ≤ tD p g ∧ (q ≠ 2 → wG p g v q s = 0) ∧ (tQ p g v q l s k = 2 → tV p g v q s = wG p g v q s) := by
  obtain ⟨a1, a2, a3, a4, a5, a6, a7, a8, a9, b1, b2, b3, h⟩ := h
  have hd : 0 ≤ tD p g := by unfold tD; split <;> omega
  by_cases hq : q = 2
  · subst hq
    have h2 : p ≠ g ∧ (v = 0 ∨ rT (v - 1) ≤ tD p g) := by
      rcases h with h | h | h | h
      · omega
      · omega
      · exact ⟨h.2.1, h.2.2.2⟩
      · omega
    obtain ⟨n, n1, n2, n3, n4⟩ := nx_bounds a5 a6 ⟨a7, a8⟩ h2.1 h2.2
    have hP : tP p g v 2 s = if g < p then p - tW s p g v else p + tW s p g v := by unfold tP; simp
    have hw : wG p g v 2 s = tW s p g v := by unfold wG; simp
    have e : (if p > tP p g v 2 s then p else tP p g v 2 s) - (if p < tP p g v 2 s then p else tP p g v 2 s) = tW s p g v := by
      rw [hP]; split <;> split <;> split <;> omega
    rw [e, hw, w8 (by omega)]
    refine ⟨rfl, by omega, n2, ?_, ?_, n3, fun c => absurd rfl c, fun c => ?_⟩
    · rcases n with ⟨e, _⟩ | ⟨e, _⟩ | ⟨e, _⟩ <;> omega
    · rcases n with ⟨e, _⟩ | ⟨e, _⟩ | ⟨e, _⟩ <;> omega
    · unfold tQ at c
      unfold tV
      by_cases x : tP p g v 2 s = g
      · by_cases y : k = 0 <;> simp [x, y] at c
      · simp [x]
  · have hv : v = 0 := by omega
    have hP : tP p g v q s = p := by unfold tP; simp [hq]
    have hw : wG p g v q s = 0 := by unfold wG; simp [hq]
    rw [hP, hw]
    refine ⟨?_, by omega, by omega, by omega, by omega, hd, fun _ => rfl, fun _ => by unfold tV; simp [hq, hv]⟩
    simp only [ite_self, Int.sub_self]; decide
theorem btw_next {f p g v q l s k : Int} (h : DOk p g v q l s k) (hb : Btw f g p) : Btw f g (tP p g v q s) := by
  obtain ⟨_, w0, w1, w2, w3, w4, w5, _⟩ := went_is h
  by_cases hq : q = 2
  · have hP : tP p g v q s = if g < p then p - wG p g v q s else p + wG p g v q s := by unfold tP wG; simp [hq]
    unfold Btw tD at *
    rw [hP]
    split at w4 <;> split <;> omega
  · have hP : tP p g v q s = p := by unfold tP; simp [hq]
    rw [hP]; exact hb
theorem w64 {v : Int} (h : -100000000 ≤ v ∧ v ≤ 100000000) : IntKind.i64.wrap v = v := w8 h
/-- the law's looks, word for word -/
theorem looks {f p g v q l s k : Int} (h : DOk p g v q l s k) (hq : q ≠ 0) (hb : Btw f g p) :
    (!(nN (tP p g v q s) g (tV p g v q s) (tQ p g v q l s k) (tL p g v q l s k) s k != IntKind.i64.wrap (nN p g v q l s k - 1))) = true
    ∧ (!decide (tP p g v q s < if g < f then g else f)) = true
    ∧ (!decide (tP p g v q s > if g > f then g else f)) = true
    ∧ (decide (q = 2) || !decide (IntKind.i64.wrap ((if p > tP p g v q s then p else tP p g v q s) - if p < tP p g v q s then p else tP p g v q s) > 0)) = true
    ∧ (!decide (IntKind.i64.wrap ((if p > tP p g v q s then p else tP p g v q s) - if p < tP p g v q s then p else tP p g v q s) > s)) = true
    ∧ (!decide (IntKind.i64.wrap ((if p > tP p g v q s then p else tP p g v q s) - if p < tP p g v q s then p else tP p g v q s) > IntKind.i64.wrap (v + 1))) = true
    ∧ (!decide (IntKind.i64.wrap ((if p > tP p g v q s then p else tP p g v q s) - if p < tP p g v q s then p else tP p g v q s) < IntKind.i64.wrap (v - 1))) = true
    ∧ (!(tQ p g v q l s k == 2) || !(tV p g v q s != IntKind.i64.wrap ((if p > tP p g v q s then p else tP p g v q s) - if p < tP p g v q s then p else tP p g v q s))) = true := by
  obtain ⟨e, w0, w1, w2, w3, w4, w5, w6⟩ := went_is h
  have bn := btw_next h hb
  have tk := tick_ok h hq
  have hn := nN_bounds h
  have hv : 0 ≤ v ∧ v ≤ 20 := by
    obtain ⟨a1, a2, a3, a4, a5, a6, a7, a8, h⟩ := h
    omega
  rw [e, w64 (v := nN p g v q l s k - 1) (by omega), w64 (v := v + 1) (by omega), w64 (v := v - 1) (by omega), tk.2]
  refine ⟨by simp, ?_, ?_, ?_, by simpa using w1, by simpa using w2, by simpa using w3, ?_⟩
  · have : ¬ tP p g v q s < if g < f then g else f := by
      unfold Btw at bn; split <;> omega
    simpa using this
  · have : ¬ tP p g v q s > if g > f then g else f := by
      unfold Btw at bn; split <;> omega
    simpa using this
  · by_cases c : q = 2
    · simp [c]
    · simp [c, w5 c]
  · by_cases c : tQ p g v q l s k = 2
    · simp [c, w6 c]
    · simp [c]
theorem wide {p g v q l s k : Int} (h : DOk p g v q l s k) : DOk p g v q l 20 5 := by
  obtain ⟨a1, a2, a3, a4, a5, a6, a7, a8, a9, b1, b2, b3, h⟩ := h
  exact ⟨a1, a2, a3, a4, a5, by omega, by omega, by omega, by omega, by omega, b2, by omega, h⟩
theorem at_rest {p g v q l s k : Int} (h : DOk p g v q l s k) (hn : nN p g v q l s k = 0) : q = 0 ∧ p = g ∧ v = 0 ∧ l = 0 := by
  have hq : q = 0 := Classical.byContradiction fun c => by have := (nN_bounds h).2.2 c; omega
  obtain ⟨a1, a2, a3, a4, a5, a6, a7, a8, a9, b1, b2, b3, h⟩ := h
  omega
theorem rest_n {p g v l s k : Int} : nN p g v 0 l s k = 0 := by unfold nN; simp
/-- the law's start -/
theorem start {p g q l s k : Int} (hp : 0 ≤ p ∧ p ≤ 399) (hg : 0 ≤ g ∧ g ≤ 399) (hs : 1 ≤ s ∧ s ≤ 20) (hk : 0 ≤ k ∧ k ≤ 5) (hne : p ≠ g) (hq : (q = 1 ∧ 0 < k ∧ l = k) ∨ (q = 2 ∧ k = 0 ∧ l = 0)) : DOk p g 0 q l s k ∧ 1 ≤ nN p g 0 q l s k ∧ nN p g 0 q l s k ≤ 500 ∧ Btw p g p := by
  have ok : DOk p g 0 q l s k := by
    refine ⟨hp.1, by omega, hg.1, by omega, by omega, by omega, hs.1, hs.2, hk.1, hk.2, by omega, by omega, ?_⟩
    rcases hq with ⟨a, b, c⟩ | ⟨a, b, c⟩
    · exact .inr (.inl ⟨a, hne, rfl, by omega⟩)
    · exact .inr (.inr (.inl ⟨a, hne, c, .inl rfl⟩))
  have hd : 0 ≤ tD p g ∧ tD p g ≤ 399 := by unfold tD; split <;> omega
  refine ⟨ok, (nN_bounds ok).2.2 (by omega), ?_, by unfold Btw; omega⟩
  have z : rT 0 = 0 := by decide
  have b := rD_bound (L := s) (n := tD p g + rT 0) hs.1 (by omega)
  unfold nN
  rw [if_neg (by omega), if_neg (by omega)]
  omega
end Go.Proofs.Ytkmooakeilkdiaa
