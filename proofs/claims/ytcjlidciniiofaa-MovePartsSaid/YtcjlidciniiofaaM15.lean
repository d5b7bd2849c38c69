import Derived.Test.YtcjlidciniiofaaOgE
set_option linter.unusedSimpArgs false
set_option linter.unusedVariables false
namespace Go.Proofs.Ytcjlidciniiofaa
open Go Go.RowKit
noncomputable def moN (p g v q s : Int) : Int := if q = 1 ∨ q = 2 then rD s (tD p g + rT v) - v else 0
theorem rest_tick {p g v l s k : Int} : tP p g v 0 s = p ∧ tV p g v 0 s = v ∧ tQ p g v 0 l s k = 0 ∧ tL p g v 0 l s k = l := by
 unfold tV tQ tL tP; simp
theorem rest_n {p g v l s k : Int} : nN p g v 0 l s k = 0 := by unfold nN; simp
theorem nN_mo {p g v q l s k : Int} (h : DOk p g v q l s k) : (q = 0 → nN p g v q l s k = 0 ∧ moN p g v q s = 0) ∧ (q = 3 → nN p g v q l s k = l ∧ moN p g v q s = 0) ∧ (q = 1 ∨ q = 2 → nN p g v q l s k = moN p g v q s + k + l) := by
 refine ⟨?_, ?_, ?_⟩
 ·rintro rfl; unfold nN moN; simp
 ·rintro rfl; unfold nN moN; simp
 ·rintro (rfl | rfl) <;> unfold nN moN <;> simp
theorem mo_tick {p g v q l s k : Int} (h : DOk p g v q l s k) : moN (tP p g v q s) g (tV p g v q s) (tQ p g v q l s k) s = moN p g v q s - (if q = 2 then 1 else 0) := by
 by_cases hq : q = 0
 ·subst hq
  obtain ⟨e1, e2, e3, e4⟩ := rest_tick (p := p) (g := g) (v := v) (l := l) (s := s) (k := k)
  rw [e1, e2, e3]; unfold moN; simp
 obtain ⟨t1, t2⟩ := tick_ok h hq
 obtain ⟨m0, m3, m12⟩ := nN_mo h
 obtain ⟨n0, n3, n12⟩ := nN_mo t1
 obtain ⟨a1, a2, a3, a4, a5, a6, a7, a8, a9, b1, b2, b3, h'⟩ := h
 rcases h' with h' | h' | h' | h'
 ·exact absurd h'.1 hq
 ·obtain ⟨rfl, h'⟩ := h'
  have eP : tP p g v 1 s = p := by unfold tP; simp
  have eV : tV p g v 1 s = v := by unfold tV; simp
  have eQ : tQ p g v 1 l s k = 1 ∨ tQ p g v 1 l s k = 2 := by unfold tQ; by_cases c : l = 1 <;> simp [c]
  rw [eP, eV]
  unfold moN
  rw [if_pos eQ, if_pos (Or.inl rfl)]; simp
 ·obtain ⟨rfl, h'⟩ := h'
  have m := m12 (.inr rfl)
  rw [if_pos rfl]
  by_cases c : tP p g v 2 s = g
  ·have eQ : tQ p g v 2 l s k = if k = 0 then 0 else 3 := by unfold tQ; simp [c]
   have eL : tL p g v 2 l s k = k := by unfold tL; simp [c]
   by_cases ck : k = 0
   ·rw [if_pos ck] at eQ
    have := n0 eQ
    omega
   ·rw [if_neg ck] at eQ
    have := n3 eQ
    omega
  ·have eQ : tQ p g v 2 l s k = 2 := by unfold tQ; simp [c]
   have eL : tL p g v 2 l s k = l := by unfold tL; simp [c]
   have := n12 (.inr eQ)
   omega
 ·obtain ⟨rfl, h'⟩ := h'
  have eQ : tQ p g v 3 l s k = 0 ∨ tQ p g v 3 l s k = 3 := by unfold tQ; by_cases c : l = 1 <;> simp [c]
  have e1 := (m3 rfl).2
  rcases eQ with e | e
  ·have := (n0 e).2; rw [this, e1]; simp
  ·have := (n3 e).2; rw [this, e1]; simp
theorem pad_tick {p g v q l t d s k : Int} (h : okP p g v q l t d s k = true) (hd : d < t) : okP (tP p g v q s) g (tV p g v q s) (tQ p g v q l s k) (tL p g v q l s k) t (d + 1) s k = true := by
 obtain ⟨h, h1, h2, h3, h4⟩ := okP_is.1 h
 refine okP_is.2 ?_
 by_cases hq : q = 0
 ·subst hq
  obtain ⟨e1, e2, e3, e4⟩ := rest_tick (p := p) (g := g) (v := v) (l := l) (s := s) (k := k)
  rw [e1, e2, e3, e4]
  refine ⟨h, by omega, by omega, h3, ?_⟩
  rw [rest_n]; omega
 ·obtain ⟨t1, t2⟩ := tick_ok h hq
  exact ⟨t1, by omega, by omega, h3, by omega⟩
def gqV (p g k : Int) : Int := if p = g then 0 else if k = 0 then 2 else 1
def glV (p g k : Int) : Int := if p = g then 0 else k
theorem rD_zero {s : Int} (hs : 1 ≤ s) : rD s 0 = 0 := rD_eq hs (by omega) ⟨by omega, rW_ge hs (by omega), .inl rfl⟩
theorem go_ok {p g s k : Int} (hp : 0 ≤ p ∧ p ≤ 63000) (hg : 0 ≤ g ∧ g ≤ 63000) (hs : 1 ≤ s ∧ s ≤ 20) (hk : 0 ≤ k ∧ k ≤ 5) : DOk p g 0 (gqV p g k) (glV p g k) s k ∧ nN p g 0 (gqV p g k) (glV p g k) s k ≤ rD s (tD p g) + 2 * k ∧ moN p g 0 (gqV p g k) s = rD s (tD p g) := by
 have z : rT 0 = 0 := by decide
 unfold gqV glV
 by_cases e : p = g
 ·subst e
  have hd : tD p p = 0 := by unfold tD; simp
  have r := rD_zero hs.1
  simp only [if_true]
  refine ⟨⟨hp.1, hp.2, hp.1, hp.2, by omega, by omega, hs.1, hs.2, hk.1, hk.2, by omega, by omega, .inl ⟨rfl, rfl, rfl, rfl⟩⟩, ?_, ?_⟩
  ·unfold nN; simp [hd, r]; omega
  ·unfold moN; simp [hd, r]
 ·simp only [e, if_false]
  by_cases c : k = 0
  ·subst c
   simp only [if_true]
   refine ⟨⟨hp.1, hp.2, hg.1, hg.2, by omega, by omega, hs.1, hs.2, hk.1, hk.2, by omega, by omega, .inr (.inr (.inl ⟨rfl, e, rfl, .inl rfl⟩))⟩, ?_, ?_⟩
   ·unfold nN; simp [z]
   ·unfold moN; simp [z]
  ·simp only [c, if_false]
   refine ⟨⟨hp.1, hp.2, hg.1, hg.2, by omega, by omega, hs.1, hs.2, hk.1, hk.2, by omega, by omega, .inr (.inl ⟨rfl, e, rfl, by omega⟩)⟩, ?_, ?_⟩
   ·unfold nN; simp [z]; omega
   ·unfold moN; simp [z]
end Go.Proofs.Ytcjlidciniiofaa
