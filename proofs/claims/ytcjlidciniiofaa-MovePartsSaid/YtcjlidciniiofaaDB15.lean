import Derived.Test.YtcjlidciniiofaaOgD
set_option linter.unnecessarySimpa false
set_option linter.unusedSimpArgs false
set_option linter.unusedVariables false
namespace Go.Proofs.Ytcjlidciniiofaa
open Go Go.RowKit
theorem bq (a b : Int) : (a == b) = decide (a = b) := by by_cases h : a = b <;> simp [h]
def tD (p g : Int) : Int := if p < g then g - p else p - g
def tW (s p g v : Int) : Int := nxV s v (tD p g)
def tP (p g v q s : Int) : Int := if q = 2 then (if g < p then p - tW s p g v else p + tW s p g v) else p
def tV (p g v q s : Int) : Int := if q = 2 then (if tP p g v q s = g then 0 else tW s p g v) else v
def tQ (p g v q l s k : Int) : Int := if q = 2 then (if tP p g v q s = g then (if k = 0 then 0 else 3) else 2) else if q = 1 then (if l = 1 then 2 else 1) else if q = 3 then (if l = 1 then 0 else 3) else q
def tL (p g v q l s k : Int) : Int := if q = 2 then (if tP p g v q s = g then k else l) else if q = 1 then l - 1 else if q = 3 then l - 1 else l
def tM (q : Int) : Bool := decide (q = 2)
def DOk (p g v q l s k : Int) : Prop := 0 ≤ p ∧ p ≤ 63000 ∧ 0 ≤ g ∧ g ≤ 63000 ∧ 0 ≤ v ∧ v ≤ s ∧ 1 ≤ s ∧ s ≤ 20 ∧ 0 ≤ k ∧ k ≤ 5 ∧ 0 ≤ l ∧ l ≤ k ∧ ((q = 0 ∧ p = g ∧ v = 0 ∧ l = 0) ∨ (q = 1 ∧ p ≠ g ∧ v = 0 ∧ 0 < l) ∨ (q = 2 ∧ p ≠ g ∧ l = 0 ∧ (v = 0 ∨ rT (v - 1) ≤ (if p < g then g - p else p - g))) ∨ (q = 3 ∧ p = g ∧ v = 0 ∧ 0 < l))
theorem nx_bounds {s v p g : Int} (h0 : 0 ≤ v) (h1 : v ≤ s) (hs : 1 ≤ s ∧ s ≤ 20) (hp : p ≠ g) (hr : v = 0 ∨ rT (v - 1) ≤ tD p g) : NextV s v (tD p g) (tW s p g v) ∧ 1 ≤ tW s p g v ∧ tW s p g v ≤ s ∧ tW s p g v ≤ tD p g ∧ rT (tW s p g v) ≤ tD p g := by
 have hd : 1 ≤ tD p g := by unfold tD; split <;> omega
 have n : NextV s v (tD p g) (tW s p g v) := nxV_is h0 h1 hs.1 hd hr
 have key : 1 ≤ tW s p g v ∧ tW s p g v ≤ s ∧ rT (tW s p g v) ≤ tD p g := by
  rcases n with ⟨e, a, b⟩ | ⟨e, a, b, c⟩ | ⟨e, a, b, c⟩ <;> rw [e] at * <;> exact ⟨by omega, by omega, by assumption⟩
 exact ⟨n, key.1, key.2.1, by have := rT_ge (v := tW s p g v) (by omega); omega, key.2.2⟩
theorem dist1 {p g : Int} (hp : 0 ≤ p ∧ p ≤ 63000) (hg : 0 ≤ g ∧ g ≤ 63000) : (if IntKind.i64.wrap (p - g) > IntKind.i64.wrap (g - p) then IntKind.i64.wrap (p - g) else IntKind.i64.wrap (g - p)) = tD p g := by
 rw [w8 (v := p - g) (by omega), w8 (v := g - p) (by omega)]
 unfold tD; omega
theorem pStep_all {p g v q l s k : Int} (h : DOk p g v q l s k) : Known Try.prog [] 52 [.agg #[.int .i64 p, .int .i64 g, .int .i64 v, .int .i64 q, .int .i64 l], .int .i64 s, .int .i64 k] (.tuple #[.agg #[.int .i64 (tP p g v q s), .int .i64 g, .int .i64 (tV p g v q s), .int .i64 (tQ p g v q l s k), .int .i64 (tL p g v q l s k)], .bool (tM q), .int .i64 0]) := by
 obtain ⟨a1, a2, a3, a4, a5, a6, a7, a8, a9, b1, b2, b3, h | h | h | h⟩ := h
 ·obtain ⟨rfl, h⟩ := h
  have := pStep0 p g v l s k ⟨a1, a2, a3, a4, a5, a6, a7, a8, a9, b1, b2, b3, h⟩
  simpa [pStep0_c0, pStep0_c1, pStep0_c2, pStep0_c4, tP, tV, tQ, tL, tM] using this
 ·obtain ⟨rfl, h⟩ := h
  have := pStep1 p g v l s k ⟨a1, a2, a3, a4, a5, a6, a7, a8, a9, b1, b2, b3, h⟩
  have e : IntKind.i64.wrap (l - 1) = l - 1 := w8 (by omega)
  have e2 : (bif (l - 1 == 0) then (2 : Int) else 1) = if l = 1 then 2 else 1 := by
   by_cases c : l = 1
   ·subst c; rfl
   ·rw [if_neg c, show (l - 1 == 0) = false by simp; omega]; rfl
  simpa [pStep1_c0, pStep1_c1, pStep1_c2, pStep1_c3, pStep1_c4, e, e2, tP, tV, tQ, tL, tM] using this
 ·obtain ⟨rfl, h⟩ := h
  have this := pStep2 p g v l s k ⟨a1, a2, a3, a4, a5, a6, a7, a8, a9, b1, b2, b3, h⟩ (dtri_pred a5 (by omega))
  obtain ⟨n, n1, n2, n3, n4⟩ := nx_bounds a5 a6 ⟨a7, a8⟩ h.1 h.2.2
  have d1 := dist1 (p := p) (g := g) ⟨a1, a2⟩ ⟨a3, a4⟩
  have w1 : IntKind.i64.wrap (p - tW s p g v) = p - tW s p g v := w8 (by omega)
  have w2 : IntKind.i64.wrap (p + tW s p g v) = p + tW s p g v := w8 (by omega)
  have c : pStep2_c0 p g v l s k = tP p g v 2 s ∧ pStep2_c2 p g v l s k = tV p g v 2 s ∧ pStep2_c3 p g v l s k = tQ p g v 2 l s k ∧ pStep2_c4 p g v l s k = tL p g v 2 l s k := by
   unfold pStep2_c0 pStep2_c2 pStep2_c3 pStep2_c4 tV tQ tL tP
   rw [d1]
   simp only [show nxV s v (tD p g) = tW s p g v from rfl, w1, w2, bq, Bool.cond_decide, if_true]
   by_cases c1 : g < p <;> by_cases c2 : k = 0 <;> by_cases c3 : p - tW s p g v = g <;> by_cases c4 : p + tW s p g v = g <;> simp [c1, c2, c3, c4] <;> omega
  rw [c.1, c.2.1, c.2.2.1, c.2.2.2] at this
  exact this
 ·obtain ⟨rfl, h⟩ := h
  have := pStep3 p g v l s k ⟨a1, a2, a3, a4, a5, a6, a7, a8, a9, b1, b2, b3, h⟩
  have e : IntKind.i64.wrap (l - 1) = l - 1 := w8 (by omega)
  have e2 : (bif (l - 1 == 0) then (0 : Int) else 3) = if l = 1 then 0 else 3 := by
   by_cases c : l = 1
   ·subst c; rfl
   ·rw [if_neg c, show (l - 1 == 0) = false by simp; omega]; rfl
  simpa [pStep3_c0, pStep3_c1, pStep3_c2, pStep3_c3, pStep3_c4, e, e2, tP, tV, tQ, tL, tM] using this
noncomputable def nN (p g v q l s k : Int) : Int := if q = 0 then 0 else if q = 3 then l else (rD s (tD p g + rT v) - v) + k + l
theorem rides_of {p g v q l s k : Int} (h : DOk p g v q l s k) (hq : q = 1 ∨ q = 2) : Rides s v (tD p g) (rD s (tD p g + rT v)) ∧ 1 ≤ tD p g ∧ 0 ≤ tD p g + rT v := by
 obtain ⟨a1, a2, a3, a4, a5, a6, a7, a8, a9, b1, b2, b3, h⟩ := h
 have hd : p ≠ g → 1 ≤ tD p g := fun _ => by unfold tD; split <;> omega
 have b := rT_bound (v := v) a5 (by omega)
 have z : rT (0 - 1) = 0 := by decide
 have h1 : 1 ≤ tD p g := hd (by omega)
 refine ⟨⟨a5, a6, ?_, rD_is a7 (by omega)⟩, h1, by omega⟩
 rcases h with h | h | h | h
 ·omega
 ·rw [h.2.2.1, z]; omega
 ·rcases h.2.2.2 with e | e
  ·rw [e, z]; omega
  ·exact e
 ·omega
theorem tick_ok {p g v q l s k : Int} (h : DOk p g v q l s k) (hq : q ≠ 0) : DOk (tP p g v q s) g (tV p g v q s) (tQ p g v q l s k) (tL p g v q l s k) s k ∧ nN (tP p g v q s) g (tV p g v q s) (tQ p g v q l s k) (tL p g v q l s k) s k = nN p g v q l s k - 1 := by
 have h' := h
 obtain ⟨a1, a2, a3, a4, a5, a6, a7, a8, a9, b1, b2, b3, h | h | h | h⟩ := h
 ·exact absurd h.1 hq
 ·obtain ⟨rfl, h⟩ := h
  simp only [tP, tV, tQ, tL, show ¬ (1 : Int) = 2 by decide, if_false, if_true]
  by_cases c : l = 1
  ·simp only [c, if_true]
   refine ⟨⟨a1, a2, a3, a4, a5, a6, a7, a8, a9, b1, by omega, by omega, .inr (.inr (.inl ⟨rfl, h.1, by omega, .inl h.2.1⟩))⟩, ?_⟩
   unfold nN; simp <;> omega
  ·simp only [c, if_false]
   refine ⟨⟨a1, a2, a3, a4, a5, a6, a7, a8, a9, b1, by omega, by omega, .inr (.inl ⟨rfl, h.1, h.2.1, by omega⟩)⟩, ?_⟩
   unfold nN; simp <;> omega
 ·obtain ⟨rfl, h⟩ := h
  obtain ⟨n, n1, n2, n3, n4⟩ := nx_bounds a5 a6 ⟨a7, a8⟩ h.1 h.2.2
  obtain ⟨r1, r2, r3⟩ := rides_of h' (.inr rfl)
  obtain ⟨s1, s2, s3, s4⟩ := r1.next a7 (by omega) n
  have hP : tP p g v 2 s = if g < p then p - tW s p g v else p + tW s p g v := by unfold tP; simp
  have hD : tD (tP p g v 2 s) g = tD p g - tW s p g v := by
   rw [hP]; unfold tD at *; split <;> split <;> split at n3 <;> omega
  have hr : 0 ≤ tP p g v 2 s ∧ tP p g v 2 s ≤ 63000 := by
   rw [hP]; unfold tD at n3; split <;> split at n3 <;> omega
  by_cases c : tP p g v 2 s = g
  ·have e0 : tD p g = tW s p g v := by rw [c] at hD; unfold tD at hD ⊢; simp at hD; omega
   have e1 : tV p g v 2 s = 0 := by unfold tV; simp [c]
   have e2 : tL p g v 2 l s k = k := by unfold tL; simp [c]
   have e3 : tQ p g v 2 l s k = if k = 0 then 0 else 3 := by unfold tQ; simp [c]
   have s0 : tD p g - tW s p g v = 0 := by omega
   rw [s0] at s1
   have hd := Rides.done a7 s1
   rw [c, e1, e2, e3]
   by_cases ck : k = 0
   ·subst ck
    refine ⟨⟨a3, a4, a3, a4, by omega, by omega, a7, a8, a9, b1, by omega, by omega, .inl ⟨rfl, rfl, rfl, rfl⟩⟩, ?_⟩
    unfold nN; simp <;> omega
   ·simp only [ck, if_false]
    refine ⟨⟨a3, a4, a3, a4, by omega, by omega, a7, a8, a9, b1, by omega, by omega, .inr (.inr (.inr ⟨rfl, rfl, rfl, by omega⟩))⟩, ?_⟩
    unfold nN; simp <;> omega
  ·have e1 : tV p g v 2 s = tW s p g v := by unfold tV; simp [c]
   have e2 : tL p g v 2 l s k = l := by unfold tL; simp [c]
   have e3 : tQ p g v 2 l s k = 2 := by unfold tQ; simp [c]
   have st := s1.stop
   rw [← hD] at st
   rw [e1, e2, e3]
   refine ⟨⟨hr.1, hr.2, a3, a4, by omega, n2, a7, a8, a9, b1, b2, b3, .inr (.inr (.inl ⟨rfl, c, h.2.1, .inr st⟩))⟩, ?_⟩
   have is := s1.is
   rw [← hD] at is
   have hb := rT_bound (v := tW s p g v) (by omega) (by omega)
   have eq := rD_eq a7 (by rw [hD]; omega) is
   unfold nN
   simp only [show ¬ (2 : Int) = 0 by decide, show ¬ (2 : Int) = 3 by decide, if_false]
   rw [eq]; omega
 ·obtain ⟨rfl, h⟩ := h
  simp only [tP, tV, tQ, tL, show ¬ (3 : Int) = 2 by decide, show ¬ (3 : Int) = 1 by decide, if_false, if_true]
  by_cases c : l = 1
  ·simp only [c, if_true]
   refine ⟨⟨a1, a2, a3, a4, a5, a6, a7, a8, a9, b1, by omega, by omega, .inl ⟨rfl, h.1, h.2.1, by omega⟩⟩, ?_⟩
   unfold nN; simp <;> omega
  ·simp only [c, if_false]
   refine ⟨⟨a1, a2, a3, a4, a5, a6, a7, a8, a9, b1, by omega, by omega, .inr (.inr (.inr ⟨rfl, h.1, h.2.1, by omega⟩))⟩, ?_⟩
   unfold nN; simp <;> omega
end Go.Proofs.Ytcjlidciniiofaa
