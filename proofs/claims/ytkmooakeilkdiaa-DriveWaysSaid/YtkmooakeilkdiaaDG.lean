/- Layer 13: a run is so many ticks. -/
import Derived.Test.YtkmooakeilkdiaaOgT
namespace Go.Proofs.Ytkmooakeilkdiaa
open Go Go.RowKit
set_option linter.unusedVariables false
set_option linter.unusedSimpArgs false
set_option maxHeartbeats 4000000 in
theorem rnA_step {P0 V0 Q0 L0 g s k n : Int} (fu : Nat) {y0 y1 y2 y3 y4 y5 : Int} (h : DOk y1 g y2 y3 y4 s k) (h0 : 1 ≤ y0 ∧ y0 ≤ 200000) (h5 : 0 ≤ y5 ∧ y5 ≤ 200000) :
    rnA_f P0 g V0 Q0 L0 s k n (fu + 1) y0 y1 y2 y3 y4 y5 = (bif decide (y0 - 1 > 0) && !decide (tQ y1 g y2 y3 y4 s k = 0) then rnA_f P0 g V0 Q0 L0 s k n fu (y0 - 1) (tP y1 g y2 y3 s) (tV y1 g y2 y3 s) (tQ y1 g y2 y3 y4 s k) (tL y1 g y2 y3 y4 s k) (y5 + (if y3 = 2 then 1 else 0)) else some (0, (y0 - 1, tP y1 g y2 y3 s, tV y1 g y2 y3 s, tQ y1 g y2 y3 y4 s k, tL y1 g y2 y3 y4 s k, y5 + (if y3 = 2 then 1 else 0)))) := by
  have h' := h
  have w0 : IntKind.i64.wrap (y0 - 1) = y0 - 1 := w8 (by omega)
  have w5 : IntKind.i64.wrap (y5 + 1) = y5 + 1 := w8 (by omega)
  rw [rnA_fs, decide_eq_true ⟨h0.1, h0.2, h5.1, h5.2, h'⟩, cond_true, w0, w5]
  obtain ⟨a1, a2, a3, a4, a5, a6, a7, a8, a9, b1, b2, b3, h | h | h | h⟩ := h
  · obtain ⟨rfl, h⟩ := h
    rw [decide_eq_true rfl, cond_true]
    by_cases c : y0 - 1 > 0 <;> simp [c, tP, tV, tQ, tL]
  · obtain ⟨rfl, h⟩ := h
    have wl : IntKind.i64.wrap (y4 - 1) = y4 - 1 := w8 (by omega)
    rw [decide_eq_false (by decide : ¬ (1 : Int) = 0), cond_false, decide_eq_true rfl, cond_true, wl]
    by_cases c1 : y4 = 1
    · subst c1
      by_cases c : y0 - 1 > 0 <;> simp [c, tP, tV, tQ, tL]
    · rw [show (y4 - 1 == 0) = false by simp; omega, cond_false]
      by_cases c : y0 - 1 > 0 <;> simp [c, c1, tP, tV, tQ, tL]
  · obtain ⟨rfl, h⟩ := h
    obtain ⟨n0, n1, n2, n3, n4⟩ := nx_bounds a5 a6 ⟨a7, a8⟩ h.1 h.2.2
    have d1 := dist1 (p := y1) (g := g) ⟨a1, a2⟩ ⟨a3, a4⟩
    have hl := h.2.1
    have d2 : tD y1 g ≤ 63000 := by unfold tD; omega
    have w1 : IntKind.i64.wrap (y1 - tW s y1 g y2) = y1 - tW s y1 g y2 := w8 (by omega)
    have w2 : IntKind.i64.wrap (y1 + tW s y1 g y2) = y1 + tW s y1 g y2 := w8 (by omega)
    rw [decide_eq_false (by decide : ¬ (2 : Int) = 0), cond_false, decide_eq_false (by decide : ¬ (2 : Int) = 1), cond_false, decide_eq_true rfl, cond_true, d1]
    simp only [show nxV s y2 (tD y1 g) = tW s y1 g y2 from rfl, w1, w2, bq]
    unfold tV tQ tL tP
    generalize tW s y1 g y2 = W at *
    by_cases c1 : g < y1
    · rw [decide_eq_true c1, cond_true]
      simp only [if_pos c1, if_true]
      by_cases c3 : y1 - W = g
      · rw [decide_eq_true c3, cond_true]
        simp only [if_pos c3]
        by_cases c2 : k = 0
        · rw [decide_eq_true c2, cond_true]
          by_cases c : y0 - 1 > 0 <;> simp [c, c2]
        · rw [decide_eq_false c2, cond_false]
          by_cases c : y0 - 1 > 0 <;> simp [c, c2]
      · rw [decide_eq_false c3, cond_false]
        simp only [if_neg c3]
        by_cases c : y0 - 1 > 0 <;> simp [c]
    · rw [decide_eq_false c1, cond_false]
      simp only [if_neg c1, if_true]
      by_cases c3 : y1 + W = g
      · rw [decide_eq_true c3, cond_true]
        simp only [if_pos c3]
        by_cases c2 : k = 0
        · rw [decide_eq_true c2, cond_true]
          by_cases c : y0 - 1 > 0 <;> simp [c, c2]
        · rw [decide_eq_false c2, cond_false]
          by_cases c : y0 - 1 > 0 <;> simp [c, c2]
      · rw [decide_eq_false c3, cond_false]
        simp only [if_neg c3]
        by_cases c : y0 - 1 > 0 <;> simp [c]
  · obtain ⟨rfl, h⟩ := h
    have wl : IntKind.i64.wrap (y4 - 1) = y4 - 1 := w8 (by omega)
    rw [decide_eq_false (by decide : ¬ (3 : Int) = 0), cond_false, decide_eq_false (by decide : ¬ (3 : Int) = 1), cond_false, decide_eq_false (by decide : ¬ (3 : Int) = 2), cond_false, wl]
    by_cases c1 : y4 = 1
    · subst c1
      by_cases c : y0 - 1 > 0 <;> simp [c, tP, tV, tQ, tL]
    · rw [show (y4 - 1 == 0) = false by simp; omega, cond_false]
      by_cases c : y0 - 1 > 0 <;> simp [c, c1, tP, tV, tQ, tL]
/-- a drive on its way: position, speed, part, ticks left -/
abbrev X4 := Int × Int × Int × Int
def okX (g s k : Int) (x : X4) : Prop := DOk x.1 g x.2.1 x.2.2.1 x.2.2.2 s k
/-- the drive behind a tick -/
def dX (g s k : Int) (x : X4) : X4 := (tP x.1 g x.2.1 x.2.2.1 s, tV x.1 g x.2.1 x.2.2.1 s, tQ x.1 g x.2.1 x.2.2.1 x.2.2.2 s k, tL x.1 g x.2.1 x.2.2.1 x.2.2.2 s k)
/-- the drive behind so many ticks -/
def dN (g s k : Int) : Nat → X4 → X4
  | 0, x => x
  | n + 1, x => dN g s k n (dX g s k x)
/-- in how many of so many ticks the motor is commanded -/
def mN (g s k : Int) : Nat → X4 → Int
  | 0, _ => 0
  | n + 1, x => (if x.2.2.1 = 2 then 1 else 0) + mN g s k n (dX g s k x)
theorem dX_rest {g s k : Int} {x : X4} (h : x.2.2.1 = 0) : dX g s k x = x := by
  obtain ⟨p, v, q, l⟩ := x
  simp only at h
  subst h
  simp [dX, tP, tV, tQ, tL]
theorem dX_ok {g s k : Int} {x : X4} (h : okX g s k x) : okX g s k (dX g s k x) := by
  by_cases c : x.2.2.1 = 0
  · rw [dX_rest c]; exact h
  · exact (tick_ok h c).1
theorem dN_ok {g s k : Int} : ∀ (n : Nat) {x : X4}, okX g s k x → okX g s k (dN g s k n x)
  | 0, _, h => h
  | n + 1, _, h => dN_ok n (dX_ok h)
theorem dN_rest {g s k : Int} : ∀ (n : Nat) {x : X4}, x.2.2.1 = 0 → dN g s k n x = x ∧ mN g s k n x = 0
  | 0, _, _ => ⟨rfl, rfl⟩
  | n + 1, x, h => by
    have := dN_rest (g := g) (s := s) (k := k) n (x := x) h
    simp only [dN, mN, dX_rest h]
    rw [h]
    exact ⟨this.1, by rw [this.2]; rfl⟩
theorem mN_b {g s k : Int} : ∀ (n : Nat) (x : X4), 0 ≤ mN g s k n x ∧ mN g s k n x ≤ n
  | 0, x => by simp [mN]
  | n + 1, x => by
    have := mN_b (g := g) (s := s) (k := k) n (dX g s k x)
    simp only [mN]
    split <;> omega
theorem dN_add {g s k : Int} : ∀ (a b : Nat) (x : X4), dN g s k (a + b) x = dN g s k b (dN g s k a x) ∧ mN g s k (a + b) x = mN g s k a x + mN g s k b (dN g s k a x)
  | 0, b, x => by rw [Nat.zero_add]; exact ⟨rfl, by simp [mN, dN]⟩
  | a + 1, b, x => by
    rw [show a + 1 + b = (a + b) + 1 by omega]
    have := dN_add (g := g) (s := s) (k := k) a b (dX g s k x)
    simp only [dN, mN]
    exact ⟨this.1, by rw [this.2]; omega⟩
theorem dN_succ {g s k : Int} (a : Nat) (x : X4) : dN g s k (a + 1) x = dX g s k (dN g s k a x) := (dN_add a 1 x).1
theorem rnA_go {P0 V0 Q0 L0 g s k n : Int} : ∀ (K : Nat) (x : X4) (m : Int), okX g s k x → K + 1 ≤ 200000 → 0 ≤ m → m + (K : Int) ≤ 200000 → ∃ z, rnA_f P0 g V0 Q0 L0 s k n (K + 1) ((K : Int) + 1) x.1 x.2.1 x.2.2.1 x.2.2.2 m = some (0, (z, (dN g s k (K + 1) x).1, (dN g s k (K + 1) x).2.1, (dN g s k (K + 1) x).2.2.1, (dN g s k (K + 1) x).2.2.2, m + mN g s k (K + 1) x)) := by
  intro K
  induction K with
  | zero =>
    intro x m h hK h0 hm
    rw [rnA_step 0 h ⟨by omega, by omega⟩ ⟨h0, by omega⟩, decide_eq_false (by omega), Bool.false_and, cond_false]
    refine ⟨((0 : Nat) : Int) + 1 - 1, ?_⟩
    simp only [dN, mN, Int.add_zero]
    rfl
  | succ K ih =>
    intro x m h hK h0 hm
    rw [rnA_step (K + 1) h ⟨by omega, by omega⟩ ⟨h0, by omega⟩]
    by_cases c : tQ x.1 g x.2.1 x.2.2.1 x.2.2.2 s k = 0
    · rw [decide_eq_true c, Bool.not_true, Bool.and_false, cond_false]
      obtain ⟨e1, e2⟩ := dN_rest (g := g) (s := s) (k := k) (K + 1) (x := dX g s k x) c
      refine ⟨((K + 1 : Nat) : Int) + 1 - 1, ?_⟩
      rw [show dN g s k (K + 1 + 1) x = dN g s k (K + 1) (dX g s k x) from rfl, show mN g s k (K + 1 + 1) x = (if x.2.2.1 = 2 then 1 else 0) + mN g s k (K + 1) (dX g s k x) from rfl, e1, e2, Int.add_zero]
      rfl
    · rw [decide_eq_false c, Bool.not_false, Bool.and_true, decide_eq_true (by omega), cond_true, show ((K + 1 : Nat) : Int) + 1 - 1 = (K : Int) + 1 by omega]
      have hb : 0 ≤ (if x.2.2.1 = 2 then (1 : Int) else 0) ∧ (if x.2.2.1 = 2 then (1 : Int) else 0) ≤ 1 := by split <;> omega
      obtain ⟨z, hz⟩ := ih (dX g s k x) (m + (if x.2.2.1 = 2 then 1 else 0)) (dX_ok h) (by omega) (by omega) (by omega)
      refine ⟨z, ?_⟩
      rw [show dN g s k (K + 1 + 1) x = dN g s k (K + 1) (dX g s k x) from rfl, show mN g s k (K + 1 + 1) x = (if x.2.2.1 = 2 then 1 else 0) + mN g s k (K + 1) (dX g s k x) from rfl, ← Int.add_assoc]
      exact hz
/-- Run, of a drive on its way -/
theorem run_ok {p g v q l s k n : Int} (h : DOk p g v q l s k) (hn : 0 ≤ n ∧ n ≤ 200000) : Known Try.prog [] 22 [.agg #[.int .i64 p, .int .i64 g, .int .i64 v, .int .i64 q, .int .i64 l], .int .i64 s, .int .i64 k, .int .i64 n]
    (.tuple #[.agg #[.int .i64 (dN g s k n.toNat (p, v, q, l)).1, .int .i64 g, .int .i64 (dN g s k n.toNat (p, v, q, l)).2.1, .int .i64 (dN g s k n.toNat (p, v, q, l)).2.2.1, .int .i64 (dN g s k n.toNat (p, v, q, l)).2.2.2], .int .i64 (mN g s k n.toNat (p, v, q, l)), .int .i64 0]) := by
  rcases (by omega : n = 0 ∨ 1 ≤ n) with e | e
  · subst e
    exact rn0 p g v q l s k h
  · obtain ⟨K, hK⟩ : ∃ K : Nat, n = (K : Int) + 1 := ⟨(n - 1).toNat, by omega⟩
    obtain ⟨z, hz⟩ := rnA_go (P0 := p) (V0 := v) (Q0 := q) (L0 := l) (n := n) K (p, v, q, l) 0 h (by omega) (by omega) (by omega)
    have e2 : n.toNat = K + 1 := by omega
    rw [← hK, Int.zero_add, ← e2] at hz
    rw [e2] at hz ⊢
    have ho := rnA_ok p g v q l s k n h ⟨e, hn.2⟩ _ _ _ hz
    dsimp only at ho
    obtain ⟨a1, a2, a3, a4, a5, a6, a7, a8, a9, b1, b2, b3, hd⟩ := id h
    have r := rn1 p g v q l s k n _ _ _ _ _ _ h ⟨e, hn.2⟩ (decide_eq_true ⟨a1, a2, a3, a4, a5, by omega, by decide, by decide, by decide, by decide, b2, by omega, hd⟩) (decide_eq_true a7) (by rw [decide_eq_true a8]; rfl) (decide_eq_true a9) (by rw [decide_eq_true b1]; rfl) (decide_eq_false (by omega)) (decide_eq_false (by omega)) (decide_eq_false (by omega)) (decide_eq_false (by omega)) (by simp; omega) ho
    unfold rn1_c0 rn1_c1 rn1_c2 rn1_c3 rn1_c4 rn1_c5 at r
    exact r
end Go.Proofs.Ytkmooakeilkdiaa
