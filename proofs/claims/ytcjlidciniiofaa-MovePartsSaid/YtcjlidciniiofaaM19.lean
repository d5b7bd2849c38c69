import Derived.Test.YtcjlidciniiofaaOgR
set_option linter.unusedSimpArgs false
set_option linter.unusedVariables false
namespace Go.Proofs.Ytcjlidciniiofaa
open Go Go.RowKit
def itS (g s k : Int) : Nat → Int × Int × Int × Int → Int × Int × Int × Int
 | 0, x => x
 | n + 1, (p, v, q, l) => itS g s k n (tP p g v q s, tV p g v q s, tQ p g v q l s k, tL p g v q l s k)
theorem itS_add {g s k : Int} : ∀ (a b : Nat) (x : Int × Int × Int × Int), itS g s k (a + b) x = itS g s k b (itS g s k a x)
 | 0, b, x => by rw [Nat.zero_add]; rfl
 | a + 1, b, (p, v, q, l) => by rw [show a + 1 + b = (a + b) + 1 by omega]; exact itS_add a b _
noncomputable def riP (g s k n p v q l : Int) : Int := (itS g s k n.toNat (p, v, q, l)).1
noncomputable def riV (g s k n p v q l : Int) : Int := (itS g s k n.toNat (p, v, q, l)).2.1
noncomputable def riQ (g s k n p v q l : Int) : Int := (itS g s k n.toNat (p, v, q, l)).2.2.1
noncomputable def riL (g s k n p v q l : Int) : Int := (itS g s k n.toNat (p, v, q, l)).2.2.2
noncomputable def riM (g s k n p v q l : Int) : Int := moN p g v q s - moN (riP g s k n p v q l) g (riV g s k n p v q l) (riQ g s k n p v q l) s
theorem ri_all {g s k n p v q l : Int} : (riP g s k n p v q l, riV g s k n p v q l, riQ g s k n p v q l, riL g s k n p v q l) = itS g s k n.toNat (p, v, q, l) := rfl
theorem rnA_go {P0 g V0 Q0 L0 t D0 s k n : Int} (hn : n ≤ 200000) : ∀ (m : Nat) {mo i p v q l d : Int}, okP p g v q l t d s k = true → 0 ≤ mo → mo ≤ i → i + m = n → d + m ≤ t → ∃ z1, rnA_f P0 g V0 Q0 L0 t D0 s k n (m + 1) mo i p v q l d = some (0, (mo + (moN p g v q s - moN (itS g s k m (p, v, q, l)).1 g (itS g s k m (p, v, q, l)).2.1 (itS g s k m (p, v, q, l)).2.2.1 s), z1, (itS g s k m (p, v, q, l)).1, (itS g s k m (p, v, q, l)).2.1, (itS g s k m (p, v, q, l)).2.2.1, (itS g s k m (p, v, q, l)).2.2.2, d + m)) ∧ okP (itS g s k m (p, v, q, l)).1 g (itS g s k m (p, v, q, l)).2.1 (itS g s k m (p, v, q, l)).2.2.1 (itS g s k m (p, v, q, l)).2.2.2 t (d + m) s k = true := by
 intro m
 induction m with
 | zero =>
  intro mo i p v q l d h h0 h1 hi hd
  refine ⟨i, ?_, by simpa [itS] using h⟩
  rw [rnA_fs, decide_eq_false (by omega : ¬ i < n)]
  simp [itS]
 | succ m ih =>
  intro mo i p v q l d h h0 h1 hi hd
  have ok := okP_is.1 h
  have hnx := pad_tick h (by omega)
  have hm := mo_tick ok.1
  have hw : IntKind.i64.wrap (i + 1) = i + 1 := w8n (by omega) (by omega)
  have hw3 : IntKind.i64.wrap (d + 1) = d + 1 := w8n (by omega) (by omega)
  have e : itS g s k (m + 1) (p, v, q, l) = itS g s k m (tP p g v q s, tV p g v q s, tQ p g v q l s k, tL p g v q l s k) := rfl
  rw [rnA_fs, decide_eq_true (by omega : i < n), okD_is.2 ok.1, hw, hw3, e]
  simp only [Bool.not_true, Bool.false_or, cond_true]
  by_cases c : q = 2
  ·have hw2 : IntKind.i64.wrap (mo + 1) = mo + 1 := w8n (by omega) (by omega)
   obtain ⟨z, hz, hk⟩ := ih (mo := mo + 1) (i := i + 1) hnx (by omega) (by omega) (by omega) (by omega)
   rw [show d + 1 + (m : Int) = d + ((m + 1 : Nat) : Int) by omega] at hz hk
   refine ⟨z, ?_, hk⟩
   rw [decide_eq_true c, cond_true, hw2, hz, hm, if_pos c]
   congr 3; omega
  ·obtain ⟨z, hz, hk⟩ := ih (mo := mo) (i := i + 1) hnx (by omega) (by omega) (by omega) (by omega)
   rw [show d + 1 + (m : Int) = d + ((m + 1 : Nat) : Int) by omega] at hz hk
   refine ⟨z, ?_, hk⟩
   rw [decide_eq_false c, cond_false, hz, hm, if_neg c]
   congr 3; omega
theorem ri_ok {p g v q l t d s k n : Int} (h : okP p g v q l t d s k = true) (h0 : 0 ≤ n) (h1 : n ≤ t - d) : okP (riP g s k n p v q l) g (riV g s k n p v q l) (riQ g s k n p v q l) (riL g s k n p v q l) t (d + n) s k = true := by
 have ok := okP_is.1 h
 obtain ⟨z, _, hk⟩ := rnA_go (P0 := 0) (V0 := 0) (Q0 := 0) (L0 := 0) (D0 := 0) (n := n) (by omega) n.toNat (mo := 0) (i := 0) h (by omega) (by omega) (by omega) (by omega)
 rw [show d + ((n.toNat : Nat) : Int) = d + n by omega] at hk
 exact hk
theorem run_is {p g v q l t d s k n : Int} (h : okP p g v q l t d s k = true) (h0 : 0 ≤ n) (h1 : n ≤ t - d) : Known Try.prog [] 17 [.agg #[.int .i64 p, .int .i64 g, .int .i64 v, .int .i64 q, .int .i64 l, .int .i64 t, .int .i64 d], .int .i64 s, .int .i64 k, .int .i64 n] (.tuple #[.agg #[.int .i64 (riP g s k n p v q l), .int .i64 g, .int .i64 (riV g s k n p v q l), .int .i64 (riQ g s k n p v q l), .int .i64 (riL g s k n p v q l), .int .i64 t, .int .i64 (d + n)], .int .i64 (riM g s k n p v q l), .int .i64 0]) := by
 have ok := okP_is.1 h
 by_cases c : n = 0
 ·subst c
  have r := rn0 p g v q l t d s k h ⟨ok.2.1, ok.2.2.1, ok.2.2.2.1⟩
  have e : riM g s k 0 p v q l = 0 := by unfold riM riP riV riQ; simp [itS]
  rw [e, Int.add_zero]
  exact r
 ·obtain ⟨z, hz, _⟩ := rnA_go (P0 := p) (V0 := v) (Q0 := q) (L0 := l) (D0 := d) (n := n) (by omega) n.toNat (mo := 0) (i := 0) h (by omega) (by omega) (by omega) (by omega)
  rw [show d + ((n.toNat : Nat) : Int) = d + n by omega, Int.zero_add] at hz
  have d1 : decide (n < 0) = false := decide_eq_false (by omega)
  have d2 : decide (n > IntKind.i64.wrap (t - d)) = false := by rw [w8 (by omega)]; exact decide_eq_false (by omega)
  have d3 : decide (0 < n) = true := decide_eq_true (by omega)
  have lp := rnA_ok p g v q l t d s k n h d1 d2 d3 (okD_is.2 ok.1) _ _ _ hz
  exact rnK p g v q l t d s k n _ _ _ _ _ _ _ h d1 d2 d3 (okD_is.2 ok.1) h d1 d2 lp
theorem ri_add {g s k a b p v q l : Int} (ha : 0 ≤ a) (hb : 0 ≤ b) : itS g s k b.toNat (riP g s k a p v q l, riV g s k a p v q l, riQ g s k a p v q l, riL g s k a p v q l) = itS g s k (a + b).toNat (p, v, q, l) := by
 rw [ri_all, ← itS_add, show a.toNat + b.toNat = (a + b).toNat by omega]
theorem it_rest {g s k : Int} : ∀ (n : Nat) {p v l : Int}, itS g s k n (p, v, 0, l) = (p, v, 0, l)
 | 0, p, v, l => rfl
 | n + 1, p, v, l => by
  obtain ⟨e1, e2, e3, e4⟩ := rest_tick (p := p) (g := g) (v := v) (l := l) (s := s) (k := k)
  show itS g s k n (tP p g v 0 s, tV p g v 0 s, tQ p g v 0 l s k, tL p g v 0 l s k) = _
  rw [e1, e2, e3, e4]; exact it_rest n
theorem stop_is {p g v q l t d s k : Int} (h : okP p g v q l t d s k = true) : Known Try.prog [] 16 [.agg #[.int .i64 p, .int .i64 g, .int .i64 v, .int .i64 q, .int .i64 l, .int .i64 t, .int .i64 d], .int .i64 s, .int .i64 k] (.tuple #[.agg #[.int .i64 p, .int .i64 p, .int .i64 0, .int .i64 0, .int .i64 0, .int .i64 t, .int .i64 d], .int .i64 0]) :=
 spL p g v q l t d s k h (okD_is.2 (wide (okP_is.1 h).1))
theorem stop_ok {p g v q l t d s k : Int} (h : okP p g v q l t d s k = true) : okP p p 0 0 0 t d s k = true := by
 obtain ⟨⟨a1, a2, a3, a4, a5, a6, a7, a8, a9, b1, b2, b3, h⟩, h1, h2, h3, h4⟩ := okP_is.1 h
 exact okP_is.2 ⟨⟨a1, a2, a1, a2, by omega, by omega, a7, a8, a9, b1, by omega, by omega, .inl ⟨rfl, rfl, rfl, rfl⟩⟩, h1, h2, h3, by rw [rest_n]; omega⟩
end Go.Proofs.Ytcjlidciniiofaa
