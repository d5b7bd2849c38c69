import Derived.Test.YtaogbagopdlkmaaPI
set_option linter.unusedVariables false
namespace Go.Proofs.Ytaogbagopdlkmaa
open Go Go.RowKit
theorem ok_iff {m d n s a b p q : Int} : tkOk m d n s a b p q = true ↔ (1 ≤ b ∧ b ≤ 5) ∧ tkG n b p = true ∧ (0 ≤ q ∧ q < tkL m d b) ∧ (0 ≤ a ∧ a ≤ 1099511627776 / s) ∧ a * s + tkB m d n b p + q ≤ 1099511627776 := by
 unfold tkOk
 simp only [Bool.and_eq_true, decide_eq_true_eq, and_assoc]
theorem rk_tail {s a q B L : Int} (f : Int → Int) (r : Int) (hs : 1 ≤ s ∧ s ≤ 10000000) (ha : 0 ≤ a) (hB : 0 ≤ B ∧ B ≤ 10000000) (hL : L ≤ 200000) :
  (bif decide (q < 0) then r else bif decide (q ≥ L) then r else bif decide (a > IntKind.i64.wrap (Int.tdiv (1099511627776 : Int) s)) then r else bif decide (IntKind.i64.wrap (IntKind.i64.wrap (IntKind.i64.wrap (a * s) + B) + q) > 1099511627776) then r else f (IntKind.i64.wrap (IntKind.i64.wrap (IntKind.i64.wrap (a * s) + B) + q))) =
   if (0 ≤ q ∧ q < L) ∧ a ≤ 1099511627776 / s ∧ a * s + B + q ≤ 1099511627776 then f (a * s + B + q) else r := by
 have q0 : 0 ≤ (1099511627776 : Int) / s := Int.ediv_nonneg (by omega) (by omega)
 have q1 : (1099511627776 : Int) / s ≤ 1099511627776 := Int.ediv_le_self _ (by omega)
 rw [Int.tdiv_eq_ediv_of_nonneg (by omega), w8n (n := 1099511627776 / s) (by omega) (by omega)]
 by_cases c1 : q < 0
 ·rw [bif_dT c1, if_neg (by omega)]
 rw [bif_dF c1]
 by_cases c2 : q ≥ L
 ·rw [bif_dT c2, if_neg (by omega)]
 rw [bif_dF c2]
 by_cases c3 : a > 1099511627776 / s
 ·rw [bif_dT c3, if_neg (by omega)]
 rw [bif_dF c3]
 have e1 : a * s ≤ 1099511627776 / s * s := Int.mul_le_mul_of_nonneg_right (by omega) (by omega)
 have e2 : (1099511627776 : Int) / s * s ≤ 1099511627776 := Int.ediv_mul_le _ (by omega)
 have e3 : 0 ≤ a * s := Int.mul_nonneg ha (by omega)
 rw [w8n (n := a * s) (by omega) (by omega), w8n (n := a * s + B) (by omega) (by omega), w8n (n := a * s + B + q) (by omega) (by omega)]
 by_cases c4 : a * s + B + q > 1099511627776
 ·rw [bif_dT c4, if_neg (by omega)]
 ·rw [bif_dF c4, if_pos ⟨by omega, by omega, by omega⟩]
def rkR (r : Int) (f : Int → Int) (m d n s a b p q : Int) : Int := if tkOk m d n s a b p q = true then f (a * s + tkB m d n b p + q) else r
theorem rk_fin {m d n s a b p q B L : Int} (f : Int → Int) (r : Int) (hb : 1 ≤ b ∧ b ≤ 5) (ha : 0 ≤ a) (hg : tkG n b p = true) (eB : tkB m d n b p = B) (eL : tkL m d b = L) :
  (if (0 ≤ q ∧ q < L) ∧ a ≤ 1099511627776 / s ∧ a * s + B + q ≤ 1099511627776 then f (a * s + B + q) else r) = rkR r f m d n s a b p q := by
 unfold rkR
 rw [eB]
 by_cases h : (0 ≤ q ∧ q < L) ∧ a ≤ 1099511627776 / s ∧ a * s + B + q ≤ 1099511627776
 ·rw [if_pos h, if_pos (ok_iff.2 ⟨hb, hg, by rw [eL]; exact h.1, ⟨ha, h.2.1⟩, by rw [eB]; exact h.2.2⟩)]
 ·rw [if_neg h, if_neg (fun g => h (by
   obtain ⟨_, _, g3, g4, g5⟩ := ok_iff.1 g
   rw [eL] at g3; rw [eB] at g5
   exact ⟨g3, g4.2, g5⟩))]
theorem rk_bad {m d n s a b p q : Int} (f : Int → Int) (r : Int) (h : ¬ (tkG n b p = true ∧ 0 ≤ a ∧ a ≤ 1099511627776 / s)) : r = rkR r f m d n s a b p q := by
 unfold rkR
 rw [if_neg (fun g => h (by
  obtain ⟨_, g2, _, g4, _⟩ := ok_iff.1 g
  exact ⟨g2, g4⟩))]
def rkTree (r r0 : Int) (f : Int → Int) (m d t s n a b p q : Int) : Int :=
 bif decide (b < 1) then r0 else bif decide (b > 5) then r0 else bif decide (a < 0) then r else bif decide (a > 1099511627776) then r else bif decide (p < 0) then r else bif decide (p ≥ n) then r else
 bif b == 2 then (bif decide (q < 0) then r else bif decide (q ≥ m) then r else bif decide (a > IntKind.i64.wrap (Int.tdiv (1099511627776 : Int) s)) then r else bif decide (IntKind.i64.wrap (IntKind.i64.wrap (IntKind.i64.wrap (a * s) + IntKind.i64.wrap (m + IntKind.i64.wrap (p * t))) + q) > 1099511627776) then r else f (IntKind.i64.wrap (IntKind.i64.wrap (IntKind.i64.wrap (a * s) + IntKind.i64.wrap (m + IntKind.i64.wrap (p * t))) + q)))
 else bif !b == 3 then (bif decide (p > 0) then r else bif decide (q < 0) then r else
  bif b == 5 then (bif decide (q ≥ d) then r else bif decide (a > IntKind.i64.wrap (Int.tdiv (1099511627776 : Int) s)) then r else bif decide (IntKind.i64.wrap (IntKind.i64.wrap (IntKind.i64.wrap (a * s) + IntKind.i64.wrap (IntKind.i64.wrap (m + IntKind.i64.wrap (n * t)) + m)) + q) > 1099511627776) then r else f (IntKind.i64.wrap (IntKind.i64.wrap (IntKind.i64.wrap (a * s) + IntKind.i64.wrap (IntKind.i64.wrap (m + IntKind.i64.wrap (n * t)) + m)) + q)))
  else bif decide (q ≥ m) then r else bif decide (a > IntKind.i64.wrap (Int.tdiv (1099511627776 : Int) s)) then r else
   bif b == 1 then (bif decide (IntKind.i64.wrap (IntKind.i64.wrap (IntKind.i64.wrap (a * s) + 0) + q) > 1099511627776) then r else f (IntKind.i64.wrap (IntKind.i64.wrap (IntKind.i64.wrap (a * s) + 0) + q)))
   else bif decide (IntKind.i64.wrap (IntKind.i64.wrap (IntKind.i64.wrap (a * s) + IntKind.i64.wrap (m + IntKind.i64.wrap (n * t))) + q) > 1099511627776) then r else f (IntKind.i64.wrap (IntKind.i64.wrap (IntKind.i64.wrap (a * s) + IntKind.i64.wrap (m + IntKind.i64.wrap (n * t))) + q)))
 else bif decide (q < 0) then r else bif decide (q ≥ d) then r else bif decide (a > IntKind.i64.wrap (Int.tdiv (1099511627776 : Int) s)) then r else bif decide (IntKind.i64.wrap (IntKind.i64.wrap (IntKind.i64.wrap (a * s) + IntKind.i64.wrap (IntKind.i64.wrap (m + IntKind.i64.wrap (p * t)) + m)) + q) > 1099511627776) then r else f (IntKind.i64.wrap (IntKind.i64.wrap (IntKind.i64.wrap (a * s) + IntKind.i64.wrap (IntKind.i64.wrap (m + IntKind.i64.wrap (p * t)) + m)) + q))
theorem rkTree_is (r r0 : Int) (f : Int → Int) {m d t s c n a b p q : Int} (h : ckX m d t s c = 0) (hn : trN m t s = n) :
  rkTree r r0 f m d t s n a b p q = if 1 ≤ b ∧ b ≤ 5 then rkR r f m d n s a b p q else r0 := by
 obtain ⟨h1, h2, h3, h4, h5, h6, h7⟩ := ck_all h
 rw [hn] at h4 h7
 have e2 : (1099511627776 : Int) / s ≤ 1099511627776 := Int.ediv_le_self _ (by omega)
 unfold rkTree
 by_cases b1 : b < 1
 ·rw [bif_dT b1, if_neg (by omega)]
 rw [bif_dF b1]
 by_cases b2 : b > 5
 ·rw [bif_dT b2, if_neg (by omega)]
 rw [bif_dF b2, if_pos (by omega)]
 by_cases a1 : a < 0
 ·rw [bif_dT a1]; exact rk_bad f r (by omega)
 rw [bif_dF a1]
 by_cases a2 : a > 1099511627776
 ·rw [bif_dT a2]; exact rk_bad f r (by omega)
 rw [bif_dF a2]
 have gp : tkG n b p = true → 0 ≤ p ∧ p < n := fun g => by
  unfold tkG at g
  split at g
  ·exact of_decide_eq_true g
  ·have := of_decide_eq_true g; omega
 by_cases p1 : p < 0
 ·rw [bif_dT p1]; exact rk_bad f r (fun g => by have := gp g.1; omega)
 rw [bif_dF p1]
 by_cases p2 : p ≥ n
 ·rw [bif_dT p2]; exact rk_bad f r (fun g => by have := gp g.1; omega)
 rw [bif_dF p2]
 have hp := mul_in (n := p) (t := t) (a := 16) (b := 400000) (by omega) (by omega) (by omega) (by omega)
 have hN := mul_in (n := n) (t := t) (a := 16) (b := 400000) (by omega) (by omega) (by omega) (by omega)
 rw [w8n (n := p * t) (by omega) (by omega), w8n (n := n * t) (by omega) (by omega), w8n (n := m + p * t) (by omega) (by omega), w8n (n := m + n * t) (by omega) (by omega), w8n (n := m + p * t + m) (by omega) (by omega), w8n (n := m + n * t + m) (by omega) (by omega)]
 rcases (by omega : b = 1 ∨ b = 2 ∨ b = 3 ∨ b = 4 ∨ b = 5) with rfl | rfl | rfl | rfl | rfl
 ·rw [show ((1 : Int) == 2) = false from rfl, cond_false, show (!((1 : Int) == 3)) = true from rfl, cond_true, show ((1 : Int) == 5) = false from rfl, cond_false, show ((1 : Int) == 1) = true from rfl, cond_true]
  by_cases p3 : p > 0
  ·rw [bif_dT p3]; exact rk_bad f r (fun g => by have := g.1; simp [tkG] at this; omega)
  ·rw [bif_dF p3, rk_tail f r h5 (by omega) (by omega) (by omega)]
   exact rk_fin f r (by omega) (by omega) (by simp [tkG]; omega) rfl rfl
 ·rw [show ((2 : Int) == 2) = true from rfl, cond_true, rk_tail f r h5 (by omega) (by omega) (by omega)]
  exact rk_fin f r (by omega) (by omega) (by simp [tkG]; omega) (by rw [h3]; rfl) rfl
 ·rw [show ((3 : Int) == 2) = false from rfl, cond_false, show (!((3 : Int) == 3)) = false from rfl, cond_false, rk_tail f r h5 (by omega) (by omega) (by omega)]
  exact rk_fin f r (by omega) (by omega) (by simp [tkG]; omega) (by rw [h3]; rfl) rfl
 ·rw [show ((4 : Int) == 2) = false from rfl, cond_false, show (!((4 : Int) == 3)) = true from rfl, cond_true, show ((4 : Int) == 5) = false from rfl, cond_false, show ((4 : Int) == 1) = false from rfl, cond_false]
  by_cases p3 : p > 0
  ·rw [bif_dT p3]; exact rk_bad f r (fun g => by have := g.1; simp [tkG] at this; omega)
  ·rw [bif_dF p3, rk_tail f r h5 (by omega) (by omega) (by omega)]
   exact rk_fin f r (by omega) (by omega) (by simp [tkG]; omega) (by rw [h3]; rfl) rfl
 ·rw [show ((5 : Int) == 2) = false from rfl, cond_false, show (!((5 : Int) == 3)) = true from rfl, cond_true, show ((5 : Int) == 5) = true from rfl, cond_true]
  by_cases p3 : p > 0
  ·rw [bif_dT p3]; exact rk_bad f r (fun g => by have := g.1; simp [tkG] at this; omega)
  ·rw [bif_dF p3, rk_tail f r h5 (by omega) (by omega) (by omega)]
   exact rk_fin f r (by omega) (by omega) (by simp [tkG]; omega) (by rw [h3]; rfl) rfl
theorem rTick (m d t s c a b p q : Int) (hs : s ≤ 9223372036854775807) (hcc : c ≤ 9223372036854775807) : KnownR Try.prog [] 24 [.val (.agg #[.int .i64 m, .int .i64 d, .int .i64 t, .int .i64 s, .int .i64 c]), .val (.agg #[.int .i64 a, .int .i64 b, .int .i64 p, .int .i64 q])] (.tuple #[.int .i64 (tkV m d t s c a b p q), .int .i64 (tkE' m d t s c a b p q)]) [] := by
 by_cases h : ckX m d t s c = 0
 ·obtain ⟨h1, h2, h3, h4, h5, h6, h7⟩ := ck_all h
  have k := rkT m d t s c a b p q h h1 h2 h6 h5 hs hcc
  have e1 : rkT_c1 m d t s c a b p q = tkE' m d t s c a b p q := by
   have : rkT_c1 m d t s c a b p q = rkTree 2 11 (fun _ => 0) m d t s (IntKind.i64.wrap (IntKind.i64.wrap ((IntKind.i64.wrap (s - m)).tdiv t) - (1 : Int))) a b p q := rfl
   rw [this, rtr_eq h, rkTree_is 2 11 (fun _ => 0) h rfl]
   unfold tkE' rkR
   rw [if_pos h]
  have e0 : rkT_c0 m d t s c a b p q = tkV m d t s c a b p q := by
   have : rkT_c0 m d t s c a b p q = rkTree 0 0 (fun x => x) m d t s (IntKind.i64.wrap (IntKind.i64.wrap ((IntKind.i64.wrap (s - m)).tdiv t) - (1 : Int))) a b p q := rfl
   rw [this, rtr_eq h, rkTree_is 0 0 (fun x => x) h rfl]
   unfold tkV tkE' rkR
   rw [if_pos h]
   by_cases hb : 1 ≤ b ∧ b ≤ 5
   ·rw [if_pos hb, if_pos hb]
    by_cases ho : tkOk m d (trN m t s) s a b p q = true
    ·rw [if_pos ho, if_pos ho, if_pos rfl]
    ·rw [if_neg ho, if_neg ho, if_neg (by decide)]
   ·rw [if_neg hb, if_neg hb, if_neg (by decide)]
  rw [e0, e1] at k
  exact k
 ·have e : tkE' m d t s c a b p q = ckX m d t s c := by unfold tkE'; rw [if_neg h]
  unfold tkV
  rw [e, if_neg h]
  exact rkE m d t s c a b p q hs hcc h
end Go.Proofs.Ytaogbagopdlkmaa
