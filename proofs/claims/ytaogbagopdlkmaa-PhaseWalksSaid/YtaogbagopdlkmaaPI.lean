import Derived.Test.YtaogbagopdlkmaaPE
import Derived.Test.YtaogbagopdlkmaaPF
set_option linter.unusedVariables false
namespace Go.Proofs.Ytaogbagopdlkmaa
open Go Go.RowKit
def tkG (n b p : Int) : Bool := if b = 2 ∨ b = 3 then decide (0 ≤ p ∧ p < n) else decide (p = 0)
def tkB (m d n b p : Int) : Int := if b = 1 then 0 else if b = 2 then m + p * (m + d) else if b = 3 then m + p * (m + d) + m else if b = 4 then m + n * (m + d) else m + n * (m + d) + m
def tkL (m d b : Int) : Int := if b = 3 ∨ b = 5 then d else m
def tkOk (m d n s a b p q : Int) : Bool := decide (1 ≤ b ∧ b ≤ 5) && tkG n b p && decide (0 ≤ q ∧ q < tkL m d b) && decide (0 ≤ a ∧ a ≤ 1099511627776 / s) && decide (a * s + tkB m d n b p + q ≤ 1099511627776)
def tkE' (m d t s c a b p q : Int) : Int := if ckX m d t s c = 0 then (if 1 ≤ b ∧ b ≤ 5 then (if tkOk m d (trN m t s) s a b p q then 0 else 2) else 11) else ckX m d t s c
def tkV (m d t s c a b p q : Int) : Int := if tkE' m d t s c a b p q = 0 then a * s + tkB m d (trN m t s) b p + q else 0
theorem prt_of (m d : Int) (N j : Nat) (h : j < 2 * N + 3) : (1 ≤ (prt m d N j).1 ∧ (prt m d N j).1 ≤ 5) ∧ tkG N (prt m d N j).1 (prt m d N j).2.1 = true ∧ (prt m d N j).2.2.1 = tkB m d N (prt m d N j).1 (prt m d N j).2.1 ∧ (prt m d N j).2.2.2 = tkL m d (prt m d N j).1 := by
 rcases odd_even j with rfl | ⟨i, rfl⟩ | ⟨i, rfl⟩
 ·rw [prt_zero]; simp [tkG, tkB, tkL]
 ·by_cases hi : i = N
  ·subst hi; rw [prt_pmove]; simp [tkG, tkB, tkL]
  ·rw [prt_move m d N i hi]
   have : i < N := by omega
   simp [tkG, tkB, tkL]; omega
 ·by_cases hi : i = N
  ·subst hi; rw [prt_pdoor]; simp [tkG, tkB, tkL]
  ·rw [prt_door m d N i hi]
   have : i < N := by omega
   simp [tkG, tkB, tkL]; omega
theorem prt_is (m d : Int) (N : Nat) (b p : Int) (hb : 1 ≤ b ∧ b ≤ 5) (hp : tkG N b p = true) : ∃ j, j < 2 * N + 3 ∧ prt m d N j = (b, p, tkB m d N b p, tkL m d b) := by
 rcases (by omega : b = 1 ∨ b = 2 ∨ b = 3 ∨ b = 4 ∨ b = 5) with rfl | rfl | rfl | rfl | rfl
 ·have : p = 0 := by simpa [tkG] using hp
  subst this
  exact ⟨0, by omega, by rw [prt_zero]; rfl⟩
 ·have : 0 ≤ p ∧ p < (N : Int) := by simpa [tkG] using hp
  obtain ⟨i, rfl⟩ : ∃ i : Nat, p = i := ⟨p.toNat, by omega⟩
  exact ⟨2 * i + 1, by omega, by rw [prt_move m d N i (by omega)]; rfl⟩
 ·have : 0 ≤ p ∧ p < (N : Int) := by simpa [tkG] using hp
  obtain ⟨i, rfl⟩ : ∃ i : Nat, p = i := ⟨p.toNat, by omega⟩
  exact ⟨2 * i + 2, by omega, by rw [prt_door m d N i (by omega)]; rfl⟩
 ·have : p = 0 := by simpa [tkG] using hp
  subst this
  exact ⟨2 * N + 1, by omega, by rw [prt_pmove]; rfl⟩
 ·have : p = 0 := by simpa [tkG] using hp
  subst this
  exact ⟨2 * N + 2, by omega, by rw [prt_pdoor]; rfl⟩
theorem fits_is {x : Prt} {b p q : Int} (h : fits x b p q = true) : x.1 = b ∧ x.2.1 = p ∧ 0 ≤ q ∧ q < x.2.2.2 := by
 simpa [fits] using h
theorem pTick (m d t s c a b p q : Int) : KnownR Try.prog [] 23 [.val (.agg #[.int .i64 m, .int .i64 d, .int .i64 t, .int .i64 s, .int .i64 c]), .val (.agg #[.int .i64 a, .int .i64 b, .int .i64 p, .int .i64 q])] (.tuple #[.int .i64 (tkV m d t s c a b p q), .int .i64 (tkE' m d t s c a b p q)]) [] := by
 by_cases h : ckX m d t s c = 0
 ·obtain ⟨h1, h2, h3, h4, h5, h6, h7⟩ := ck_all h
  obtain ⟨N, hN⟩ : ∃ N : Nat, trN m t s = N := ⟨(trN m t s).toNat, by omega⟩
  have hN2 : N ≤ 16 := by omega
  have hsl := slot_len (d := d) hN (by omega) h3
  have hb0 := nmul (n := N) (t := m + d) (by omega) (by omega) (by omega)
  have w1 := w8n (n := m + N * (m + d) + m) (by omega) (by omega)
  have w2 := w8n (n := m + N * (m + d) + m + d) (by omega) (by omega)
  have hW : IntKind.i64.wrap (IntKind.i64.wrap (m + N * (m + d) + m) + d) = s := by rw [w1, w2, hsl]
  have hD := tkD_ok m d t s c a b p q h h1 h2 h6 h4 (N + 1) 0 _ (by rw [tkD_eq m d t s c a b p q 0]; exact ofD_all h1 h2 hN hN2)
  dsimp only at hD
  have hz : (pts m d N (2 * N + 1)).reverse.length ≤ 33 := by rw [List.length_reverse, pts_len]; omega
  have hk1 : (ckX m d t s c != (0 : Int)) = false := by rw [h]; rfl
  have hs1 : 1 ≤ IntKind.i64.wrap (IntKind.i64.wrap (m + N * (m + d) + m) + d) := by rw [hW]; exact h5.1
  have hdiv : IntKind.i64.wrap ((1099511627776 : Int).tdiv (IntKind.i64.wrap (IntKind.i64.wrap (m + N * (m + d) + m) + d))) = 1099511627776 / s := by
   have q0 : 0 ≤ (1099511627776 : Int) / s := Int.ediv_nonneg (by omega) (by omega)
   have q1 : (1099511627776 : Int) / s ≤ 1099511627776 := Int.ediv_le_self _ (by omega)
   rw [hW, Int.tdiv_eq_ediv_of_nonneg (by omega), w8n (by omega) (by omega)]
  by_cases hb : 1 ≤ b ∧ b ≤ 5
  ·by_cases ha : 0 ≤ a
   ·by_cases hg : a > 1099511627776 / s
    ·have e : tkE' m d t s c a b p q = 2 := by
      unfold tkE'; rw [if_pos h, if_pos hb, if_neg]
      unfold tkOk
      rw [show decide (0 ≤ a ∧ a ≤ 1099511627776 / s) = false from decide_eq_false (by omega)]
      simp
     unfold tkV
     rw [e, if_neg (by decide)]
     exact tkQ m d t s c a b p q _ _ _ h h1 h2 h6 h4 hz hs1 hb ha (by rw [hdiv]; exact decide_eq_true hg) hk1 hD
    ·have hg1 : decide (a > IntKind.i64.wrap ((1099511627776 : Int).tdiv (IntKind.i64.wrap (IntKind.i64.wrap (m + N * (m + d) + m) + d)))) = false := by rw [hdiv]; exact decide_eq_false hg
     have has : a * s ≤ 1099511627776 := by
      have e1 : a * s ≤ 1099511627776 / s * s := Int.mul_le_mul_of_nonneg_right (by omega) (by omega)
      have e2 : (1099511627776 : Int) / s * s ≤ 1099511627776 := Int.ediv_mul_le _ (by omega)
      omega
     obtain ⟨kk, z, g1, g2⟩ := tkS_go (m := m) (d := d) (t := t) (s := s) (c := c) (a := a) (b := b) (p := p) (q := q) (N := N) (N : Int) h1 h2 hN2 hsl ⟨ha, has⟩ (2 * N + 3) 0 (by omega)
     rw [List.drop_zero] at g2
     have hS := tkS_ok m d t s c a b p q (pts m d N (2 * N + 1)).reverse (N : Int) (m + N * (m + d)) h h1 h2 h6 h4 hz hs1 hb ha hg1 hk1 hD (2 * N + 3 + 1) kk z g1
     rcases g2 with ⟨rfl, j, rfl, hj, hf⟩ | ⟨rfl, hf⟩
     ·have hpred := List.find?_some hf
      simp only [Bool.and_eq_true, decide_eq_true_eq] at hpred
      obtain ⟨f1, f2, f3, f4⟩ := fits_is hpred.1
      obtain ⟨p1, p2, p3, p4⟩ := prt_of m d N j hj
      rw [f1, f2] at p2 p3
      rw [f1] at p4
      have hv : a * s + tkB m d N b p + q ≤ 1099511627776 := by
       have := hpred.2
       unfold tkOf at this
       rw [p3] at this; exact this
      have e : tkE' m d t s c a b p q = 0 := by
       unfold tkE'; rw [if_pos h, if_pos hb, hN, if_pos]
       unfold tkOk
       rw [decide_eq_true hb, p2, decide_eq_true (show 0 ≤ q ∧ q < tkL m d b by rw [← p4]; exact ⟨f3, f4⟩), decide_eq_true (show 0 ≤ a ∧ a ≤ 1099511627776 / s by omega), decide_eq_true hv]
       rfl
      unfold tkV
      rw [e, if_pos rfl, hN]
      have k := tk0 m d t s c a b p q (pts m d N (2 * N + 1)).reverse (N : Int) (m + N * (m + d)) (j : Int) h h1 h2 h6 h4 hz hs1 hb ha hg1 hk1 hD
      have e0 : tk0_c0 m d t s c a b p q (pts m d N (2 * N + 1)).reverse (N : Int) (m + N * (m + d)) (j : Int) = a * s + tkB m d N b p + q := by
       unfold tk0_c0
       have hfb : 0 ≤ tkB m d N b p ∧ tkB m d N b p ≤ 8000000 := by
        rw [← p3, prt_fst]
        have := fst_mono h1.1 h2.1 (a := 0) (b := j) (by omega)
        have g := fst_mono h1.1 h2.1 (a := j) (b := 2 * (N + 1) + 1) (by omega)
        rw [fst_odd, nsucc] at g
        have f0 : fst m d 0 = 0 := by unfold fst; rw [if_pos rfl]
        rw [f0] at this
        omega
       have hA0 : 0 ≤ a * s := Int.mul_nonneg ha (by omega)
       rw [hW, w1, ptL_eq, ptL_el m d N j hj, p3, w8n (n := a * s) (by omega) (by omega), w8n (n := a * s + tkB m d N b p) (by omega) (by omega), w8n (by omega) (by omega)]
      rw [e0] at k
      exact k (decide_eq_true (by omega)) (decide_eq_true (by omega)) (decide_eq_true hb.1) (by rw [decide_eq_true hb.2]; rfl) (decide_eq_false (by omega)) (by rw [hW]; exact beq_eq_false_iff_ne.2 (by omega)) hg1 hS
     ·have e : tkE' m d t s c a b p q = 2 := by
       unfold tkE'; rw [if_pos h, if_pos hb, hN, if_neg]
       intro hok
       unfold tkOk at hok
       simp only [Bool.and_eq_true, decide_eq_true_eq] at hok
       obtain ⟨⟨⟨⟨_, o2⟩, o3⟩, o4⟩, o5⟩ := hok
       obtain ⟨j, hj, hp⟩ := prt_is m d N b p hb o2
       have hm : prt m d N j ∈ ptL m d N := List.mem_map.2 ⟨j, List.mem_range.2 hj, rfl⟩
       have := List.find?_eq_none.1 hf _ hm
       apply this
       rw [hp]
       simp [fits, tkOf, o3.1, o3.2, o5]
      unfold tkV
      rw [e, if_neg (by decide)]
      have k := tk1 m d t s c a b p q (pts m d N (2 * N + 1)).reverse (N : Int) (m + N * (m + d)) z h h1 h2 h6 h4 hz hs1 hb ha hg1 hk1 hD
      exact k (decide_eq_true (by omega)) (decide_eq_true (by omega)) (decide_eq_true hb.1) (by rw [decide_eq_true hb.2]; rfl) (decide_eq_false (by omega)) (by rw [hW]; exact beq_eq_false_iff_ne.2 (by omega)) hg1 hS
   ·have e : tkE' m d t s c a b p q = 2 := by
     unfold tkE'; rw [if_pos h, if_pos hb, if_neg]
     unfold tkOk
     rw [show decide (0 ≤ a ∧ a ≤ 1099511627776 / s) = false from decide_eq_false (by omega)]
     simp
    unfold tkV
    rw [e, if_neg (by decide)]
    exact tkR m d t s c a b p q _ _ _ h h1 h2 h6 h4 hz hs1 hb ha hk1 hD
  ·have e : tkE' m d t s c a b p q = 11 := by unfold tkE'; rw [if_pos h, if_neg hb]
   unfold tkV
   rw [e, if_neg (by decide)]
   exact tkK m d t s c a b p q _ _ _ h h1 h2 h6 h4 hz hs1 hb hk1 hD
 ·have e : tkE' m d t s c a b p q = ckX m d t s c := by unfold tkE'; rw [if_neg h]
  unfold tkV
  rw [e, if_neg h]
  exact tkE m d t s c a b p q h
end Go.Proofs.Ytaogbagopdlkmaa
