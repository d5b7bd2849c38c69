import Derived.Test.YtcjlidciniiofaaOgI
import Derived.ProofKit
import Derived.IntWalk
set_option linter.unnecessarySimpa false
set_option linter.unusedSimpArgs false
set_option linter.unusedVariables false
namespace Go.Proofs.Ytcjlidciniiofaa
open Go Go.RowKit
set_option maxHeartbeats 8000000
set_option maxRecDepth 100000
theorem pNeeds_all {p g v q l s k : Int} (h : DOk p g v q l s k) : Known Try.prog [] 51 [.agg #[.int .i64 p, .int .i64 g, .int .i64 v, .int .i64 q, .int .i64 l], .int .i64 s, .int .i64 k] (.tuple #[.int .i64 (nN p g v q l s k), .int .i64 0]) := by
 have hb := nN_bounds h
 have h0 := h
 obtain ⟨a1, a2, a3, a4, a5, a6, a7, a8, a9, b1, b2, b3, c | c | c | c⟩ := h
 ·obtain ⟨rfl, c⟩ := c
  have r := pN0 p g v l s k ⟨a1, a2, a3, a4, a5, a6, a7, a8, a9, b1, b2, b3, c⟩
  have e : pN0_c0 p g v l s k = nN p g v 0 l s k := by unfold pN0_c0 nN; simp; exact c.2.2
  rw [e] at r; exact r
 ·obtain ⟨rfl, c⟩ := c
  have r := pN1 p g v l s k ⟨a1, a2, a3, a4, a5, a6, a7, a8, a9, b1, b2, b3, c⟩
  have e : pN1_c0 p g v l s k = nN p g v 1 l s k := by
   have hn : nN p g v 1 l s k = (rD s (tD p g + rT v) - v) + k + l := by unfold nN; simp
   obtain ⟨r1, r2, r3⟩ := rides_of h0 (.inl rfl)
   have bb := rD_bound (L := s) (n := tD p g + rT v) a7 r3
   have cc := rT_bound (v := v) a5 (by omega)
   have dd : tD p g ≤ 63000 := by unfold tD; omega
   unfold pN1_c0
   rw [dist1 ⟨a1, a2⟩ ⟨a3, a4⟩, w8 (v := rD s (tD p g + rT v) - v + k) (by omega), w8 (by omega), hn]; omega
  rw [e] at r; exact r
 ·obtain ⟨rfl, c⟩ := c
  have r := pN2 p g v l s k ⟨a1, a2, a3, a4, a5, a6, a7, a8, a9, b1, b2, b3, c⟩ (dtri_pred a5 (by omega))
  have e : pN2_c0 p g v l s k = nN p g v 2 l s k := by
   have hn : nN p g v 2 l s k = (rD s (tD p g + rT v) - v) + k + l := by unfold nN; simp
   obtain ⟨r1, r2, r3⟩ := rides_of h0 (.inr rfl)
   have bb := rD_bound (L := s) (n := tD p g + rT v) a7 r3
   have cc := rT_bound (v := v) a5 (by omega)
   have dd : tD p g ≤ 63000 := by unfold tD; omega
   unfold pN2_c0
   rw [dist1 ⟨a1, a2⟩ ⟨a3, a4⟩, w8 (v := rD s (tD p g + rT v) - v + k) (by omega), w8 (by omega), hn]; omega
  rw [e] at r; exact r
 ·obtain ⟨rfl, c⟩ := c
  have r := pN3 p g v l s k ⟨a1, a2, a3, a4, a5, a6, a7, a8, a9, b1, b2, b3, c⟩
  have e : pN3_c0 p g v l s k = nN p g v 3 l s k := by unfold pN3_c0 nN; simp
  rw [e] at r; exact r
noncomputable def mod_c0 (n m : Int) : Int := (bif (decide (m < (1 : Int))) then ((0 : Int)) else (bif (decide (n.tmod m < (0 : Int))) then (IntKind.i64.wrap (n.tmod m + m)) else (n.tmod m)))
theorem mod_p0 (n m : Int)  (hq0 : (decide (m < (1 : Int))) = true) : Known Try.prog [] 21 [.int .i64 n, .int .i64 m] (.int .i64 ((0 : Int))) :=
 open_res mix GOk.none (T := GTab.none) (fuel := 3000) (ans := [(0, .b 1)]) (log := [(decide (m < (1 : Int))) = true]) (by kernel_rfl) ⟨hq0, trivial⟩ (by kernel_rfl)
theorem mod_p1 (n m : Int)  (hq0 : (decide (m < (1 : Int))) = false) (hq1 : (m == (0 : Int)) = false) (hq2 : (decide (n.tmod m < (0 : Int))) = true) : Known Try.prog [] 21 [.int .i64 n, .int .i64 m] (.int .i64 (IntKind.i64.wrap (n.tmod m + m))) :=
 open_res mix GOk.none (T := GTab.none) (fuel := 3000) (ans := [(0, .b 0), (1, .b 0), (2, .b 1)]) (log := [(decide (n.tmod m < (0 : Int))) = true, (m == (0 : Int)) = false, (decide (m < (1 : Int))) = false]) (by kernel_rfl) ⟨hq2, hq1, hq0, trivial⟩ (by kernel_rfl)
theorem mod_p2 (n m : Int)  (hq0 : (decide (m < (1 : Int))) = false) (hq1 : (m == (0 : Int)) = false) (hq2 : (decide (n.tmod m < (0 : Int))) = false) : Known Try.prog [] 21 [.int .i64 n, .int .i64 m] (.int .i64 (n.tmod m)) :=
 open_res mix GOk.none (T := GTab.none) (fuel := 3000) (ans := [(0, .b 0), (1, .b 0), (2, .b 0)]) (log := [(decide (n.tmod m < (0 : Int))) = false, (m == (0 : Int)) = false, (decide (m < (1 : Int))) = false]) (by kernel_rfl) ⟨hq2, hq1, hq0, trivial⟩ (by kernel_rfl)
set_option maxHeartbeats 8000000 in
theorem mod (n m : Int)  : Known Try.prog [] 21 [.int .i64 n, .int .i64 m] (.int .i64 (mod_c0 n m)) := by
 rcases Bool.eq_false_or_eq_true (decide (m < (1 : Int))) with hq0 | hq0
 ·
  have e0 : mod_c0 n m = ((0 : Int)) := ((bif_t hq0 _ _).trans rfl); rw [e0]; exact mod_p0 n m hq0
 ·
  have hq1 : (m == (0 : Int)) = false := by
   rcases Bool.eq_false_or_eq_true (m == (0 : Int)) with h | h
   ·exfalso; (first | (simp_all only [Bool.and_eq_true, Bool.not_eq_true', Bool.false_eq_true, Bool.true_eq_false, reduceCtorEq]; done) | (simp only [sx, sy, eq_self, ne_eq, IntKind.wrap_i64, wrapU64, Int.reduceLT] at * <;> first | with_reducible contradiction | omega) | omega | ((try simp only [sx, sy, eq_self, ne_eq, IntKind.wrap_i64, wrapU64, Int.reduceLT] at *) <;> omega) | (simp_all; done))
   ·exact h
  rcases Bool.eq_false_or_eq_true (decide (n.tmod m < (0 : Int))) with hq2 | hq2
  ·
   have e0 : mod_c0 n m = (IntKind.i64.wrap (n.tmod m + m)) := ((bif_f hq0 _ _).trans ((bif_t hq2 _ _).trans rfl)); rw [e0]; exact mod_p1 n m hq0 hq1 hq2
  ·
   have e0 : mod_c0 n m = (n.tmod m) := ((bif_f hq0 _ _).trans ((bif_f hq2 _ _).trans rfl)); rw [e0]; exact mod_p2 n m hq0 hq1 hq2
theorem kMod {n m : Int} (h : 0 < m ∧ m ≤ 4611686018427387904) : Known Try.prog [] 21 [.int .i64 n, .int .i64 m] (.int .i64 (n % m)) := by
 have k := mod n m
 have e : mod_c0 n m = n % m := by
  unfold mod_c0
  have b0 := Int.emod_nonneg n (by omega : m ≠ 0)
  have b1 := Int.emod_lt_of_pos n h.1
  have c0 : decide (m < 1) = false := decide_eq_false (by omega)
  rw [c0, cond_false]
  by_cases hn : 0 ≤ n
  ·rw [Int.tmod_eq_emod_of_nonneg hn, decide_eq_false (by omega), cond_false]
  ·have t1 : n.tmod m = -((-n) % m) := by rw [tmodP h.1, if_neg hn]
   have d0 := Int.emod_nonneg (-n) (by omega : m ≠ 0)
   have d1 := Int.emod_lt_of_pos (-n) h.1
   have key : n % m = if (-n) % m = 0 then 0 else m - (-n) % m := by
    split
    ·rename_i z
     have := Int.dvd_of_emod_eq_zero z
     exact Int.emod_eq_zero_of_dvd (Int.dvd_neg.1 this)
    ·rename_i z
     have e1 : n = m - (-n) % m + m * (-((-n) / m) - 1) := by
      have := Int.emod_add_mul_ediv (-n) m
      rw [Int.mul_sub, Int.mul_neg, Int.mul_one]; omega
     rw [e1, Int.add_mul_emod_self_left, Int.emod_eq_of_lt (by omega) (by omega)]
     rw [← e1]
   rw [t1, key]
   split
   ·rename_i z
    rw [z]; simp
   ·rename_i z
    rw [decide_eq_true (by omega), cond_true, IntKind.wrap_i64]
    omega
 rw [e] at k
 exact k
end Go.Proofs.Ytcjlidciniiofaa
