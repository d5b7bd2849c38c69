/- Layer 2: the lists of floors. -/
import Derived.Test.YtboobndcgilmlaaDoorOgF
import Derived.Test.YtboobndcgilmlaaDoorMH
namespace Go.Proofs.YtboobndcgilmlaaDoor
open Go Go.RowKit
set_option linter.unusedVariables false
/-- the floors of a set from i on, k numbers -/
def lsF (m : Int) : Nat → Nat → List Int
  | 0, _ => []
  | k + 1, i => bif tb m i then (i : Int) :: lsF m k (i + 1) else lsF m k (i + 1)
/-- the floors of a set -/
def lsL (m : Int) : List Int := lsF m 64 0
theorem rlA_go {m : Int} (hw : isW m = true) : ∀ (k i : Nat) (Y : List Int), i + k = 64 → Y.length ≤ i → rlA_f m (k + 1) Y (i : Int) = some (0, ((lsF m k i).reverse ++ Y, 64)) := by
  intro k
  induction k with
  | zero =>
    intro i Y h hY
    rw [rlA_f, decide_eq_true ⟨by omega, by omega, by omega⟩, cond_true, decide_eq_false (by omega), cond_false]
    simp only [lsF, List.reverse_nil, List.nil_append]
    rw [show (i : Int) = 64 by omega]
  | succ k ih =>
    intro i Y h hY
    have e1 : hs m (i : Int) = tb m i := by unfold hs; rw [decide_eq_true (by omega), Bool.true_and, Int.toNat_natCast]
    have w1 : IntKind.i64.wrap ((i : Int) + 1) = ((i + 1 : Nat) : Int) := by rw [i64s (by omega)]; rfl
    rw [rlA_f, decide_eq_true ⟨by omega, by omega, by omega⟩, cond_true, decide_eq_true (by omega), cond_true, e1, w1]
    cases e : tb m i with
    | true =>
      rw [cond_true, ih (i + 1) _ (by omega) (by simp; omega)]
      simp only [lsF, e, cond_true, List.reverse_cons, List.append_assoc, List.singleton_append]
    | false =>
      rw [cond_false, ih (i + 1) _ (by omega) (by omega)]
      simp only [lsF, e, cond_false]
theorem rlist_k {m : Int} (hw : isW m = true) : KnownR Tryd.prog knMaskKnownL 23 [.val (.int .u64 m)] (.complex .f64 0 (lsL m).length) [(rowA gI (lsL m), 3)] := by
  have g := rlA_go hw 64 0 [] (by omega) (by simp)
  have k := rl1 m _ _ hw (rlA_ok m hw _ _ _ g)
  have e : rl1_c0 m ((lsF m 64 0).reverse ++ []) 64 = lsL m := by unfold rl1_c0; simp [lsL]
  rw [e] at k
  exact k
/-- a word less one -/
theorem pred_tb {x : Int} (h : 0 < x) (h1 : x < 18446744073709551616) : tb (x - 1) (tzI x).toNat = false ∧ ∀ j : Nat, tzI x < (j : Int) → tb (x - 1) j = tb x j := by
  obtain ⟨q, hq, hk⟩ := Lib.ctzFrom_spec 64 x.toNat (by omega) (by omega)
  have e : tzI x = ((Lib.ctzFrom 64 x.toNat : Nat) : Int) := by unfold tzI Lib.ctz; rw [if_neg (by omega)]
  rw [e, Int.toNat_natCast]
  generalize Lib.ctzFrom 64 x.toNat = c at hq hk
  have hp : 0 < 2 ^ c := Nat.pow_pos (by decide)
  have e1 : x.toNat = 2 ^ (c + 1) * q + 2 ^ c := by rw [hq, Nat.mul_add, Nat.mul_one, Nat.pow_succ, Nat.mul_assoc]
  have e2 : (x - 1).toNat = 2 ^ (c + 1) * q + (2 ^ c - 1) := by omega
  have lt1 : 2 ^ c < 2 ^ (c + 1) := by rw [Nat.pow_succ]; omega
  unfold tb
  refine ⟨?_, fun j hj => ?_⟩
  · rw [e2, Nat.testBit_two_pow_mul_add q (b := 2 ^ c - 1) (i := c + 1) (by omega), if_pos (by omega), Nat.testBit_two_pow_sub_one, decide_eq_false (by omega)]
  · rw [e2, e1, Nat.testBit_two_pow_mul_add q (b := 2 ^ c - 1) (i := c + 1) (by omega), Nat.testBit_two_pow_mul_add q (b := 2 ^ c) (i := c + 1) lt1, if_neg (by omega), if_neg (by omega)]
theorem plA_go {m : Int} (hw : isW m = true) : ∀ (k i : Nat) (Y : List Int) (y : Int) (fu : Nat), i + k = 64 → Y.length ≤ i → isW y = true → (∀ j : Nat, tb y j = (decide (i ≤ j) && tb m j)) → k + 1 ≤ fu → plA_f m fu Y y = some (0, ((lsF m k i).reverse ++ Y, 0)) := by
  intro k
  induction k with
  | zero =>
    intro i Y y fu h hY hy hb hf
    have y0 : y = 0 := tb_zero (isW_iff.1 hy).1 fun j => by
      rw [hb]
      rcases (by omega : j < i ∨ 64 ≤ j) with c | c
      · rw [decide_eq_false (by omega), Bool.false_and]
      · rw [tb_big (isW_iff.1 hw) c, Bool.and_false]
    subst y0
    obtain ⟨f, rfl⟩ : ∃ f, fu = f + 1 := ⟨fu - 1, by omega⟩
    rw [plA_f, decide_eq_true ⟨by omega, by omega, by omega⟩, cond_true, show ((0 : Int) != 0) = false by decide, cond_false]
    simp only [lsF, List.reverse_nil, List.nil_append]
  | succ k ih =>
    intro i Y y fu h hY hy hb hf
    cases e : tb m i with
    | false =>
      simp only [lsF, e, cond_false]
      refine ih (i + 1) Y y fu (by omega) (by omega) hy (fun j => ?_) (by omega)
      rw [hb]
      by_cases c : i = j
      · subst c; rw [e, Bool.and_false, Bool.and_false]
      · by_cases d : i ≤ j
        · rw [decide_eq_true d, decide_eq_true (by omega : i + 1 ≤ j)]
        · rw [decide_eq_false d, decide_eq_false (by omega : ¬ i + 1 ≤ j)]
    | true =>
      simp only [lsF, e, cond_true]
      obtain ⟨f, rfl⟩ : ∃ f, fu = f + 1 := ⟨fu - 1, by omega⟩
      have hi : tb y i = true := by rw [hb, decide_eq_true (Nat.le_refl _), e]; rfl
      have hyb := isW_iff.1 hy
      have hp := tb_pos hyb.1 hi
      obtain ⟨t1, t2, t3, t4⟩ := tz_spec hp hyb.2
      have et : tzI y = (i : Int) := by
        rcases (by omega : (i : Int) < tzI y ∨ tzI y = (i : Int) ∨ tzI y < (i : Int)) with c | c | c
        · rw [t4 i c] at hi; cases hi
        · exact c
        · rw [hb, decide_eq_false (by omega), Bool.false_and] at t3; cases t3
      obtain ⟨q1, q2⟩ := pred_tb hp hyb.2
      rw [et] at q1 q2
      rw [Int.toNat_natCast] at q1
      have wy : IntKind.u64.wrap (y - 1) = y - 1 := wrapU ⟨by omega, by omega⟩
      have wW : isW (y - 1) = true := isW_iff.2 ⟨by omega, by omega⟩
      rw [plA_f, decide_eq_true ⟨by omega, by omega, by omega⟩, cond_true, show (y != 0) = true by simp; omega, cond_true, et, wy, ih (i + 1) _ _ f (by omega) (by simp; omega) (isW_bv _) (fun j => ?_) (by omega)]
      · simp only [List.reverse_cons, List.append_assoc, List.singleton_append]
      · rw [tb_and hy wW, hb]
        rcases (by omega : j < i ∨ j = i ∨ i < j) with c | c | c
        · rw [decide_eq_false (by omega : ¬ i ≤ j), decide_eq_false (by omega : ¬ i + 1 ≤ j)]; simp
        · subst c; rw [q1, decide_eq_false (by omega : ¬ j + 1 ≤ j)]; simp
        · rw [q2 j (by omega), hb, decide_eq_true (by omega : i ≤ j), decide_eq_true (by omega : i + 1 ≤ j)]; simp
theorem list_k {m : Int} (hw : isW m = true) : KnownR Tryd.prog knMaskKnownL 22 [.val (.int .u64 m)] (.complex .f64 0 (lsL m).length) [(rowA gI (lsL m), 3)] := by
  have g := plA_go hw 64 0 [] m 65 (by omega) (by simp) hw (fun j => by simp) (by omega)
  have k := pl1 m _ _ hw (isW_iff.1 hw) (plA_ok m hw (isW_iff.1 hw) _ _ _ g)
  have e : pl1_c0 m ((lsF m 64 0).reverse ++ []) 0 = lsL m := by unfold pl1_c0; simp [lsL]
  rw [e] at k
  exact k
theorem lsF_len (m : Int) : ∀ (k i : Nat), (lsF m k i).length = bct k (m.toNat / 2 ^ i)
  | 0, i => rfl
  | k + 1, i => by
    have e : bct (k + 1) (m.toNat / 2 ^ i) = m.toNat / 2 ^ i % 2 + bct k (m.toNat / 2 ^ (i + 1)) := by
      show _ % 2 + bct k (m.toNat / 2 ^ i / 2) = _
      rw [Nat.div_div_eq_div_mul, Nat.pow_succ]
    have t : tb m i = decide (m.toNat / 2 ^ i % 2 = 1) := by unfold tb; rw [Nat.testBit_eq_decide_div_mod_eq]
    rw [e, ← lsF_len m k (i + 1)]
    simp only [lsF]
    rcases (by omega : m.toNat / 2 ^ i % 2 = 0 ∨ m.toNat / 2 ^ i % 2 = 1) with c | c
    · rw [t, c]; simp
    · rw [t, c]; simp; omega
theorem lsL_len (m : Int) : ((lsL m).length : Int) = bctI m := by
  unfold lsL bctI; rw [lsF_len]; simp
theorem lsL_le (m : Int) : (lsL m).length ≤ 64 := by
  have := bct_b m
  have := lsL_len m
  omega
/-- what is in the list, and in which order -/
theorem lsF_at {m : Int} : ∀ (k i n : Nat), n < (lsF m k i).length → ∃ j : Nat, el (lsF m k i) (n : Int) = (j : Int) ∧ i ≤ j ∧ j < i + k ∧ tb m j = true ∧ (∀ q : Nat, n + 1 < (lsF m k i).length → j < q → (q : Int) < el (lsF m k i) ((n + 1 : Nat) : Int) → tb m q = false) ∧ (n + 1 < (lsF m k i).length → (j : Int) < el (lsF m k i) ((n + 1 : Nat) : Int)) ∧ (n + 1 = (lsF m k i).length → ∀ q : Nat, j < q → q < i + k → tb m q = false) ∧ (n = 0 → ∀ q : Nat, i ≤ q → q < j → tb m q = false)
  | 0, i, n, h => by simp [lsF] at h
  | k + 1, i, n, h => by
    cases e : tb m i with
    | false =>
      simp only [lsF, e, cond_false] at h ⊢
      obtain ⟨j, h1, h2, h3, h4, h5, h6, h7, h8⟩ := lsF_at k (i + 1) n h
      refine ⟨j, h1, by omega, by omega, h4, h5, h6, fun a q hq hq2 => h7 a q hq (by omega), fun a q hq hq2 => ?_⟩
      rcases (by omega : q = i ∨ i + 1 ≤ q) with c | c
      · rw [c]; exact e
      · exact h8 a q c hq2
    | true =>
      simp only [lsF, e, cond_true] at h ⊢
      have cz : ∀ (a : Int) (l : List Int), el (a :: l) ((0 : Nat) : Int) = a := fun _ _ => rfl
      have cs : ∀ (a : Int) (l : List Int) (n : Nat), el (a :: l) ((n + 1 : Nat) : Int) = el l (n : Int) := fun a l n => by unfold el; simp
      cases n with
      | zero =>
        refine ⟨i, cz _ _, Nat.le_refl _, by omega, e, fun q hq h1 h2 => ?_, fun hq => ?_, fun hq q h1 h2 => ?_, fun _ q h1 h2 => by omega⟩
        · have hl : 0 < (lsF m k (i + 1)).length := by simpa using hq
          obtain ⟨j, g1, g2, g3, g4, g5, g6, g7, g8⟩ := lsF_at k (i + 1) 0 hl
          rw [show (0 + 1 : Nat) = 0 + 1 from rfl, cs, g1] at h2
          exact g8 rfl q (by omega) (by omega)
        · have hl : 0 < (lsF m k (i + 1)).length := by simpa using hq
          obtain ⟨j, g1, g2, _⟩ := lsF_at k (i + 1) 0 hl
          rw [show (0 + 1 : Nat) = 0 + 1 from rfl, cs, g1]; omega
        · have hl : (lsF m k (i + 1)).length = 0 := by simpa using hq.symm
          exact lsF_none k (i + 1) hl q (by omega) (by omega)
      | succ n =>
        have hn : n < (lsF m k (i + 1)).length := by simpa using h
        obtain ⟨j, g1, g2, g3, g4, g5, g6, g7, g8⟩ := lsF_at k (i + 1) n hn
        refine ⟨j, by rw [cs, g1], by omega, by omega, g4, fun q hq h1 h2 => ?_, fun hq => ?_, fun hq q h1 h2 => ?_, fun hq => by omega⟩
        · rw [cs] at h2; exact g5 q (by simpa using hq) h1 h2
        · rw [cs]; exact g6 (by simpa using hq)
        · exact g7 (by simpa using hq) q h1 (by omega)
where lsF_none {m : Int} : ∀ (k i : Nat), (lsF m k i).length = 0 → ∀ q : Nat, i ≤ q → q < i + k → tb m q = false
  | 0, i, h, q, h1, h2 => by omega
  | k + 1, i, h, q, h1, h2 => by
    cases e : tb m i with
    | true => simp only [lsF, e, cond_true] at h; simp at h
    | false =>
      simp only [lsF, e, cond_false] at h
      rcases (by omega : q = i ∨ i + 1 ≤ q) with c | c
      · rw [c]; exact e
      · exact lsF_none k (i + 1) h q c (by omega)
end Go.Proofs.YtboobndcgilmlaaDoor
