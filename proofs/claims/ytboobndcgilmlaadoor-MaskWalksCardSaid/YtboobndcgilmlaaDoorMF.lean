/- Layer 2: Put and All, of the program and of the reference. -/
import Derived.Test.YtboobndcgilmlaaDoorOgD
namespace Go.Proofs.YtboobndcgilmlaaDoor
open Go Go.RowKit
set_option linter.unusedVariables false
theorem isW_iff {m : Int} : isW m = true ↔ 0 ≤ m ∧ m < 18446744073709551616 := by unfold isW; exact decide_eq_true_iff
theorem isW_bv (x : BitVec 64) : isW (IntKind.u64.wrap (x.toNat : Int)) = true := by rw [isW_iff, wrapU (bv_in x)]; exact bv_in x
theorem tb_or {a b : Int} (ha : isW a = true) (hb : isW b = true) (i : Nat) : tb (IntKind.u64.wrap ((BitVec.ofInt 64 a ||| BitVec.ofInt 64 b).toNat : Int)) i = (tb a i || tb b i) := by
  rw [tbv, BitVec.getLsbD_or, ofi (isW_iff.1 ha), ofi (isW_iff.1 hb)]
theorem tb_not {a b : Int} (ha : isW a = true) (hb : isW b = true) (i : Nat) : tb (IntKind.u64.wrap ((BitVec.ofInt 64 a &&& ~~~BitVec.ofInt 64 b).toNat : Int)) i = (tb a i && !tb b i) := by
  rw [tbv, BitVec.getLsbD_and, ofi (isW_iff.1 ha), BitVec.getLsbD_not, ofi (isW_iff.1 hb)]
  rcases (by omega : i < 64 ∨ 64 ≤ i) with c | c
  · rw [decide_eq_true c, Bool.true_and]
  · rw [tb_big (isW_iff.1 ha) c, Bool.false_and, Bool.false_and]
theorem tb_and {a b : Int} (ha : isW a = true) (hb : isW b = true) (i : Nat) : tb (IntKind.u64.wrap ((BitVec.ofInt 64 a &&& BitVec.ofInt 64 b).toNat : Int)) i = (tb a i && tb b i) := by
  rw [tbv, BitVec.getLsbD_and, ofi (isW_iff.1 ha), ofi (isW_iff.1 hb)]
theorem isW_ext {a b : Int} (ha : isW a = true) (hb : isW b = true) (h : ∀ i, tb a i = tb b i) : a = b := tb_ext (isW_iff.1 ha).1 (isW_iff.1 hb).1 h
theorem one_is {f : Int} (h : 0 ≤ f ∧ f < 64) : IntKind.u64.wrap ((1 : Int) * (2 : Int) ^ min (IntKind.u64.wrap f).toNat (64 : Nat)) = ((2 ^ f.toNat : Nat) : Int) := by
  have hp := pow_in (k := f.toNat) (by omega)
  rw [minU h, Int.one_mul, wrapU (v := (2 : Int) ^ f.toNat) ⟨by omega, hp.1⟩]
  simp
theorem one_W {f : Int} (h : 0 ≤ f ∧ f < 64) : isW (IntKind.u64.wrap ((1 : Int) * (2 : Int) ^ min (IntKind.u64.wrap f).toNat (64 : Nat))) = true := by
  rw [one_is h, isW_iff]
  have hp := pow_in (k := f.toNat) (by omega)
  have e : ((2 ^ f.toNat : Nat) : Int) = (2 : Int) ^ f.toNat := by simp
  omega
theorem one_tb {f : Int} (h : 0 ≤ f ∧ f < 64) (i : Nat) : tb (IntKind.u64.wrap ((1 : Int) * (2 : Int) ^ min (IntKind.u64.wrap f).toNat (64 : Nat))) i = decide (f.toNat = i) := by
  rw [one_is h]; unfold tb; rw [Int.toNat_natCast, Nat.testBit_two_pow]
theorem span_W {a b : Int} (h0 : 0 ≤ a) (h : a ≤ b) (hb : b < 64) : isW (IntKind.u64.wrap (IntKind.u64.wrap ((2 : Int) * (2 : Int) ^ min (IntKind.u64.wrap b).toNat (64 : Nat)) - IntKind.u64.wrap ((1 : Int) * (2 : Int) ^ min (IntKind.u64.wrap a).toNat (64 : Nat)))) = true := by
  rw [span_is h0 h hb, isW_iff]; exact span_in (by omega)
theorem span_bits {a b : Int} (h0 : 0 ≤ a) (h : a ≤ b) (hb : b < 64) (i : Nat) : tb (IntKind.u64.wrap (IntKind.u64.wrap ((2 : Int) * (2 : Int) ^ min (IntKind.u64.wrap b).toNat (64 : Nat)) - IntKind.u64.wrap ((1 : Int) * (2 : Int) ^ min (IntKind.u64.wrap a).toNat (64 : Nat)))) i = decide (a.toNat ≤ i ∧ i ≤ b.toNat) := by
  rw [span_is h0 h hb]; unfold tb; rw [Int.toNat_natCast, span_tb (by omega) (by omega)]
/-- the program's Put -/
noncomputable def puV (m a b : Int) (c : Bool) : Int := puP_c0 m a b c
noncomputable def puE (m a b : Int) (c : Bool) : Int := puP_c1 m a b c
theorem put_k {m : Int} (h : isW m = true) (a b : Int) (c : Bool) : Known Tryd.prog knMaskKnownL 25 [.int .u64 m, .int .i64 a, .int .i64 b, .bool c] (.tuple #[.int .u64 (puV m a b c), .int .i64 (puE m a b c)]) := puP m a b c (isW_iff.1 h)
theorem put_is {m a b : Int} {c : Bool} (hm : isW m = true) (h : 0 ≤ a ∧ a ≤ b ∧ b ≤ 63) : isW (puV m a b c) = true ∧ puE m a b c = 0 ∧ ∀ i, tb (puV m a b c) i = if a.toNat ≤ i ∧ i ≤ b.toNat then c else tb m i := by
  unfold puV puE puP_c0 puP_c1
  rw [decide_eq_false (by omega), cond_false, cond_false, decide_eq_false (by omega), cond_false, cond_false, decide_eq_true (by omega : b < 64), Bool.not_true, cond_false, cond_false]
  have hs := span_W h.1 h.2.1 (by omega)
  refine ⟨?_, rfl, fun i => ?_⟩
  · cases c
    · exact isW_bv _
    · exact isW_bv _
  · cases c
    · rw [cond_false, tb_not hm hs, span_bits h.1 h.2.1 (by omega)]
      split
      · rename_i e; rw [decide_eq_true e]; simp
      · rename_i e; rw [decide_eq_false e]; simp
    · rw [cond_true, tb_or hm hs, span_bits h.1 h.2.1 (by omega)]
      split
      · rename_i e; rw [decide_eq_true e]; simp
      · rename_i e; rw [decide_eq_false e]; simp
theorem put_no {m a b : Int} {c : Bool} (h : ¬ (0 ≤ a ∧ a ≤ b ∧ b ≤ 63)) : puV m a b c = 0 ∧ puE m a b c = 2 := by
  unfold puV puE puP_c0 puP_c1
  by_cases h1 : a < 0
  · rw [decide_eq_true h1]; exact ⟨rfl, rfl⟩
  · by_cases h2 : a > b
    · rw [decide_eq_false h1, decide_eq_true h2]; exact ⟨rfl, rfl⟩
    · rw [decide_eq_false h1, decide_eq_false h2, decide_eq_false (by omega : ¬ b < 64)]; exact ⟨rfl, rfl⟩
theorem i64s {v : Int} (h : -1000 ≤ v ∧ v ≤ 1000) : IntKind.i64.wrap v = v := Go.IntWalk.i64_in _ ⟨by omega, by omega⟩
theorem rpA_go {m a b : Int} {c : Bool} (h : 0 ≤ a ∧ a ≤ b ∧ b ≤ 63) : ∀ (k : Nat) (y0 y1 : Int), y1 + k = b + 1 → isW y0 = true → 0 ≤ y1 → ∃ z, rpA_f m a b c (k + 1) y0 y1 = some (0, (z, b + 1)) ∧ isW z = true ∧ ∀ i, tb z i = if y1.toNat ≤ i ∧ i ≤ b.toNat then c else tb y0 i := by
  intro k
  induction k with
  | zero =>
    intro y0 y1 hk hy h1
    rw [rpA_f, decide_eq_true (by omega), cond_true, decide_eq_false (by omega), cond_false]
    refine ⟨y0, by rw [show y1 = b + 1 by omega], hy, fun i => ?_⟩
    rw [if_neg (by omega)]
  | succ k ih =>
    intro y0 y1 hk hy h1
    rw [rpA_f, decide_eq_true (by omega), cond_true, decide_eq_true (by omega), cond_true, i64s (v := y1 + 1) (by omega)]
    have ho := one_W (f := y1) (by omega)
    have hn := tb_not hy ho
    have hnW := isW_bv (BitVec.ofInt 64 y0 &&& ~~~BitVec.ofInt 64 (IntKind.u64.wrap ((1 : Int) * (2 : Int) ^ min (IntKind.u64.wrap y1).toNat (64 : Nat))))
    generalize IntKind.u64.wrap ((BitVec.ofInt 64 y0 &&& ~~~BitVec.ofInt 64 (IntKind.u64.wrap ((1 : Int) * (2 : Int) ^ min (IntKind.u64.wrap y1).toNat (64 : Nat)))).toNat : Int) = n at hn hnW
    cases c with
    | false =>
      rw [cond_false]
      obtain ⟨z, z1, z2, z3⟩ := ih n (y1 + 1) (by omega) hnW (by omega)
      refine ⟨z, z1, z2, fun i => ?_⟩
      rw [z3, hn, one_tb (by omega)]
      by_cases e : y1.toNat = i
      · rw [if_pos (by omega : y1.toNat ≤ i ∧ i ≤ b.toNat)]
        split
        · rfl
        · rw [decide_eq_true e]; simp
      · rw [decide_eq_false e]
        by_cases f : (y1 + 1).toNat ≤ i ∧ i ≤ b.toNat
        · rw [if_pos f, if_pos (by omega)]
        · rw [if_neg f, if_neg (by omega)]; simp
    | true =>
      rw [cond_true]
      have hq := tb_or hnW ho
      have hqW := isW_bv (BitVec.ofInt 64 n ||| BitVec.ofInt 64 (IntKind.u64.wrap ((1 : Int) * (2 : Int) ^ min (IntKind.u64.wrap y1).toNat (64 : Nat))))
      generalize IntKind.u64.wrap ((BitVec.ofInt 64 n ||| BitVec.ofInt 64 (IntKind.u64.wrap ((1 : Int) * (2 : Int) ^ min (IntKind.u64.wrap y1).toNat (64 : Nat)))).toNat : Int) = q at hq hqW
      obtain ⟨z, z1, z2, z3⟩ := ih q (y1 + 1) (by omega) hqW (by omega)
      refine ⟨z, z1, z2, fun i => ?_⟩
      rw [z3, hq, hn, one_tb (by omega)]
      by_cases e : y1.toNat = i
      · rw [if_pos (by omega : y1.toNat ≤ i ∧ i ≤ b.toNat)]
        split
        · rfl
        · rw [decide_eq_true e]; simp
      · rw [decide_eq_false e]
        by_cases f : (y1 + 1).toNat ≤ i ∧ i ≤ b.toNat
        · rw [if_pos f, if_pos (by omega)]
        · rw [if_neg f, if_neg (by omega)]; simp
/-- the reference's Put is the program's -/
theorem rput_k {m : Int} (hm : isW m = true) (a b : Int) (c : Bool) : Known Tryd.prog knMaskKnownL 26 [.int .u64 m, .int .i64 a, .int .i64 b, .bool c] (.tuple #[.int .u64 (puV m a b c), .int .i64 (puE m a b c)]) := by
  by_cases h : 0 ≤ a ∧ a ≤ b ∧ b ≤ 63
  · obtain ⟨z, z1, z2, z3⟩ := rpA_go (m := m) (c := c) h (b + 1 - a).toNat m a (by omega) hm h.1
    obtain ⟨p1, p2, p3⟩ := put_is (c := c) hm h
    have e : z = puV m a b c := isW_ext z2 p1 fun i => by rw [z3, p3]
    have k := rp1 m a b c _ _ hm h (decide_eq_false (by omega)) (decide_eq_false (by omega)) (decide_eq_false (by omega)) (rpA_ok m a b c hm h _ _ _ z1)
    unfold rp1_c0 at k
    rw [p2, ← e]
    exact k
  · have := rp0 m a b c hm h
    rw [(put_no (m := m) (c := c) h).1, (put_no (m := m) (c := c) h).2]
    exact this
noncomputable def alV (n : Int) : Int := alP_c0 n
noncomputable def alE (n : Int) : Int := alP_c1 n
theorem all_k (n : Int) : Known Tryd.prog knMaskKnownL 27 [.int .i64 n] (.tuple #[.int .u64 (alV n), .int .i64 (alE n)]) := alP n
theorem all_is {n : Int} (h : 0 ≤ n ∧ n ≤ 64) : isW (alV n) = true ∧ alE n = 0 ∧ ∀ i, tb (alV n) i = decide (i < n.toNat) := by
  unfold alV alE alP_c0 alP_c1
  rw [decide_eq_false (by omega), cond_false, cond_false, decide_eq_false (by omega), cond_false, cond_false]
  have e : IntKind.u64.wrap (IntKind.u64.wrap ((1 : Int) * (2 : Int) ^ min (IntKind.u64.wrap n).toNat (64 : Nat)) - (1 : Int)) = ((2 ^ n.toNat - 1 : Nat) : Int) := by
    rcases (by omega : n < 64 ∨ n = 64) with c | c
    · rw [one_is ⟨h.1, c⟩]
      have h1 : (2 : Nat) ^ n.toNat ≤ 2 ^ 63 := Nat.pow_le_pow_right (by decide) (by omega)
      have h2 : 0 < (2 : Nat) ^ n.toNat := Nat.pow_pos (by decide)
      rw [wrapU ⟨by omega, by omega⟩]; omega
    · subst c; decide +kernel
  rw [e]
  have h1 : (2 : Nat) ^ n.toNat ≤ 2 ^ 64 := Nat.pow_le_pow_right (by decide) (by omega)
  have h2 : 0 < (2 : Nat) ^ n.toNat := Nat.pow_pos (by decide)
  refine ⟨isW_iff.2 ⟨by omega, by omega⟩, rfl, fun i => ?_⟩
  unfold tb
  rw [Int.toNat_natCast, Nat.testBit_two_pow_sub_one]
theorem all_no {n : Int} (h : ¬ (0 ≤ n ∧ n ≤ 64)) : alV n = 0 ∧ alE n = 2 := by
  unfold alV alE alP_c0 alP_c1
  by_cases h1 : n < 0
  · rw [decide_eq_true h1]; exact ⟨rfl, rfl⟩
  · rw [decide_eq_false h1, decide_eq_true (by omega : n > 64)]; exact ⟨rfl, rfl⟩
theorem raA_go {n : Int} (h : 0 ≤ n ∧ n ≤ 64) : ∀ (k : Nat) (y0 y1 : Int), y1 + k = n → isW y0 = true → 0 ≤ y1 → (∀ i, tb y0 i = decide (i < y1.toNat)) → ∃ z, raA_f n (k + 1) y0 y1 = some (0, (z, n)) ∧ isW z = true ∧ ∀ i, tb z i = decide (i < n.toNat) := by
  intro k
  induction k with
  | zero =>
    intro y0 y1 hk hy h1 hb
    rw [raA_f, decide_eq_true (by omega), cond_true, decide_eq_false (by omega), cond_false]
    exact ⟨y0, by rw [show y1 = n by omega], hy, fun i => by rw [hb, show y1 = n by omega]⟩
  | succ k ih =>
    intro y0 y1 hk hy h1 hb
    rw [raA_f, decide_eq_true (by omega), cond_true, decide_eq_true (by omega), cond_true, i64s (v := y1 + 1) (by omega)]
    have ho := one_W (f := y1) (by omega)
    have hq := tb_or hy ho
    have hqW := isW_bv (BitVec.ofInt 64 y0 ||| BitVec.ofInt 64 (IntKind.u64.wrap ((1 : Int) * (2 : Int) ^ min (IntKind.u64.wrap y1).toNat (64 : Nat))))
    refine ih _ (y1 + 1) (by omega) hqW (by omega) fun i => ?_
    rw [hq, hb, one_tb (by omega)]
    by_cases e : y1.toNat = i
    · rw [decide_eq_true e, decide_eq_true (by omega : i < (y1 + 1).toNat), Bool.or_true]
    · rw [decide_eq_false e, Bool.or_false]
      by_cases f : i < y1.toNat
      · rw [decide_eq_true f, decide_eq_true (by omega)]
      · rw [decide_eq_false f, decide_eq_false (by omega)]
theorem rall_k (n : Int) : Known Tryd.prog knMaskKnownL 28 [.int .i64 n] (.tuple #[.int .u64 (alV n), .int .i64 (alE n)]) := by
  by_cases h : 0 ≤ n ∧ n ≤ 64
  · obtain ⟨z, z1, z2, z3⟩ := raA_go h n.toNat 0 0 (by omega) rfl (by omega) (fun i => by simp [tb])
    obtain ⟨p1, p2, p3⟩ := all_is h
    have e : z = alV n := isW_ext z2 p1 fun i => by rw [z3, p3]
    have k := ra1 n _ _ h (decide_eq_false (by omega)) (decide_eq_false (by omega)) (raA_ok n h _ _ _ z1)
    unfold ra1_c0 at k
    rw [p2, ← e]
    exact k
  · have := ra0 n h
    rw [(all_no h).1, (all_no h).2]
    exact this
end Go.Proofs.YtboobndcgilmlaaDoor
