/- Layer 8: ProfileLeast. -/
import Derived.Test.YtjemhamkakgnhaaOgG
import Derived.ProofKit
import Derived.IntWalk
namespace Go.Proofs.Ytjemhamkakgnhaa
open Go Go.RowKit
set_option linter.unusedVariables false
set_option linter.unusedSimpArgs false
set_option linter.unnecessarySimpa false
/-- the sum of the first i speeds of the farthest ride in K ticks, with the peak p -/
def SumTo (K p i s : Int) : Prop := (i ≤ p ∧ s = rT i) ∨ (p ≤ i ∧ i ≤ K + 1 - p ∧ s = rT p + (i - p) * p) ∨ (K + 1 - p ≤ i ∧ s + rT (K - i) = p * (K + 1 - p))
theorem sumTo_next {K L p i s : Int} (hL : 1 ≤ L) (hp : p = min ((K + 1) / 2) L) (hi : 0 ≤ i ∧ i < K) (h : SumTo K p i s) : SumTo K p (i + 1) (s + min (min (i + 1) (K - i)) L) := by
  have ts := rT_succ (v := i)
  have tp := rT_pred (v := p)
  have tk := rT_pred (v := K - i)
  have t2 := rT_two (v := p)
  have m1 : (i + 1 - p) * p = (i - p) * p + p := by rw [show i + 1 - p = (i - p) + 1 by omega, Int.add_mul, Int.one_mul]
  have r3 : K + 1 - p ≤ i → s + rT (K - i) = p * (K + 1 - p) → SumTo K p (i + 1) (s + min (min (i + 1) (K - i)) L) := fun h1 h2 => by
    refine .inr (.inr ⟨by omega, ?_⟩)
    rw [show K - (i + 1) = K - i - 1 by omega, tk, show min (min (i + 1) (K - i)) L = K - i by omega]
    omega
  have r2 : p ≤ i → i ≤ K + 1 - p → s = rT p + (i - p) * p → SumTo K p (i + 1) (s + min (min (i + 1) (K - i)) L) := fun h1 h2 h3 => by
    rcases (by omega : i + 1 ≤ K + 1 - p ∨ i = K + 1 - p) with c | c
    · refine .inr (.inl ⟨by omega, c, ?_⟩)
      rw [show min (min (i + 1) (K - i)) L = p by omega]
      omega
    · refine r3 (by omega) ?_
      rw [show K - i = p - 1 by omega, tp, h3, show i - p = (K + 1 - p) - p by omega, Int.sub_mul, Int.mul_comm p (K + 1 - p)]
      omega
  rcases h with ⟨h1, h2⟩ | ⟨h1, h2, h3⟩ | ⟨h1, h2⟩
  · rcases (by omega : i + 1 ≤ p ∨ i = p) with c | c
    · refine .inl ⟨c, ?_⟩
      rw [show min (min (i + 1) (K - i)) L = i + 1 by omega]
      omega
    · refine r2 (by omega) (by omega) ?_
      rw [c, Int.sub_self, Int.zero_mul, h2, c]; omega
  · exact r2 h1 h2 h3
  · exact r3 h1 h2
theorem sumTo_end {K L p s : Int} (hL : 1 ≤ L) (hp : p = min ((K + 1) / 2) L) (hK : 0 ≤ K) (h : SumTo K p K s) : s = rW L K := by
  have z : rT 0 = 0 := by decide
  have tp := rT_pred (v := p)
  have t2 := rT_two (v := p)
  unfold rW
  rw [← hp]
  rcases h with ⟨h1, h2⟩ | ⟨h1, h2, h3⟩ | ⟨h1, h2⟩
  · rcases (by omega : K = 0 ∨ K = 1) with e | e
    · subst e; have : p = 0 := by omega
      rw [this, h2, z]; rfl
    · subst e; have : p = 1 := by omega
      rw [this, h2]; decide
  · rcases (by omega : K = 0 ∨ (p = 1 ∧ 1 ≤ K) ∨ p = 0) with e | e | e
    · subst e; have : p = 0 := by omega
      rw [this] at h3 ⊢; rw [h3, z]; rfl
    · rw [e.1] at h3 ⊢
      rw [h3, show rT 1 = 1 by decide]; omega
    · rw [e] at h3 ⊢; rw [h3, z]; omega
  · rw [show K - K = 0 by omega, z] at h2
    omega
theorem least_go {x y L K p : Int} (hL : L = 1 + y % 20) (hK : K = rD L (1 + x % 400) - 1) (hK0 : 0 ≤ K ∧ K ≤ 500) (hp : p = min ((K + 1) / 2) L) : ∀ (r : Nat) {i s : Int}, K - i = r → 0 ≤ i → 0 ≤ s → s ≤ 20 * i → SumTo K p i s → least_f x y (r + 1) s (i + 1) = some (0, (rW L K, K + 1))
  | 0, i, s, hr, h0, s0, s1, h => by
    have e : i = K := by omega
    subst e
    rw [least_fs, w8 (v := 1 + y % 20) (by omega), w8 (v := 1 + x % 400) (by omega), ← hL, w8 (v := rD L (1 + x % 400) - 1) (by omega), ← hK]
    rw [decide_eq_true ⟨s0, by omega, by omega, by omega⟩, cond_true, decide_eq_false (by omega), cond_false, sumTo_end (by omega) hp hK0.1 h]
  | r + 1, i, s, hr, h0, s0, s1, h => by
    have hn := sumTo_next (L := L) (by omega) hp ⟨h0, by omega⟩ h
    have ih := least_go hL hK hK0 hp r (i := i + 1) (by omega) (by omega) (by omega) (by omega) hn
    rw [least_fs, w8 (v := 1 + y % 20) (by omega), w8 (v := 1 + x % 400) (by omega), ← hL, w8 (v := rD L (1 + x % 400) - 1) (by omega), ← hK]
    rw [decide_eq_true ⟨s0, by omega, by omega, by omega⟩, cond_true, decide_eq_true (by omega), cond_true]
    rw [w8 (v := rD L (1 + x % 400) - (i + 1)) (by omega), w8 (v := i + 1 + 1) (by omega)]
    have e : (if L < (if rD L (1 + x % 400) - (i + 1) < i + 1 then rD L (1 + x % 400) - (i + 1) else i + 1) then L else (if rD L (1 + x % 400) - (i + 1) < i + 1 then rD L (1 + x % 400) - (i + 1) else i + 1)) = min (min (i + 1) (K - i)) L := by
      omega
    rw [e, w8 (v := s + _) (by omega)]
    exact ih
theorem lawLeastT (x y : Int) : Known Try.prog [] 9 [.int .i64 x, .int .i64 y] (.bool true) := by
  have hm : 1 ≤ 1 + y % 20 ∧ 1 + y % 20 ≤ 20 := by omega
  have hn : 1 ≤ 1 + x % 400 ∧ 1 + x % 400 ≤ 400 := by omega
  have b := rD_bound (L := 1 + y % 20) (n := 1 + x % 400) hm.1 (by omega)
  have b1 := rD_pos (L := 1 + y % 20) (n := 1 + x % 400) hm.1 (by omega)
  obtain ⟨a1, a2, a3⟩ := rD_is (L := 1 + y % 20) (n := 1 + x % 400) hm.1 (by omega)
  obtain ⟨r, hr⟩ : ∃ r : Nat, rD (1 + y % 20) (1 + x % 400) - 1 = r := ⟨(rD (1 + y % 20) (1 + x % 400) - 1).toNat, by omega⟩
  have hf := least_go (x := x) (y := y) rfl rfl (by omega) rfl r (i := 0) (s := 0) (by omega) (by omega) (by omega) (by omega) (.inl ⟨by omega, by decide⟩)
  obtain ⟨j, hj⟩ := least_run x y _ _ _ hf
  have h := leastK x y (rW (1 + y % 20) (rD (1 + y % 20) (1 + x % 400) - 1)) (rD (1 + y % 20) (1 + x % 400) - 1 + 1) j (by rw [w8 (v := 1 + y % 20) (by omega), w8 (v := 1 + x % 400) (by omega)]; exact decide_eq_true (by omega)) (by rw [w8 (v := 1 + y % 20) (by omega), w8 (v := 1 + x % 400) (by omega)]; exact decide_eq_false (by omega)) (by rw [w8 (v := 1 + y % 20) (by omega), w8 (v := 1 + x % 400) (by omega)]; exact decide_eq_false (by omega)) hj
  have e : leastK_c0 x y (rW (1 + y % 20) (rD (1 + y % 20) (1 + x % 400) - 1)) (rD (1 + y % 20) (1 + x % 400) - 1 + 1) j = true := by
    unfold leastK_c0
    rw [w8 (v := 1 + x % 400) (by omega), decide_eq_true (by omega)]; rfl
  rw [e] at h
  exact h
theorem profileLeast_true (x y : Int) (w : World) (_ : In64 x) (_ : In64 y) : Calls Try.prog 9 #[.int .i64 x, .int .i64 y] w fun e w' => e = .returned (.bool true) ∧ Below w.heap.size w w' :=
  (lawLeastT x y).2.2 w (LaidL.nil w)
end Go.Proofs.Ytjemhamkakgnhaa
