/- Layer 1: lists, for FixList. -/
import Derived.Test.YteohnhjhdlcpiaaFJ
namespace Go.Proofs.Yteohnhjhdlcpiaa
open Go.RowKit
set_option linter.unusedVariables false

theorem Ints.take {w : World} {A : Option Addr} {xs : List Int} (h : Ints w A xs) (k : Nat) : Ints w A (xs.take k) := by
  rcases h with h | ⟨b, o, rfl, h⟩
  · exact .inl (by simp [h])
  · refine .inr ⟨b, o, rfl, fun i hi => ?_⟩
    have hi2 : i < xs.length := by simp at hi; omega
    rw [h i hi2, nth_eq hi, nth_eq hi2]; simp
def rev (ys : List Int) : Nat → List Int
  | 0 => []
  | k + 1 => rev ys k ++ [nth ys (ys.length - 1 - k)]
theorem rev_len (ys : List Int) : ∀ k, (rev ys k).length = k
  | 0 => rfl
  | k + 1 => by simp [rev, rev_len ys k]
theorem tot_left (a b : List Int) : ∀ k, k ≤ a.length → tot (a ++ b) k = tot a k
  | 0, _ => rfl
  | k + 1, h => by simp only [tot]; rw [tot_left a b k (by omega), nth_append_left (by omega)]
theorem tot_push (a : List Int) (y : Int) : tot (a ++ [y]) (a.length + 1) = tot a a.length + y := by
  simp only [tot]
  rw [tot_left a [y] _ (Nat.le_refl _)]
  congr 1
  simp [nth]
theorem tot_rev (ys : List Int) : ∀ k, k ≤ ys.length → tot (rev ys k) k = tot ys ys.length - tot ys (ys.length - k)
  | 0, _ => by simp [tot]
  | k + 1, h => by
    have e := tot_push (rev ys k) (nth ys (ys.length - 1 - k))
    rw [rev_len] at e
    simp only [rev]
    rw [e, tot_rev ys k (by omega)]
    have e2 : ys.length - k = (ys.length - (k + 1)) + 1 := by omega
    rw [e2]
    simp only [tot]
    rw [show ys.length - 1 - k = ys.length - (k + 1) by omega]
    omega
theorem rev_in {ys : List Int} (h : ∀ x ∈ ys, In64 x) : ∀ k, k ≤ ys.length → ∀ x ∈ rev ys k, In64 x
  | 0, _, x, hx => by simp [rev] at hx
  | k + 1, hk, x, hx => by
    simp only [rev, List.mem_append, List.mem_singleton] at hx
    rcases hx with hx | hx
    · exact rev_in h k (by omega) x hx
    · rw [hx, nth_eq (by omega)]; exact h _ (List.getElem_mem _)
theorem spl_tot (n p : Nat) : ∀ k, tot (spl n p k) k = ((n / p : Nat) : Int) * k + (if k < n % p then (k : Int) else ((n % p : Nat) : Int))
  | 0 => by
    simp only [tot, Int.natCast_zero, Int.mul_zero]
    generalize n % p = m
    split <;> omega
  | k + 1 => by
    have e := tot_push (spl n p k) (PF (n / p) (n % p) k)
    rw [spl_len] at e
    simp only [spl]
    rw [e, spl_tot n p k]
    generalize n / p = d
    generalize n % p = m
    have e3 : (d : Int) * ((k + 1 : Nat) : Int) = (d : Int) * k + d := by rw [Int.natCast_add, Int.mul_add]; simp
    rw [e3]
    by_cases h : k < m
    · rw [if_pos h, PF_lo h]; split <;> omega
    · rw [if_neg h, PF_hi h]; split <;> omega
theorem spl_sum (n p : Nat) (hp : 1 ≤ p) : tot (spl n p p) p = n := by
  have hm := Nat.mod_lt n (y := p) (by omega)
  rw [spl_tot, if_neg (by omega)]
  have := Nat.div_add_mod n p
  have e : ((n / p : Nat) : Int) * (p : Int) = ((p * (n / p) : Nat) : Int) := by rw [Int.natCast_mul, Int.mul_comm]
  rw [e]; omega
theorem spl_in (n p : Nat) (hn : n ≤ 9223372036854775807) (hp : 1 ≤ p) : ∀ x ∈ spl n p p, In64 x := by
  intro x hx
  obtain ⟨i, hi, rfl⟩ := List.getElem_of_mem hx
  rw [← nth_eq hi]
  rw [spl_len] at hi
  rw [spl_nth _ _ _ _ hi]
  have h1 : n / p ≤ n := Nat.div_le_self _ _
  have h0 : 0 ≤ ((n / p : Nat) : Int) := Int.natCast_nonneg _
  have h00 : ((n / p : Nat) : Int) ≤ n := by exact_mod_cast h1
  by_cases h : i < n % p
  · rw [PF_lo h]
    have h2 : n / p < n ∨ n = n / p := by omega
    have h3 := Nat.div_add_mod n p
    have h4 : 1 * (n / p) ≤ p * (n / p) := Nat.mul_le_mul_right _ hp
    unfold In64; omega
  · rw [PF_hi h]; generalize ((n / p : Nat) : Int) = d at *; unfold In64; omega
theorem sm_all {xs : List Int} (h : xs.length ≤ 1000) : smV (-9223372036854775808) 9223372036854775807 xs = okV (-9223372036854775808) 9223372036854775807 (tot xs xs.length) ∧ smE (-9223372036854775808) 9223372036854775807 xs = okE (-9223372036854775808) 9223372036854775807 (tot xs xs.length) := by
  unfold smV smE; rw [if_neg (by omega), if_neg (by omega), if_neg (by omega), if_neg (by omega)]; exact ⟨rfl, rfl⟩
theorem cl_in {lo hi n : Int} (h : lo ≤ hi) : lo ≤ clV lo hi n ∧ clV lo hi n ≤ hi ∧ clV lo hi (clV lo hi n) = clV lo hi n ∧ (n < lo ∨ hi < n ∨ clV lo hi n = n) := by
  have e : clV lo hi n = if n < lo then lo else if hi < n then hi else n := by unfold clV; rw [if_neg (by omega)]
  have e2 : ∀ c, lo ≤ c → c ≤ hi → clV lo hi c = c := fun c h1 h2 => by unfold clV; rw [if_neg (by omega), if_neg (by omega), if_neg (by omega)]
  have h1 : lo ≤ clV lo hi n ∧ clV lo hi n ≤ hi := by rw [e]; omega
  exact ⟨h1.1, h1.2, e2 _ h1.1 h1.2, by rw [e]; omega⟩
end Go.Proofs.Yteohnhjhdlcpiaa
