/- Layer 20: texts of calls, as lists of bytes. -/
import Derived.Test.YtfoijpkonjidiaaDoorCZ
namespace Go.Proofs.YtfoijpkonjidiaaDoor
open Go Go.RowKit
set_option linter.unusedVariables false
set_option linter.unusedSimpArgs false
theorem dc2_all : ∀ i : Fin 720, dcT (clT i.val).toList = i.val := by decide +kernel
theorem tX_inj2 {a b c d a' b' c' d' : Int} (h : okCl a b c d) (h' : okCl a' b' c' d') (e : (tXC a b c d).toList = (tXC a' b' c' d').toList) : a = a' ∧ b = b' ∧ c = c' ∧ d = d' := by
  unfold tXC at e
  have e1 := dc2_all ⟨_, nm_lt h⟩
  have e2 := dc2_all ⟨_, nm_lt h'⟩
  dsimp only at e1 e2
  rw [e, e2] at e1
  have v := nm_clV h
  rw [← e1, nm_clV h'] at v
  simp only [Value.agg.injEq, Array.mk.injEq, List.cons.injEq, Value.int.injEq, true_and, and_true] at v
  omega
theorem beq_tx {a b c d a' b' c' d' : Int} (h : okCl a b c d) (h' : okCl a' b' c' d') : (((tXC a b c d).toList == (tXC a' b' c' d').toList) == (a == a' && (b == b' && (c == c' && d == d')))) = true := by
  by_cases g : a = a' ∧ b = b' ∧ c = c' ∧ d = d'
  · obtain ⟨rfl, rfl, rfl, rfl⟩ := g
    simp
  · have n1 : ((tXC a b c d).toList == (tXC a' b' c' d').toList) = false := by
      cases hx : ((tXC a b c d).toList == (tXC a' b' c' d').toList) with
      | false => rfl
      | true => exact absurd (tX_inj2 h h' (eq_of_beq hx)) g
    have n2 : (a == a' && (b == b' && (c == c' && d == d'))) = false := by
      cases hx : (a == a' && (b == b' && (c == c' && d == d'))) with
      | false => rfl
      | true =>
        simp only [Bool.and_eq_true, beq_iff_eq] at hx
        exact absurd hx g
    rw [n1, n2]; rfl
end Go.Proofs.YtfoijpkonjidiaaDoor
