/- Layer 33: WordBack. -/
import Derived.Test.YtfpabkpmcmfbhaaDoorOgX6
namespace Go.Proofs.YtfpabkpmcmfbhaaDoor
open Go Go.RowKit
set_option linter.unusedVariables false
def In64 (n : Int) : Prop := -9223372036854775808 ≤ n ∧ n ≤ 9223372036854775807
theorem vl_of {a c : Int} (hc : 1 ≤ c ∧ c ≤ 8) (h0 : 0 ≤ a) (h1 : a < pwI c) : vlX a c = 0 := by
  rcases vl_is (a := a) (c := c) with ⟨e, _⟩ | ⟨_, n⟩
  · exact e
  · exact absurd ⟨hc.1, hc.2, h0, h1⟩ n
theorem or_word {a c : Int} (hv : vlX a c = 0) : orI (crR a) = a := by
  obtain ⟨hc, ha, hp⟩ := vl_ok hv
  unfold orI
  rw [(cr_at hv).2.2]
  omega
theorem cr_none : (crR 0).length = 0 := by decide +kernel
theorem beq_t {a b : Int} (h : a = b) : (a == b) = true := by rw [h]; simp
theorem bne_f {a b : Int} (h : a = b) : (a != b) = false := by rw [h]; simp
theorem wordBack_true (x y z : Int) (w : World) (_ : In64 x) (_ : In64 y) (_ : In64 z) (hl : LaidL knWordKnownL w) :
    Calls Tryd.prog 5 #[.int .i64 x, .int .i64 y, .int .i64 z] w fun e w' => e = .returned (.bool true) ∧ Below w.heap.size w w' := by
  have hC : cC z = 1 + z % 8 := by
    unfold cC mdV
    exact w8n (by omega) (by omega)
  have hc : 1 ≤ cC z ∧ cC z ≤ 8 := by rw [hC]; omega
  have hM : mM z = pwI (cC z) := lim2 hc
  have hp : 1 ≤ pwI (cC z) ∧ pwI (cC z) ≤ 256 := by
    refine ⟨?_, pw_255 hc⟩
    have : 0 < (2 : Nat) ^ (cC z).toNat := Nat.pos_of_ne_zero (by simp)
    unfold pwI
    omega
  have hA : 0 ≤ aA x z ∧ aA x z < pwI (cC z) := by
    unfold aA mdV
    rw [hM]
    exact ⟨Int.emod_nonneg _ (by omega), Int.emod_lt_of_pos _ (by omega)⟩
  have hB : 0 ≤ aA y z ∧ aA y z < pwI (cC z) := by
    unfold aA mdV
    rw [hM]
    exact ⟨Int.emod_nonneg _ (by omega), Int.emod_lt_of_pos _ (by omega)⟩
  have hv := vl_of hc hA.1 hA.2
  have hw := vl_of hc hB.1 hB.2
  have hx := xo_is (vl_ok hv).2.1 (vl_ok hw).2.1
  have ho := or_is (vl_ok hv).2.1 (vl_ok hw).2.1
  have hX := vl_of hc (by omega) (xor_pw hA hB)
  have c1 : csL (aA x z) (cC z) = crR (aA x z) := if_pos hv
  have d1 : dfL (aA x z) (aA y z) (cC z) = crR (((aA x z).toNat ^^^ (aA y z).toNat : Nat) : Int) := if_pos ⟨hv, hw⟩
  have d2 : dfL (aA x z) (aA x z) (cC z) = crR 0 := by
    have : dfL (aA x z) (aA x z) (cC z) = crR (((aA x z).toNat ^^^ (aA x z).toNat : Nat) : Int) := if_pos ⟨hv, hv⟩
    rw [this, Nat.xor_self]; rfl
  have m1 : mgX (aA x z) (aA y z) (cC z) = (((aA x z).toNat ||| (aA y z).toNat : Nat) : Int) := if_pos ⟨hv, hw⟩
  have m2 : mgX (aA y z) (aA x z) (cC z) = (((aA y z).toNat ||| (aA x z).toNat : Nat) : Int) := if_pos ⟨hw, hv⟩
  have a1 := cr_at hv
  have a2 := cr_at hX
  have k := lawK x y z (decide_eq_true (by rw [hM]; omega)) hc hv (by rw [c1]; omega) (by rw [c1]; exact a1.1) (by rw [d1]; omega) (by rw [d1]; exact a2.1)
    (decide_eq_false (by rw [wrapU64, hC]; omega)) (bne_f hv) (bne_f (by rw [c1]; exact or_word hv)) (bne_f rfl) (bne_f rfl)
    (beq_t (if_pos ⟨hv, hw⟩)) (beq_t (if_pos ⟨hw, hv⟩)) (beq_t (if_pos ⟨hv, hv⟩))
    (beq_t (by rw [m1, m2, Nat.or_comm])) (beq_t (by rw [m1]; exact ho.1.symm))
    (beq_t (by unfold lenI; rw [d2, cr_none]; rfl)) (beq_t (by rw [d1, or_word hX]; exact hx.1.symm))
  exact k.2.2 w hl
end Go.Proofs.YtfpabkpmcmfbhaaDoor
