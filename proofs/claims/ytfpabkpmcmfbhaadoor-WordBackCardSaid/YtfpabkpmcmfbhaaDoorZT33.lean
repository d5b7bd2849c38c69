/- Layer 33: powers of two. -/
import Derived.Test.YtfpabkpmcmfbhaaDoorOgT1
namespace Go.Proofs.YtfpabkpmcmfbhaaDoor
open Go Go.RowKit
set_option linter.unusedVariables false
/-- a power of two -/
def pwI (c : Int) : Int := ((2 ^ c.toNat : Nat) : Int)
theorem pw_le {j : Nat} (h : j ≤ 8) : (2 : Nat) ^ j ≤ 256 := by
  have : (2 : Nat) ^ j ≤ 2 ^ 8 := Nat.pow_le_pow_right (by omega) h
  omega
theorem wdA_go {c : Int} (h1 : 0 ≤ c ∧ c ≤ 8) : ∀ (k i : Nat), i + k = c.toNat → ∃ z, wdA_f c (k + 1) ((2 ^ i : Nat) : Int) (i : Int) = some (0, (pwI c, z)) := by
  intro k
  induction k with
  | zero =>
    intro i h
    have p := pw_le (j := i) (by omega)
    have hw : pwI c = ((2 ^ i : Nat) : Int) := by unfold pwI; rw [show c.toNat = i by omega]
    rw [hw]
    generalize (2 : Nat) ^ i = q at *
    rw [wdA_fs, bif_dT (by omega), bif_dF (by omega)]
    exact ⟨_, rfl⟩
  | succ k ih =>
    intro i h
    have p := pw_le (j := i) (by omega)
    have p2 := pw_le (j := i + 1) (by omega)
    obtain ⟨z, hz⟩ := ih (i + 1) (by omega)
    refine ⟨z, ?_⟩
    have e : (2 : Nat) ^ (i + 1) = 2 * 2 ^ i := by rw [Nat.pow_succ]; omega
    rw [e] at hz p2
    generalize (2 : Nat) ^ i = q at *
    rw [wdA_fs, bif_dT (by omega), bif_dT (by omega)]
    rw [w8n (n := 2 * (q : Int)) (by omega) (by omega), w8n (n := (i : Int) + 1) (by omega) (by omega)]
    rw [show 2 * (q : Int) = ((2 * q : Nat) : Int) by omega, show (i : Int) + 1 = ((i + 1 : Nat) : Int) by omega]
    exact hz
set_option maxHeartbeats 4000000 in
theorem words_is {c : Int} (h1 : 0 ≤ c ∧ c ≤ 8) : Known Tryd.prog knWordKnownL 40 [.int .i64 c] (.int .i64 (pwI c)) := by
  obtain ⟨z, hz⟩ := wdA_go h1 c.toNat 0 (by omega)
  have hl := wdA_ok c h1 _ _ _ hz
  dsimp only at hl
  exact wdK c _ _ h1 hl
end Go.Proofs.YtfpabkpmcmfbhaaDoor
