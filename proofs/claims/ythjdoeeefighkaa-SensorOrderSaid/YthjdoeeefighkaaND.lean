/- Layer 12: readings made of numbers. -/
import Derived.Test.YthjdoeeefighkaaOgX
namespace Go.Proofs.Ythjdoeeefighkaa
open Go Go.RowKit
set_option linter.unusedVariables false
/-- which of nine readings is made of a number -/
def cdN (n : Int) : Nat := if n % 100 % 4 = 0 then 0 else (1 + 2 * (n % 100 / 4 % 4) + n % 100 / 16 % 2).toNat
theorem cdN_b (n : Int) : cdN n < 9 := by unfold cdN; split <;> omega
def mO (n : Int) : Bool := rdO (cdN n)
def mF (n : Int) : Int := rdF (cdN n)
def mZ (n : Int) : Int := rdZ (cdN n)
theorem rd_succ {z a b : Int} {c : Nat} (hz : c = (1 + 2 * a + b).toNat) (ha : 0 ≤ a) (hb : 0 ≤ b ∧ b ≤ 1) : rdO c = true ∧ rdF c = a - 1 ∧ rdZ c = b := by
  obtain ⟨d, hd⟩ : ∃ d, c = d + 1 := ⟨(2 * a + b).toNat, by omega⟩
  subst hd
  have e1 : Nat.div d 2 = d / 2 := rfl
  have e2 : Nat.mod d 2 = d % 2 := rfl
  refine ⟨rfl, ?_, ?_⟩
  · show Int.ofNat (Nat.div d 2) - 1 = a - 1
    rw [e1, Int.ofNat_eq_natCast]; omega
  · show Int.ofNat (Nat.mod d 2) = b
    rw [e2, Int.ofNat_eq_natCast]; omega
theorem made_is (n : Int) : Known Try.prog [] 32 [.int .i64 n] (.agg #[.bool (mO n), .int .i64 (mF n), .int .i64 (mZ n)]) := by
  have k := mdR n (by omega)
  have e : mdR_c0 n = mO n ∧ mdR_c1 n = mF n ∧ mdR_c2 n = mZ n := by
    unfold mdR_c0 mdR_c1 mdR_c2 mO mF mZ cdN
    have h0 : 0 ≤ n % 100 ∧ n % 100 ≤ 99 := by omega
    generalize n % 100 = z at h0
    have w : ∀ v : Int, -1000 ≤ v ∧ v ≤ 1000 → IntKind.i64.wrap v = v := fun v h => Go.IntWalk.i64_in _ ⟨by omega, by omega⟩
    rw [Int.tmod_eq_emod_of_nonneg h0.1, Int.tdiv_eq_ediv_of_nonneg h0.1, Int.tdiv_eq_ediv_of_nonneg h0.1, w (z / 4) (by omega), w (z / 16) (by omega), Int.tmod_eq_emod_of_nonneg (a := z / 4) (by omega), Int.tmod_eq_emod_of_nonneg (a := z / 16) (by omega), w (z / 4 % 4 - 1) (by omega)]
    by_cases c : z % 4 = 0
    · rw [if_pos c, show (z % 4 == 0) = true by simpa using c]
      exact ⟨rfl, rfl, rfl⟩
    · rw [if_neg c, show (z % 4 == 0) = false by simpa using c]
      obtain ⟨r1, r2, r3⟩ := rd_succ (z := z) (a := z / 4 % 4) (b := z / 16 % 2) (c := (1 + 2 * (z / 4 % 4) + z / 16 % 2).toNat) rfl (by omega) (by omega)
      rw [r1, r2, r3]
      exact ⟨rfl, rfl, rfl⟩
  rw [e.1, e.2.1, e.2.2] at k
  exact k
end Go.Proofs.Ythjdoeeefighkaa
