/- Texts: their bytes, and their runes. -/
import Derived.Test.YtbcbldpppjbkhaaLU
namespace Go.Proofs.Ytbcbldpppjbkhaa
open Go Go.RowKit
set_option linter.unusedVariables false
set_option linter.unusedSimpArgs false
/-- the byte at a place -/
def byN (s : ByteArray) (p : Nat) : Nat := (s.get! p).toNat
theorem byN_lt (s : ByteArray) (p : Nat) : byN s p < 256 := (s.get! p).toNat_lt
theorem byI_at {s : ByteArray} {z : Int} (h0 : 0 ≤ z) (h1 : z < (s.size : Int)) : byI s z = (byN s z.toNat : Int) := by
  have hz : z.toNat < s.size := by omega
  have e : s[z.toNat]? = some s[z.toNat] := by simp [hz]
  unfold byI byN
  rw [e]
  congr 2
  obtain ⟨d⟩ := s
  show d[z.toNat] = d.get!Internal z.toNat
  have hz : z.toNat < d.size := hz
  simp [Array.get!Internal, Array.getD, hz]
theorem dec_lo {s : ByteArray} {p : Nat} (h : byN s p < 128) : Utf8.decode s p = (byN s p, 1) := by
  unfold byN at h ⊢
  unfold Utf8.decode
  simp only [Nat.add_zero]
  rw [if_pos h]
theorem dec_hi {s : ByteArray} {p : Nat} (h : 128 ≤ byN s p) : 128 ≤ (Utf8.decode s p).1 ∧ (Utf8.decode s p).1 < 2097152 ∧ 1 ≤ (Utf8.decode s p).2 ∧ (Utf8.decode s p).2 ≤ 4 := by
  unfold byN at h
  unfold Utf8.decode
  simp only [Nat.add_zero, Utf8.runeError]
  rw [if_neg (by omega)]
  split
  · split
    · rename_i h1 h2
      dsimp only; omega
    · dsimp only; omega
  · split
    · split
      · rename_i h1 h2 h3
        simp only [Bool.and_eq_true, decide_eq_true_eq, ge_iff_le] at h3
        dsimp only; omega
      · dsimp only; omega
    · split
      · split
        · rename_i h1 h2 h3 h4
          simp only [Bool.and_eq_true, decide_eq_true_eq, ge_iff_le] at h4
          dsimp only; omega
        · dsimp only; omega
      · dsimp only; omega
end Go.Proofs.Ytbcbldpppjbkhaa
