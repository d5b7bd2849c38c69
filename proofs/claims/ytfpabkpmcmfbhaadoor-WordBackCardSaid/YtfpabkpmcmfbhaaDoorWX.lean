/- Layer 33: all texts of words. -/
import Derived.Test.YtfpabkpmcmfbhaaDoorKnWordKnown
import Derived.ProofKit
namespace Go.Proofs.YtfpabkpmcmfbhaaDoor
open Go Go.RowKit
set_option linter.unusedVariables false
/-- the letters of a word, from a car on -/
def txL : Nat → Nat → List UInt8
  | 0, _ => []
  | k + 1, w => (match Nat.mod w 2 with | 0 => 48 | _ => 49) :: txL k (Nat.div w 2)
/-- the text of a word -/
def txW (w c : Nat) : ByteArray := ⟨(txL c w).toArray⟩
noncomputable def txB (c w : Nat) : Bool := resV Tryd.prog knWordKnownL Tab.none 3000 8 [.int .i64 (Int.ofNat w), .int .i64 (Int.ofNat c)] (.tuple #[.string (txW w c), .int .i64 0])
noncomputable def txG (c q : Nat) : Bool := [4 * q, 4 * q + 1, 4 * q + 2, 4 * q + 3].all (txB c)
end Go.Proofs.YtfpabkpmcmfbhaaDoor
