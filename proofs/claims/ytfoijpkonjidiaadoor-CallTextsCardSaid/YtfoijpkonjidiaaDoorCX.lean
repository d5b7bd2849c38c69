/- Layer 20: all texts of calls that numbers make. -/
import Derived.Test.YtfoijpkonjidiaaDoorKnCallKnown
import Derived.ProofKit
namespace Go.Proofs.YtfoijpkonjidiaaDoor
open Go Go.RowKit
set_option linter.unusedVariables false
/-- the parts of a call with a number -/
def clK (i : Nat) : Nat := match Nat.blt i 240 with | true => 1 + Nat.mod i 2 | false => 3
def clF (i : Nat) : Nat := match Nat.blt i 240 with | true => Nat.mod (Nat.div i 2) 6 | false => Nat.mod (Nat.sub i 240) 6
def clC (i : Nat) : Nat := match Nat.blt i 240 with | true => 0 | false => 1 + Nat.mod (Nat.div (Nat.sub i 240) 6) 4
def clA (i : Nat) : Nat := match Nat.blt i 240 with | true => Nat.div i 12 | false => Nat.div (Nat.sub i 240) 24
/-- a number below 100 in digits -/
def dcL (n : Nat) : List UInt8 := match Nat.blt n 10 with | true => [UInt8.ofNat (48 + n)] | false => [UInt8.ofNat (48 + Nat.div n 10), UInt8.ofNat (48 + Nat.mod n 10)]
def clT (i : Nat) : ByteArray := ⟨((match clK i with | 1 => [117] | 2 => [100] | _ => 99 :: (dcL (clC i) ++ [58])) ++ dcL (clF i) ++ 64 :: dcL (clA i)).toArray⟩
def clV (i : Nat) : Value := .agg #[.int .i64 (Int.ofNat (clK i)), .int .i64 (Int.ofNat (clF i)), .int .i64 (Int.ofNat (clC i)), .int .i64 (Int.ofNat (clA i))]
noncomputable def ctB (i : Nat) : Bool := resV Tryd.prog knCallKnownL Tab.none 3000 20 [clV i] (.tuple #[.string (clT i), .int .i64 0])
noncomputable def cpB (i : Nat) : Bool := resV Tryd.prog knCallKnownL Tab.none 3000 29 [.string (clT i)] (.tuple #[clV i, .int .i64 0])
noncomputable def cqG (q : Nat) : Bool := [4 * q, 4 * q + 1, 4 * q + 2, 4 * q + 3].all (fun i => ctB i && cpB i)
end Go.Proofs.YtfoijpkonjidiaaDoor
