/- Layer 12: all votes of nine readings. -/
import Derived.Test.YthjdoeeefighkaaNB
namespace Go.Proofs.Ythjdoeeefighkaa
open Go Go.RowKit
set_option linter.unusedVariables false
/-- the vote -/
def vtC (a b c : Nat) : Nat := match Nat.beq a 0 with
  | false => match Nat.beq a b || Nat.beq a c with
    | true => a
    | false => match Nat.beq b 0 with
      | false => match Nat.beq b c with
        | true => b
        | false => 0
      | true => match Nat.beq c 0 with
        | true => a
        | false => 0
  | true => match Nat.beq b 0 with
    | false => match Nat.beq b c with
      | true => b
      | false => match Nat.beq c 0 with
        | true => b
        | false => 0
    | true => c
noncomputable def vtB (a i : Nat) : Bool := resV Try.prog [] Tab.none 3000 17 [rdV a, rdV (Nat.div i 9), rdV (Nat.mod i 9)] (.tuple #[rdV (vtC a (Nat.div i 9) (Nat.mod i 9)), .int .i64 0])
end Go.Proofs.Ythjdoeeefighkaa
