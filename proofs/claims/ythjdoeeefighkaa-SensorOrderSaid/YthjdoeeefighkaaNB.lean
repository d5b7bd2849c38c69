/- Layer 12: votes of two equal readings and any other: all of them run. -/
import Derived.Test.YthjdoeeefighkaaKnSensorKnown
import Derived.Test.YthjdoeeefighkaaEvZ7
namespace Go.Proofs.Ythjdoeeefighkaa
open Go Go.RowKit
set_option linter.unusedVariables false
/-- readings by numbers from 0 to 8: the failed one, and floors from -1 to 2 with a zone -/
def rdO (c : Nat) : Bool := match c with | 0 => false | _ + 1 => true
def rdF (c : Nat) : Int := match c with | 0 => -1 | c + 1 => Int.ofNat (Nat.div c 2) - 1
def rdZ (c : Nat) : Int := match c with | 0 => 0 | c + 1 => Int.ofNat (Nat.mod c 2)
def rdV (c : Nat) : Value := .agg #[.bool (rdO c), .int .i64 (rdF c), .int .i64 (rdZ c)]
/-- what is read at a floor from 0 to 3 -/
def frZ (f : Nat) : Int := match Nat.blt f 2 with | true => 0 | false => 1
def frV (f : Nat) : Value := .agg #[.bool true, .int .i64 (Int.ofNat f), .int .i64 (frZ f)]
/-- the same reading -/
def sameR (f c : Nat) : Bool := match c with | 0 => false | c + 1 => Nat.beq (Nat.div c 2) (f + 1) && (match Nat.blt f 2 with | true => Nat.beq (Nat.mod c 2) 0 | false => Nat.beq (Nat.mod c 2) 1)
def odN (f c p : Nat) : Int := match sameR f c with | true => 0 | false => Int.ofNat (p + 1)
noncomputable def vt0 (f c : Nat) : Bool := resV Try.prog [] Tab.none 3000 17 [rdV c, frV f, frV f] (.tuple #[frV f, .int .i64 0])
noncomputable def vt1 (f c : Nat) : Bool := resV Try.prog [] Tab.none 3000 17 [frV f, rdV c, frV f] (.tuple #[frV f, .int .i64 0])
noncomputable def vt2 (f c : Nat) : Bool := resV Try.prog [] Tab.none 3000 17 [frV f, frV f, rdV c] (.tuple #[frV f, .int .i64 0])
noncomputable def od0 (f c : Nat) : Bool := resV Try.prog [] Tab.none 3000 19 [rdV c, frV f, frV f] (.tuple #[.int .i64 (odN f c 0), .int .i64 0])
noncomputable def od1 (f c : Nat) : Bool := resV Try.prog [] Tab.none 3000 19 [frV f, rdV c, frV f] (.tuple #[.int .i64 (odN f c 1), .int .i64 0])
noncomputable def od2 (f c : Nat) : Bool := resV Try.prog [] Tab.none 3000 19 [frV f, frV f, rdV c] (.tuple #[.int .i64 (odN f c 2), .int .i64 0])
end Go.Proofs.Ythjdoeeefighkaa
