/-
  No cell of these rows narrows 'for every input' (looked for: loops, veiled, ifaces, maps, wideKeys, modest, calm, conditions, laid).
  DERIVED. THE GIVEN ROWS OF THIS SEAT. 7 by the template 'for every input the law returns true; each argument reads behind the call as it read before'; 0 by the template 'total and deterministic' (their statements: YtbldbooojocmgaaTotals.lean).
  GIVEN WITH THE SEED: the statements are not yours to turn. If you find one false, say at which input.
  Laid BY PROGRAM, IN A SANDBOX (cutbox-rows.mjs): the forced cells as the released guide's own fill.sh prints them over the translation 475703b8e3ac67f2… (all of the seat's roots in one cut). By AI agents, Wed Nov 11 2026. No macro, syntax, notation, axiom, sorry.
-/
import Derived.Test.YtbldbooojocmgaaChecked
import GoSem.Claim
import GoSem.ClaimJoined
import GoSem.ClaimMapViews
import Derived.JoinedTies
import Derived.KernelRfl
namespace Go.Proofs.Ytbldbooojocmgaa
/- THE CELL 'sum', in the pinned program and in every row, IS THE sha256 OF THE DUMP (.gsa) THAT YtbldbooojocmgaaProg.lean LOADS. Nothing in Lean hashes anything: it is a label: what it is worth is what the hold of that sum in a sandbox is worth. -/
noncomputable def Try.pinned : Pinned := { name := "ytbldbooojocmgaa", sum := "475703b8e3ac67f23d1b7d1fb1350f3f1f742626141bf6cae9e756a806b2f68d", checked := Try.checked }
namespace Rows
def none {H : Type} : Left H := { results := [], args := [] }

/-- 'tipstafflaw28.PickKnown': WHATEVER THE INPUT: true; the input reads as it did. -/
def pickKnownSpec : ChangeSpec := { name := "pickKnown", fn := fun _ => fun
  | [] => { results := [.lit (.bool true)], args := [] }
  | _ => none }
def pickKnownRow : OpenClaim := { program := "ytbldbooojocmgaa", sum := "475703b8e3ac67f23d1b7d1fb1350f3f1f742626141bf6cae9e756a806b2f68d", func := "tipstaff/tipstafflaw28.PickKnown", spec := "pickKnown", unfollowed := true, recurses := true, plainKeys := false, apart := false }
def PickKnownSaid : Prop := pickKnownRow.holds Try.pinned (OpenSpec.ofChange pickKnownSpec)

/-- ITS FALSE NEIGHBOUR: 'it returns false'. Refute it at one input. -/
def pickKnownWrong : ChangeSpec := { name := "pickKnown", fn := fun _ => fun
  | [] => { results := [.lit (.bool false)], args := [] }
  | _ => none }
def PickKnownWrongFalsely : Prop := pickKnownRow.holds Try.pinned (OpenSpec.ofChange pickKnownWrong)

/-- 'tipstafflaw28.PickCalls': WHATEVER THE INPUT: true; the input reads as it did. -/
def pickCallsSpec : ChangeSpec := { name := "pickCalls", fn := fun _ => fun
  | [d1, d2] => { results := [.lit (.bool true)], args := [d1, d2] }
  | _ => none }
def pickCallsRow : OpenClaim := { program := "ytbldbooojocmgaa", sum := "475703b8e3ac67f23d1b7d1fb1350f3f1f742626141bf6cae9e756a806b2f68d", func := "tipstaff/tipstafflaw28.PickCalls", spec := "pickCalls", unfollowed := true, recurses := true, plainKeys := false, apart := false }
def PickCallsSaid : Prop := pickCallsRow.holds Try.pinned (OpenSpec.ofChange pickCallsSpec)

/-- ITS FALSE NEIGHBOUR: 'it returns false'. Refute it at one input. -/
def pickCallsWrong : ChangeSpec := { name := "pickCalls", fn := fun _ => fun
  | [d1, d2] => { results := [.lit (.bool false)], args := [d1, d2] }
  | _ => none }
def PickCallsWrongFalsely : Prop := pickCallsRow.holds Try.pinned (OpenSpec.ofChange pickCallsWrong)

/-- 'tipstafflaw28.PickGoals': WHATEVER THE INPUT: true; the input reads as it did. -/
def pickGoalsSpec : ChangeSpec := { name := "pickGoals", fn := fun _ => fun
  | [d1, d2] => { results := [.lit (.bool true)], args := [d1, d2] }
  | _ => none }
def pickGoalsRow : OpenClaim := { program := "ytbldbooojocmgaa", sum := "475703b8e3ac67f23d1b7d1fb1350f3f1f742626141bf6cae9e756a806b2f68d", func := "tipstaff/tipstafflaw28.PickGoals", spec := "pickGoals", unfollowed := true, recurses := true, plainKeys := false, apart := false }
def PickGoalsSaid : Prop := pickGoalsRow.holds Try.pinned (OpenSpec.ofChange pickGoalsSpec)

/-- ITS FALSE NEIGHBOUR: 'it returns false'. Refute it at one input. -/
def pickGoalsWrong : ChangeSpec := { name := "pickGoals", fn := fun _ => fun
  | [d1, d2] => { results := [.lit (.bool false)], args := [d1, d2] }
  | _ => none }
def PickGoalsWrongFalsely : Prop := pickGoalsRow.holds Try.pinned (OpenSpec.ofChange pickGoalsWrong)

/-- 'tipstafflaw28.PickTrue': WHATEVER THE INPUT: true; the input reads as it did. -/
def pickTrueSpec : ChangeSpec := { name := "pickTrue", fn := fun _ => fun
  | [d1, d2, d3] => { results := [.lit (.bool true)], args := [d1, d2, d3] }
  | _ => none }
def pickTrueRow : OpenClaim := { program := "ytbldbooojocmgaa", sum := "475703b8e3ac67f23d1b7d1fb1350f3f1f742626141bf6cae9e756a806b2f68d", func := "tipstaff/tipstafflaw28.PickTrue", spec := "pickTrue", unfollowed := true, recurses := true, plainKeys := false, apart := false }
def PickTrueSaid : Prop := pickTrueRow.holds Try.pinned (OpenSpec.ofChange pickTrueSpec)

/-- ITS FALSE NEIGHBOUR: 'it returns false'. Refute it at one input. -/
def pickTrueWrong : ChangeSpec := { name := "pickTrue", fn := fun _ => fun
  | [d1, d2, d3] => { results := [.lit (.bool false)], args := [d1, d2, d3] }
  | _ => none }
def PickTrueWrongFalsely : Prop := pickTrueRow.holds Try.pinned (OpenSpec.ofChange pickTrueWrong)

/-- 'tipstafflaw28.PickUrgent': WHATEVER THE INPUT: true; the input reads as it did. -/
def pickUrgentSpec : ChangeSpec := { name := "pickUrgent", fn := fun _ => fun
  | [d1, d2, d3, d4] => { results := [.lit (.bool true)], args := [d1, d2, d3, d4] }
  | _ => none }
def pickUrgentRow : OpenClaim := { program := "ytbldbooojocmgaa", sum := "475703b8e3ac67f23d1b7d1fb1350f3f1f742626141bf6cae9e756a806b2f68d", func := "tipstaff/tipstafflaw28.PickUrgent", spec := "pickUrgent", unfollowed := true, recurses := true, plainKeys := false, apart := false }
def PickUrgentSaid : Prop := pickUrgentRow.holds Try.pinned (OpenSpec.ofChange pickUrgentSpec)

/-- ITS FALSE NEIGHBOUR: 'it returns false'. Refute it at one input. -/
def pickUrgentWrong : ChangeSpec := { name := "pickUrgent", fn := fun _ => fun
  | [d1, d2, d3, d4] => { results := [.lit (.bool false)], args := [d1, d2, d3, d4] }
  | _ => none }
def PickUrgentWrongFalsely : Prop := pickUrgentRow.holds Try.pinned (OpenSpec.ofChange pickUrgentWrong)

/-- 'tipstafflaw28.PickApart': WHATEVER THE INPUT: true; the input reads as it did. -/
def pickApartSpec : ChangeSpec := { name := "pickApart", fn := fun _ => fun
  | [d1, d2, d3] => { results := [.lit (.bool true)], args := [d1, d2, d3] }
  | _ => none }
def pickApartRow : OpenClaim := { program := "ytbldbooojocmgaa", sum := "475703b8e3ac67f23d1b7d1fb1350f3f1f742626141bf6cae9e756a806b2f68d", func := "tipstaff/tipstafflaw28.PickApart", spec := "pickApart", unfollowed := true, recurses := true, plainKeys := false, apart := false }
def PickApartSaid : Prop := pickApartRow.holds Try.pinned (OpenSpec.ofChange pickApartSpec)

/-- ITS FALSE NEIGHBOUR: 'it returns false'. Refute it at one input. -/
def pickApartWrong : ChangeSpec := { name := "pickApart", fn := fun _ => fun
  | [d1, d2, d3] => { results := [.lit (.bool false)], args := [d1, d2, d3] }
  | _ => none }
def PickApartWrongFalsely : Prop := pickApartRow.holds Try.pinned (OpenSpec.ofChange pickApartWrong)

/-- 'tipstafflaw28.PickOrder': WHATEVER THE INPUT: true; the input reads as it did. -/
def pickOrderSpec : ChangeSpec := { name := "pickOrder", fn := fun _ => fun
  | [d1, d2, d3, d4] => { results := [.lit (.bool true)], args := [d1, d2, d3, d4] }
  | _ => none }
def pickOrderRow : OpenClaim := { program := "ytbldbooojocmgaa", sum := "475703b8e3ac67f23d1b7d1fb1350f3f1f742626141bf6cae9e756a806b2f68d", func := "tipstaff/tipstafflaw28.PickOrder", spec := "pickOrder", unfollowed := true, recurses := true, plainKeys := false, apart := false }
def PickOrderSaid : Prop := pickOrderRow.holds Try.pinned (OpenSpec.ofChange pickOrderSpec)

/-- ITS FALSE NEIGHBOUR: 'it returns false'. Refute it at one input. -/
def pickOrderWrong : ChangeSpec := { name := "pickOrder", fn := fun _ => fun
  | [d1, d2, d3, d4] => { results := [.lit (.bool false)], args := [d1, d2, d3, d4] }
  | _ => none }
def PickOrderWrongFalsely : Prop := pickOrderRow.holds Try.pinned (OpenSpec.ofChange pickOrderWrong)

/- THE SECOND FORM. 'bulk': how many values and letters a reading holds, each counted each time it is reached (what is shared counts as often as it is met; a slice's spare places count too). A statement '..UptoSaid' is the law's where the arguments, and the package variables that the reading takes, are together of bulk at most 1048576: NARROWER than '..Said'. Prove '..Said' where nothing that the law and all that it calls make is longer than what came in: it says more and counts as full. Else prove '..UptoSaid'. A law counts once. -/
mutual
def uptoBulk {H : Type} : DataW H → Nat
  | .lit (.string bytes) => bytes.length + 1
  | .lit _ => 1
  | .nil => 1
  | .ptr d => uptoBulk d + 1
  | .slice elems spare => uptoBulkAll elems + uptoBulkAll spare + 1
  | .agg parts => uptoBulkAll parts + 1
  | .iface _ d => uptoBulk d + 1
  | .map entries => uptoBulkEntries entries + 1
  | .held _ => 1
def uptoBulkAll {H : Type} : List (DataW H) → Nat
  | [] => 0
  | d :: r => uptoBulk d + uptoBulkAll r
def uptoBulkEntries {H : Type} : List (Lit × DataW H) → Nat
  | [] => 0
  | x :: r => uptoBulkEntry x + uptoBulkEntries r
def uptoBulkEntry {H : Type} : Lit × DataW H → Nat
  | (.string bytes, d) => bytes.length + uptoBulk d + 1
  | (_, d) => uptoBulk d + 1
 end
def uptoSmall : (H : Type) → List (DataW H) → Bool := fun _ ds => decide (uptoBulkAll ds ≤ 1048576)
def OpenSpec.upto (s : _root_.Go.ChangeSpec) : _root_.Go.OpenSpec := { _root_.Go.OpenSpec.ofChange s with cond := some uptoSmall }

/-- 'tipstafflaw28.PickKnown', WHERE WHAT IT READS IS OF BULK AT MOST 1048576: true; the input reads as it did. -/
def pickKnownUptoRow : OpenClaim := { program := "ytbldbooojocmgaa", sum := "475703b8e3ac67f23d1b7d1fb1350f3f1f742626141bf6cae9e756a806b2f68d", func := "tipstaff/tipstafflaw28.PickKnown", spec := "pickKnown", unfollowed := true, recurses := true, plainKeys := false, apart := false, narrowed := true }
def PickKnownUptoSaid : Prop := pickKnownUptoRow.holds Try.pinned (OpenSpec.upto pickKnownSpec)

/-- 'tipstafflaw28.PickCalls', WHERE WHAT IT READS IS OF BULK AT MOST 1048576: true; the input reads as it did. -/
def pickCallsUptoRow : OpenClaim := { program := "ytbldbooojocmgaa", sum := "475703b8e3ac67f23d1b7d1fb1350f3f1f742626141bf6cae9e756a806b2f68d", func := "tipstaff/tipstafflaw28.PickCalls", spec := "pickCalls", unfollowed := true, recurses := true, plainKeys := false, apart := false, narrowed := true }
def PickCallsUptoSaid : Prop := pickCallsUptoRow.holds Try.pinned (OpenSpec.upto pickCallsSpec)

/-- 'tipstafflaw28.PickGoals', WHERE WHAT IT READS IS OF BULK AT MOST 1048576: true; the input reads as it did. -/
def pickGoalsUptoRow : OpenClaim := { program := "ytbldbooojocmgaa", sum := "475703b8e3ac67f23d1b7d1fb1350f3f1f742626141bf6cae9e756a806b2f68d", func := "tipstaff/tipstafflaw28.PickGoals", spec := "pickGoals", unfollowed := true, recurses := true, plainKeys := false, apart := false, narrowed := true }
def PickGoalsUptoSaid : Prop := pickGoalsUptoRow.holds Try.pinned (OpenSpec.upto pickGoalsSpec)

/-- 'tipstafflaw28.PickTrue', WHERE WHAT IT READS IS OF BULK AT MOST 1048576: true; the input reads as it did. -/
def pickTrueUptoRow : OpenClaim := { program := "ytbldbooojocmgaa", sum := "475703b8e3ac67f23d1b7d1fb1350f3f1f742626141bf6cae9e756a806b2f68d", func := "tipstaff/tipstafflaw28.PickTrue", spec := "pickTrue", unfollowed := true, recurses := true, plainKeys := false, apart := false, narrowed := true }
def PickTrueUptoSaid : Prop := pickTrueUptoRow.holds Try.pinned (OpenSpec.upto pickTrueSpec)

/-- 'tipstafflaw28.PickUrgent', WHERE WHAT IT READS IS OF BULK AT MOST 1048576: true; the input reads as it did. -/
def pickUrgentUptoRow : OpenClaim := { program := "ytbldbooojocmgaa", sum := "475703b8e3ac67f23d1b7d1fb1350f3f1f742626141bf6cae9e756a806b2f68d", func := "tipstaff/tipstafflaw28.PickUrgent", spec := "pickUrgent", unfollowed := true, recurses := true, plainKeys := false, apart := false, narrowed := true }
def PickUrgentUptoSaid : Prop := pickUrgentUptoRow.holds Try.pinned (OpenSpec.upto pickUrgentSpec)

/-- 'tipstafflaw28.PickApart', WHERE WHAT IT READS IS OF BULK AT MOST 1048576: true; the input reads as it did. -/
def pickApartUptoRow : OpenClaim := { program := "ytbldbooojocmgaa", sum := "475703b8e3ac67f23d1b7d1fb1350f3f1f742626141bf6cae9e756a806b2f68d", func := "tipstaff/tipstafflaw28.PickApart", spec := "pickApart", unfollowed := true, recurses := true, plainKeys := false, apart := false, narrowed := true }
def PickApartUptoSaid : Prop := pickApartUptoRow.holds Try.pinned (OpenSpec.upto pickApartSpec)

/-- 'tipstafflaw28.PickOrder', WHERE WHAT IT READS IS OF BULK AT MOST 1048576: true; the input reads as it did. -/
def pickOrderUptoRow : OpenClaim := { program := "ytbldbooojocmgaa", sum := "475703b8e3ac67f23d1b7d1fb1350f3f1f742626141bf6cae9e756a806b2f68d", func := "tipstaff/tipstafflaw28.PickOrder", spec := "pickOrder", unfollowed := true, recurses := true, plainKeys := false, apart := false, narrowed := true }
def PickOrderUptoSaid : Prop := pickOrderUptoRow.holds Try.pinned (OpenSpec.upto pickOrderSpec)

end Rows
end Go.Proofs.Ytbldbooojocmgaa
