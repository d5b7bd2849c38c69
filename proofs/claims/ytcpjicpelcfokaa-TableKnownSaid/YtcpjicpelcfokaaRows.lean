/-
  No cell of these rows narrows 'for every input' (looked for: loops, veiled, ifaces, maps, wideKeys, modest, calm, conditions, laid).
  DERIVED. THE GIVEN ROWS OF THIS SEAT. 6 by the template 'for every input the law returns true; each argument reads behind the call as it read before'; 0 by the template 'total and deterministic' (their statements: YtcpjicpelcfokaaTotals.lean).
  GIVEN WITH THE SEED: the statements are not yours to turn. If you find one false, say at which input.
  Laid BY PROGRAM, IN A SANDBOX (cutbox-rows.mjs): the forced cells as the released guide's own fill.sh prints them over the translation 2d745d9a60a38ffe… (all of the seat's roots in one cut). By AI agents, Wed Nov 11 2026. No macro, syntax, notation, axiom, sorry.
-/
import Derived.Test.YtcpjicpelcfokaaChecked
import GoSem.Claim
import GoSem.ClaimJoined
import GoSem.ClaimMapViews
import Derived.JoinedTies
import Derived.KernelRfl
namespace Go.Proofs.Ytcpjicpelcfokaa
/- THE CELL 'sum', in the pinned program and in every row, IS THE sha256 OF THE DUMP (.gsa) THAT YtcpjicpelcfokaaProg.lean LOADS. Nothing in Lean hashes anything: it is a label: what it is worth is what the hold of that sum in a sandbox is worth. -/
noncomputable def Try.pinned : Pinned := { name := "ytcpjicpelcfokaa", sum := "2d745d9a60a38ffe1093d20bfe2cb6e7ed7fe8f6e021dd9463ddd8ffb2a03d59", checked := Try.checked }
namespace Rows
def none {H : Type} : Left H := { results := [], args := [] }

/-- 'tipstafflaw21.TableKnown': WHATEVER THE INPUT: true; the input reads as it did. -/
def tableKnownSpec : ChangeSpec := { name := "tableKnown", fn := fun _ => fun
  | [] => { results := [.lit (.bool true)], args := [] }
  | _ => none }
def tableKnownRow : OpenClaim := { program := "ytcpjicpelcfokaa", sum := "2d745d9a60a38ffe1093d20bfe2cb6e7ed7fe8f6e021dd9463ddd8ffb2a03d59", func := "tipstaff/tipstafflaw21.TableKnown", spec := "tableKnown", unfollowed := true, recurses := true, plainKeys := false, apart := false }
def TableKnownSaid : Prop := tableKnownRow.holds Try.pinned (OpenSpec.ofChange tableKnownSpec)

/-- ITS FALSE NEIGHBOUR: 'it returns false'. Refute it at one input. -/
def tableKnownWrong : ChangeSpec := { name := "tableKnown", fn := fun _ => fun
  | [] => { results := [.lit (.bool false)], args := [] }
  | _ => none }
def TableKnownWrongFalsely : Prop := tableKnownRow.holds Try.pinned (OpenSpec.ofChange tableKnownWrong)

/-- 'tipstafflaw21.TableServes': WHATEVER THE INPUT: true; the input reads as it did. -/
def tableServesSpec : ChangeSpec := { name := "tableServes", fn := fun _ => fun
  | [d1, d2, d3] => { results := [.lit (.bool true)], args := [d1, d2, d3] }
  | _ => none }
def tableServesRow : OpenClaim := { program := "ytcpjicpelcfokaa", sum := "2d745d9a60a38ffe1093d20bfe2cb6e7ed7fe8f6e021dd9463ddd8ffb2a03d59", func := "tipstaff/tipstafflaw21.TableServes", spec := "tableServes", unfollowed := true, recurses := true, plainKeys := false, apart := false }
def TableServesSaid : Prop := tableServesRow.holds Try.pinned (OpenSpec.ofChange tableServesSpec)

/-- ITS FALSE NEIGHBOUR: 'it returns false'. Refute it at one input. -/
def tableServesWrong : ChangeSpec := { name := "tableServes", fn := fun _ => fun
  | [d1, d2, d3] => { results := [.lit (.bool false)], args := [d1, d2, d3] }
  | _ => none }
def TableServesWrongFalsely : Prop := tableServesRow.holds Try.pinned (OpenSpec.ofChange tableServesWrong)

/-- 'tipstafflaw21.TableLooks': WHATEVER THE INPUT: true; the input reads as it did. -/
def tableLooksSpec : ChangeSpec := { name := "tableLooks", fn := fun _ => fun
  | [d1, d2, d3, d4] => { results := [.lit (.bool true)], args := [d1, d2, d3, d4] }
  | _ => none }
def tableLooksRow : OpenClaim := { program := "ytcpjicpelcfokaa", sum := "2d745d9a60a38ffe1093d20bfe2cb6e7ed7fe8f6e021dd9463ddd8ffb2a03d59", func := "tipstaff/tipstafflaw21.TableLooks", spec := "tableLooks", unfollowed := true, recurses := true, plainKeys := false, apart := false }
def TableLooksSaid : Prop := tableLooksRow.holds Try.pinned (OpenSpec.ofChange tableLooksSpec)

/-- ITS FALSE NEIGHBOUR: 'it returns false'. Refute it at one input. -/
def tableLooksWrong : ChangeSpec := { name := "tableLooks", fn := fun _ => fun
  | [d1, d2, d3, d4] => { results := [.lit (.bool false)], args := [d1, d2, d3, d4] }
  | _ => none }
def TableLooksWrongFalsely : Prop := tableLooksRow.holds Try.pinned (OpenSpec.ofChange tableLooksWrong)

/-- 'tipstafflaw21.TableValid': WHATEVER THE INPUT: true; the input reads as it did. -/
def tableValidSpec : ChangeSpec := { name := "tableValid", fn := fun _ => fun
  | [d1, d2] => { results := [.lit (.bool true)], args := [d1, d2] }
  | _ => none }
def tableValidRow : OpenClaim := { program := "ytcpjicpelcfokaa", sum := "2d745d9a60a38ffe1093d20bfe2cb6e7ed7fe8f6e021dd9463ddd8ffb2a03d59", func := "tipstaff/tipstafflaw21.TableValid", spec := "tableValid", unfollowed := true, recurses := true, plainKeys := false, apart := false }
def TableValidSaid : Prop := tableValidRow.holds Try.pinned (OpenSpec.ofChange tableValidSpec)

/-- ITS FALSE NEIGHBOUR: 'it returns false'. Refute it at one input. -/
def tableValidWrong : ChangeSpec := { name := "tableValid", fn := fun _ => fun
  | [d1, d2] => { results := [.lit (.bool false)], args := [d1, d2] }
  | _ => none }
def TableValidWrongFalsely : Prop := tableValidRow.holds Try.pinned (OpenSpec.ofChange tableValidWrong)

/-- 'tipstafflaw21.TableKeeps': WHATEVER THE INPUT: true; the input reads as it did. -/
def tableKeepsSpec : ChangeSpec := { name := "tableKeeps", fn := fun _ => fun
  | [d1, d2, d3, d4] => { results := [.lit (.bool true)], args := [d1, d2, d3, d4] }
  | _ => none }
def tableKeepsRow : OpenClaim := { program := "ytcpjicpelcfokaa", sum := "2d745d9a60a38ffe1093d20bfe2cb6e7ed7fe8f6e021dd9463ddd8ffb2a03d59", func := "tipstaff/tipstafflaw21.TableKeeps", spec := "tableKeeps", unfollowed := true, recurses := true, plainKeys := false, apart := false }
def TableKeepsSaid : Prop := tableKeepsRow.holds Try.pinned (OpenSpec.ofChange tableKeepsSpec)

/-- ITS FALSE NEIGHBOUR: 'it returns false'. Refute it at one input. -/
def tableKeepsWrong : ChangeSpec := { name := "tableKeeps", fn := fun _ => fun
  | [d1, d2, d3, d4] => { results := [.lit (.bool false)], args := [d1, d2, d3, d4] }
  | _ => none }
def TableKeepsWrongFalsely : Prop := tableKeepsRow.holds Try.pinned (OpenSpec.ofChange tableKeepsWrong)

/-- 'tipstafflaw21.TableUrgent': WHATEVER THE INPUT: true; the input reads as it did. -/
def tableUrgentSpec : ChangeSpec := { name := "tableUrgent", fn := fun _ => fun
  | [d1, d2, d3, d4, d5] => { results := [.lit (.bool true)], args := [d1, d2, d3, d4, d5] }
  | _ => none }
def tableUrgentRow : OpenClaim := { program := "ytcpjicpelcfokaa", sum := "2d745d9a60a38ffe1093d20bfe2cb6e7ed7fe8f6e021dd9463ddd8ffb2a03d59", func := "tipstaff/tipstafflaw21.TableUrgent", spec := "tableUrgent", unfollowed := true, recurses := true, plainKeys := false, apart := false }
def TableUrgentSaid : Prop := tableUrgentRow.holds Try.pinned (OpenSpec.ofChange tableUrgentSpec)

/-- ITS FALSE NEIGHBOUR: 'it returns false'. Refute it at one input. -/
def tableUrgentWrong : ChangeSpec := { name := "tableUrgent", fn := fun _ => fun
  | [d1, d2, d3, d4, d5] => { results := [.lit (.bool false)], args := [d1, d2, d3, d4, d5] }
  | _ => none }
def TableUrgentWrongFalsely : Prop := tableUrgentRow.holds Try.pinned (OpenSpec.ofChange tableUrgentWrong)

/- THE SECOND FORM. 'bulk': how many values and letters a reading holds, each counted each time it is reached (what is shared counts as often as it is met; a slice's spare places count too). A statement '..UptoSaid' is the law's where the arguments, and the package variables that the reading takes, are together of bulk at most 1048576: NARROWER than '..Said'. Prove '..Said' where nothing that the law and all that it calls make is longer than what came in: it says more and counts as full. Else prove '..UptoSaid'. A law counts once. -/
mutual
def uptoBulk {H : Type} : DataW H → Nat
  | .lit (.string bytes) => bytes.length + 1
  | .lit _ => 1
  | .nil => 1
  | .ptr d => uptoBulk d + 1
  | .slice elems spare => uptoBulkAll elems + uptoBulkAll spare + 1
  | .agg parts => uptoBulkAll parts + 1
  | .iface _ d => uptoBulk d + 1
  | .map entries => uptoBulkEntries entries + 1
  | .held _ => 1
def uptoBulkAll {H : Type} : List (DataW H) → Nat
  | [] => 0
  | d :: r => uptoBulk d + uptoBulkAll r
def uptoBulkEntries {H : Type} : List (Lit × DataW H) → Nat
  | [] => 0
  | x :: r => uptoBulkEntry x + uptoBulkEntries r
def uptoBulkEntry {H : Type} : Lit × DataW H → Nat
  | (.string bytes, d) => bytes.length + uptoBulk d + 1
  | (_, d) => uptoBulk d + 1
 end
def uptoSmall : (H : Type) → List (DataW H) → Bool := fun _ ds => decide (uptoBulkAll ds ≤ 1048576)
def OpenSpec.upto (s : _root_.Go.ChangeSpec) : _root_.Go.OpenSpec := { _root_.Go.OpenSpec.ofChange s with cond := some uptoSmall }

/-- 'tipstafflaw21.TableKnown', WHERE WHAT IT READS IS OF BULK AT MOST 1048576: true; the input reads as it did. -/
def tableKnownUptoRow : OpenClaim := { program := "ytcpjicpelcfokaa", sum := "2d745d9a60a38ffe1093d20bfe2cb6e7ed7fe8f6e021dd9463ddd8ffb2a03d59", func := "tipstaff/tipstafflaw21.TableKnown", spec := "tableKnown", unfollowed := true, recurses := true, plainKeys := false, apart := false, narrowed := true }
def TableKnownUptoSaid : Prop := tableKnownUptoRow.holds Try.pinned (OpenSpec.upto tableKnownSpec)

/-- 'tipstafflaw21.TableServes', WHERE WHAT IT READS IS OF BULK AT MOST 1048576: true; the input reads as it did. -/
def tableServesUptoRow : OpenClaim := { program := "ytcpjicpelcfokaa", sum := "2d745d9a60a38ffe1093d20bfe2cb6e7ed7fe8f6e021dd9463ddd8ffb2a03d59", func := "tipstaff/tipstafflaw21.TableServes", spec := "tableServes", unfollowed := true, recurses := true, plainKeys := false, apart := false, narrowed := true }
def TableServesUptoSaid : Prop := tableServesUptoRow.holds Try.pinned (OpenSpec.upto tableServesSpec)

/-- 'tipstafflaw21.TableLooks', WHERE WHAT IT READS IS OF BULK AT MOST 1048576: true; the input reads as it did. -/
def tableLooksUptoRow : OpenClaim := { program := "ytcpjicpelcfokaa", sum := "2d745d9a60a38ffe1093d20bfe2cb6e7ed7fe8f6e021dd9463ddd8ffb2a03d59", func := "tipstaff/tipstafflaw21.TableLooks", spec := "tableLooks", unfollowed := true, recurses := true, plainKeys := false, apart := false, narrowed := true }
def TableLooksUptoSaid : Prop := tableLooksUptoRow.holds Try.pinned (OpenSpec.upto tableLooksSpec)

/-- 'tipstafflaw21.TableValid', WHERE WHAT IT READS IS OF BULK AT MOST 1048576: true; the input reads as it did. -/
def tableValidUptoRow : OpenClaim := { program := "ytcpjicpelcfokaa", sum := "2d745d9a60a38ffe1093d20bfe2cb6e7ed7fe8f6e021dd9463ddd8ffb2a03d59", func := "tipstaff/tipstafflaw21.TableValid", spec := "tableValid", unfollowed := true, recurses := true, plainKeys := false, apart := false, narrowed := true }
def TableValidUptoSaid : Prop := tableValidUptoRow.holds Try.pinned (OpenSpec.upto tableValidSpec)

/-- 'tipstafflaw21.TableKeeps', WHERE WHAT IT READS IS OF BULK AT MOST 1048576: true; the input reads as it did. -/
def tableKeepsUptoRow : OpenClaim := { program := "ytcpjicpelcfokaa", sum := "2d745d9a60a38ffe1093d20bfe2cb6e7ed7fe8f6e021dd9463ddd8ffb2a03d59", func := "tipstaff/tipstafflaw21.TableKeeps", spec := "tableKeeps", unfollowed := true, recurses := true, plainKeys := false, apart := false, narrowed := true }
def TableKeepsUptoSaid : Prop := tableKeepsUptoRow.holds Try.pinned (OpenSpec.upto tableKeepsSpec)

/-- 'tipstafflaw21.TableUrgent', WHERE WHAT IT READS IS OF BULK AT MOST 1048576: true; the input reads as it did. -/
def tableUrgentUptoRow : OpenClaim := { program := "ytcpjicpelcfokaa", sum := "2d745d9a60a38ffe1093d20bfe2cb6e7ed7fe8f6e021dd9463ddd8ffb2a03d59", func := "tipstaff/tipstafflaw21.TableUrgent", spec := "tableUrgent", unfollowed := true, recurses := true, plainKeys := false, apart := false, narrowed := true }
def TableUrgentUptoSaid : Prop := tableUrgentUptoRow.holds Try.pinned (OpenSpec.upto tableUrgentSpec)

end Rows
end Go.Proofs.Ytcpjicpelcfokaa
