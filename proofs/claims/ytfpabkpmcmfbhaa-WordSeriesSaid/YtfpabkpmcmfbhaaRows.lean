/-
  No cell of these rows narrows 'for every input' (looked for: loops, veiled, ifaces, maps, wideKeys, modest, calm, conditions, laid).
  DERIVED. THE GIVEN ROWS OF THIS SEAT. 5 by the template 'for every input the law returns true; each argument reads behind the call as it read before'; 0 by the template 'total and deterministic' (their statements: YtfpabkpmcmfbhaaTotals.lean).
  GIVEN WITH THE SEED: the statements are not yours to turn. If you find one false, say at which input.
  Laid BY PROGRAM, IN A SANDBOX (cutbox-rows.mjs): the forced cells as the released guide's own fill.sh prints them over the translation 9501d53ce05e37ca… (all of the seat's roots in one cut). By AI agents, Wed Nov 11 2026. No macro, syntax, notation, axiom, sorry.
-/
import Derived.Test.YtfpabkpmcmfbhaaChecked
import GoSem.Claim
import GoSem.ClaimJoined
import GoSem.ClaimMapViews
import Derived.JoinedTies
import Derived.KernelRfl
namespace Go.Proofs.Ytfpabkpmcmfbhaa
/- THE CELL 'sum', in the pinned program and in every row, IS THE sha256 OF THE DUMP (.gsa) THAT YtfpabkpmcmfbhaaProg.lean LOADS. Nothing in Lean hashes anything: it is a label: what it is worth is what the hold of that sum in a sandbox is worth. -/
noncomputable def Try.pinned : Pinned := { name := "ytfpabkpmcmfbhaa", sum := "9501d53ce05e37ca0f78d6dfd1d50375e61af416a176b2f8dd7d4e2a83b6dd45", checked := Try.checked }
namespace Rows
def none {H : Type} : Left H := { results := [], args := [] }

/-- 'tipstafflaw33.WordSlots': WHATEVER THE INPUT: true; the input reads as it did. -/
def wordSlotsSpec : ChangeSpec := { name := "wordSlots", fn := fun _ => fun
  | [d1, d2, d3] => { results := [.lit (.bool true)], args := [d1, d2, d3] }
  | _ => none }
def wordSlotsRow : OpenClaim := { program := "ytfpabkpmcmfbhaa", sum := "9501d53ce05e37ca0f78d6dfd1d50375e61af416a176b2f8dd7d4e2a83b6dd45", func := "tipstaff/tipstafflaw33.WordSlots", spec := "wordSlots", unfollowed := true, recurses := true, apart := false }
def WordSlotsSaid : Prop := wordSlotsRow.holds Try.pinned (OpenSpec.ofChange wordSlotsSpec)

/-- ITS FALSE NEIGHBOUR: 'it returns false'. Refute it at one input. -/
def wordSlotsWrong : ChangeSpec := { name := "wordSlots", fn := fun _ => fun
  | [d1, d2, d3] => { results := [.lit (.bool false)], args := [d1, d2, d3] }
  | _ => none }
def WordSlotsWrongFalsely : Prop := wordSlotsRow.holds Try.pinned (OpenSpec.ofChange wordSlotsWrong)

/-- 'tipstafflaw33.WordSeries': WHATEVER THE INPUT: true; the input reads as it did. -/
def wordSeriesSpec : ChangeSpec := { name := "wordSeries", fn := fun _ => fun
  | [d1, d2, d3] => { results := [.lit (.bool true)], args := [d1, d2, d3] }
  | _ => none }
def wordSeriesRow : OpenClaim := { program := "ytfpabkpmcmfbhaa", sum := "9501d53ce05e37ca0f78d6dfd1d50375e61af416a176b2f8dd7d4e2a83b6dd45", func := "tipstaff/tipstafflaw33.WordSeries", spec := "wordSeries", unfollowed := true, recurses := true, apart := false }
def WordSeriesSaid : Prop := wordSeriesRow.holds Try.pinned (OpenSpec.ofChange wordSeriesSpec)

/-- ITS FALSE NEIGHBOUR: 'it returns false'. Refute it at one input. -/
def wordSeriesWrong : ChangeSpec := { name := "wordSeries", fn := fun _ => fun
  | [d1, d2, d3] => { results := [.lit (.bool false)], args := [d1, d2, d3] }
  | _ => none }
def WordSeriesWrongFalsely : Prop := wordSeriesRow.holds Try.pinned (OpenSpec.ofChange wordSeriesWrong)

/-- 'tipstafflaw33.WordMakes': WHATEVER THE INPUT: true; the input reads as it did. -/
def wordMakesSpec : ChangeSpec := { name := "wordMakes", fn := fun _ => fun
  | [d1, d2, d3] => { results := [.lit (.bool true)], args := [d1, d2, d3] }
  | _ => none }
def wordMakesRow : OpenClaim := { program := "ytfpabkpmcmfbhaa", sum := "9501d53ce05e37ca0f78d6dfd1d50375e61af416a176b2f8dd7d4e2a83b6dd45", func := "tipstaff/tipstafflaw33.WordMakes", spec := "wordMakes", unfollowed := true, recurses := true, apart := false }
def WordMakesSaid : Prop := wordMakesRow.holds Try.pinned (OpenSpec.ofChange wordMakesSpec)

/-- ITS FALSE NEIGHBOUR: 'it returns false'. Refute it at one input. -/
def wordMakesWrong : ChangeSpec := { name := "wordMakes", fn := fun _ => fun
  | [d1, d2, d3] => { results := [.lit (.bool false)], args := [d1, d2, d3] }
  | _ => none }
def WordMakesWrongFalsely : Prop := wordMakesRow.holds Try.pinned (OpenSpec.ofChange wordMakesWrong)

/-- 'tipstafflaw33.WordAlone': WHATEVER THE INPUT: true; the input reads as it did. -/
def wordAloneSpec : ChangeSpec := { name := "wordAlone", fn := fun _ => fun
  | [d1, d2] => { results := [.lit (.bool true)], args := [d1, d2] }
  | _ => none }
def wordAloneRow : OpenClaim := { program := "ytfpabkpmcmfbhaa", sum := "9501d53ce05e37ca0f78d6dfd1d50375e61af416a176b2f8dd7d4e2a83b6dd45", func := "tipstaff/tipstafflaw33.WordAlone", spec := "wordAlone", unfollowed := true, recurses := true, apart := false }
def WordAloneSaid : Prop := wordAloneRow.holds Try.pinned (OpenSpec.ofChange wordAloneSpec)

/-- ITS FALSE NEIGHBOUR: 'it returns false'. Refute it at one input. -/
def wordAloneWrong : ChangeSpec := { name := "wordAlone", fn := fun _ => fun
  | [d1, d2] => { results := [.lit (.bool false)], args := [d1, d2] }
  | _ => none }
def WordAloneWrongFalsely : Prop := wordAloneRow.holds Try.pinned (OpenSpec.ofChange wordAloneWrong)

/-- 'tipstafflaw33.WordParts': WHATEVER THE INPUT: true; the input reads as it did. -/
def wordPartsSpec : ChangeSpec := { name := "wordParts", fn := fun _ => fun
  | [d1, d2] => { results := [.lit (.bool true)], args := [d1, d2] }
  | _ => none }
def wordPartsRow : OpenClaim := { program := "ytfpabkpmcmfbhaa", sum := "9501d53ce05e37ca0f78d6dfd1d50375e61af416a176b2f8dd7d4e2a83b6dd45", func := "tipstaff/tipstafflaw33.WordParts", spec := "wordParts", unfollowed := true, recurses := true, apart := false }
def WordPartsSaid : Prop := wordPartsRow.holds Try.pinned (OpenSpec.ofChange wordPartsSpec)

/-- ITS FALSE NEIGHBOUR: 'it returns false'. Refute it at one input. -/
def wordPartsWrong : ChangeSpec := { name := "wordParts", fn := fun _ => fun
  | [d1, d2] => { results := [.lit (.bool false)], args := [d1, d2] }
  | _ => none }
def WordPartsWrongFalsely : Prop := wordPartsRow.holds Try.pinned (OpenSpec.ofChange wordPartsWrong)

/- THE SECOND FORM. 'bulk': how many values and letters a reading holds, each counted each time it is reached (what is shared counts as often as it is met; a slice's spare places count too). A statement '..UptoSaid' is the law's where the arguments, and the package variables that the reading takes, are together of bulk at most 1048576: NARROWER than '..Said'. Prove '..Said' where nothing that the law and all that it calls make is longer than what came in: it says more and counts as full. Else prove '..UptoSaid'. A law counts once. -/
mutual
def uptoBulk {H : Type} : DataW H → Nat
  | .lit (.string bytes) => bytes.length + 1
  | .lit _ => 1
  | .nil => 1
  | .ptr d => uptoBulk d + 1
  | .slice elems spare => uptoBulkAll elems + uptoBulkAll spare + 1
  | .agg parts => uptoBulkAll parts + 1
  | .iface _ d => uptoBulk d + 1
  | .map entries => uptoBulkEntries entries + 1
  | .held _ => 1
def uptoBulkAll {H : Type} : List (DataW H) → Nat
  | [] => 0
  | d :: r => uptoBulk d + uptoBulkAll r
def uptoBulkEntries {H : Type} : List (Lit × DataW H) → Nat
  | [] => 0
  | x :: r => uptoBulkEntry x + uptoBulkEntries r
def uptoBulkEntry {H : Type} : Lit × DataW H → Nat
  | (.string bytes, d) => bytes.length + uptoBulk d + 1
  | (_, d) => uptoBulk d + 1
 end
def uptoSmall : (H : Type) → List (DataW H) → Bool := fun _ ds => decide (uptoBulkAll ds ≤ 1048576)
def OpenSpec.upto (s : _root_.Go.ChangeSpec) : _root_.Go.OpenSpec := { _root_.Go.OpenSpec.ofChange s with cond := some uptoSmall }

/-- 'tipstafflaw33.WordSlots', WHERE WHAT IT READS IS OF BULK AT MOST 1048576: true; the input reads as it did. -/
def wordSlotsUptoRow : OpenClaim := { program := "ytfpabkpmcmfbhaa", sum := "9501d53ce05e37ca0f78d6dfd1d50375e61af416a176b2f8dd7d4e2a83b6dd45", func := "tipstaff/tipstafflaw33.WordSlots", spec := "wordSlots", unfollowed := true, recurses := true, apart := false, narrowed := true }
def WordSlotsUptoSaid : Prop := wordSlotsUptoRow.holds Try.pinned (OpenSpec.upto wordSlotsSpec)

/-- 'tipstafflaw33.WordSeries', WHERE WHAT IT READS IS OF BULK AT MOST 1048576: true; the input reads as it did. -/
def wordSeriesUptoRow : OpenClaim := { program := "ytfpabkpmcmfbhaa", sum := "9501d53ce05e37ca0f78d6dfd1d50375e61af416a176b2f8dd7d4e2a83b6dd45", func := "tipstaff/tipstafflaw33.WordSeries", spec := "wordSeries", unfollowed := true, recurses := true, apart := false, narrowed := true }
def WordSeriesUptoSaid : Prop := wordSeriesUptoRow.holds Try.pinned (OpenSpec.upto wordSeriesSpec)

/-- 'tipstafflaw33.WordMakes', WHERE WHAT IT READS IS OF BULK AT MOST 1048576: true; the input reads as it did. -/
def wordMakesUptoRow : OpenClaim := { program := "ytfpabkpmcmfbhaa", sum := "9501d53ce05e37ca0f78d6dfd1d50375e61af416a176b2f8dd7d4e2a83b6dd45", func := "tipstaff/tipstafflaw33.WordMakes", spec := "wordMakes", unfollowed := true, recurses := true, apart := false, narrowed := true }
def WordMakesUptoSaid : Prop := wordMakesUptoRow.holds Try.pinned (OpenSpec.upto wordMakesSpec)

/-- 'tipstafflaw33.WordAlone', WHERE WHAT IT READS IS OF BULK AT MOST 1048576: true; the input reads as it did. -/
def wordAloneUptoRow : OpenClaim := { program := "ytfpabkpmcmfbhaa", sum := "9501d53ce05e37ca0f78d6dfd1d50375e61af416a176b2f8dd7d4e2a83b6dd45", func := "tipstaff/tipstafflaw33.WordAlone", spec := "wordAlone", unfollowed := true, recurses := true, apart := false, narrowed := true }
def WordAloneUptoSaid : Prop := wordAloneUptoRow.holds Try.pinned (OpenSpec.upto wordAloneSpec)

/-- 'tipstafflaw33.WordParts', WHERE WHAT IT READS IS OF BULK AT MOST 1048576: true; the input reads as it did. -/
def wordPartsUptoRow : OpenClaim := { program := "ytfpabkpmcmfbhaa", sum := "9501d53ce05e37ca0f78d6dfd1d50375e61af416a176b2f8dd7d4e2a83b6dd45", func := "tipstaff/tipstafflaw33.WordParts", spec := "wordParts", unfollowed := true, recurses := true, apart := false, narrowed := true }
def WordPartsUptoSaid : Prop := wordPartsUptoRow.holds Try.pinned (OpenSpec.upto wordPartsSpec)

end Rows
end Go.Proofs.Ytfpabkpmcmfbhaa
