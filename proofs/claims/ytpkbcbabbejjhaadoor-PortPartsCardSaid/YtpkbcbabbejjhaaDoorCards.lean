/-
  DERIVED. GIVEN WITH THE SEED: THE CARDS: each row of YtpkbcbabbejjhaaDoorRows.lean that lists a variable, with what it lists TIED to the program's text (the seventh form; the later family's looks); each row that meets fmt, with fmt's text TOLD by the authors' own Lean function (tested against real Go, not proved from fmt's source: count such statements apart). THE CARD IS WHAT COUNTS. Prove the row's statement (the work); the ties are given (YtpkbcbabbejjhaaDoorTie.lean); close each card by the builder's one call (the guide's Derived/Test/ToyasCard.lean, 'card_holds'). Laid BY PROGRAM, IN A SANDBOX (cutbox-door.mjs). By AI agents, Wed Nov 11 2026. No macro, syntax, notation, axiom, sorry.
-/
import Derived.Test.YtpkbcbabbejjhaaDoorRows
import GoSem.ClaimSeven
namespace Go.Proofs.YtpkbcbabbejjhaaDoor
namespace Rows

/-- THE TIED CARD OF 'tipstafflaw24.PortKnown'. -/
def portKnownCard : Claim7 := { stood := { row := portKnownRow, standIns := [], harness := (true, "5ef92341542d580739bfa2a85d86fd96b3c8cd5e974616e36a103fe651a88dbe"), looks := true }, kinds := [], alts := [], laidByText := true, laidKinds := [.data, .data, .data, .data], laidTests := true, laidLooks := .later }
def PortKnownCardSaid : Prop := Claim7.holds Tryd.pinned (.plain (OpenSpec.ofChange portKnownSpec)) portKnownCard

/-- THE TIED CARD OF 'tipstafflaw24.PortJudges'. -/
def portJudgesCard : Claim7 := { stood := { row := portJudgesRow, standIns := [], harness := (true, "5ef92341542d580739bfa2a85d86fd96b3c8cd5e974616e36a103fe651a88dbe"), looks := true }, kinds := [], alts := [], laidByText := true, laidKinds := [.data, .data, .data, .data], laidTests := true, laidLooks := .later }
def PortJudgesCardSaid : Prop := Claim7.holds Tryd.pinned (.plain (OpenSpec.ofChange portJudgesSpec)) portJudgesCard

/-- THE TIED CARD OF 'tipstafflaw24.PortSplits'. -/
def portSplitsCard : Claim7 := { stood := { row := portSplitsRow, standIns := [], harness := (true, "5ef92341542d580739bfa2a85d86fd96b3c8cd5e974616e36a103fe651a88dbe"), looks := true }, kinds := [], alts := [], laidByText := true, laidKinds := [.data, .data, .data, .data], laidTests := true, laidLooks := .later }
def PortSplitsCardSaid : Prop := Claim7.holds Tryd.pinned (.plain (OpenSpec.ofChange portSplitsSpec)) portSplitsCard

/-- THE TIED CARD OF 'tipstafflaw24.PortBack'. -/
def portBackCard : Claim7 := { stood := { row := portBackRow, standIns := [], harness := (true, "5ef92341542d580739bfa2a85d86fd96b3c8cd5e974616e36a103fe651a88dbe"), looks := true }, kinds := [], alts := [], laidByText := true, laidKinds := [.data, .data, .data, .data], laidTests := true, laidLooks := .later }
def PortBackCardSaid : Prop := Claim7.holds Tryd.pinned (.plain (OpenSpec.ofChange portBackSpec)) portBackCard

/-- THE TIED CARD OF 'tipstafflaw24.PortParts'. -/
def portPartsCard : Claim7 := { stood := { row := portPartsRow, standIns := [], harness := (true, "5ef92341542d580739bfa2a85d86fd96b3c8cd5e974616e36a103fe651a88dbe"), looks := true }, kinds := [], alts := [], laidByText := true, laidKinds := [.data, .data, .data, .data], laidTests := true, laidLooks := .later }
def PortPartsCardSaid : Prop := Claim7.holds Tryd.pinned (.plain (OpenSpec.ofChange portPartsSpec)) portPartsCard

/-- THE TIED CARD OF 'tipstafflaw24.PortSplit'. -/
def portSplitCard : Claim7 := { stood := { row := portSplitRow, standIns := [], harness := (true, "5ef92341542d580739bfa2a85d86fd96b3c8cd5e974616e36a103fe651a88dbe"), looks := true }, kinds := [], alts := [], laidByText := true, laidKinds := [.data, .data, .data, .data], laidTests := true, laidLooks := .later }
def PortSplitCardSaid : Prop := Claim7.holds Tryd.pinned (.plain (OpenSpec.ofChange portSplitSpec)) portSplitCard

/-- THE TIED CARD OF 'tipstafflaw24.PortSpoilt'. -/
def portSpoiltCard : Claim7 := { stood := { row := portSpoiltRow, standIns := [], harness := (true, "5ef92341542d580739bfa2a85d86fd96b3c8cd5e974616e36a103fe651a88dbe"), looks := true }, kinds := [], alts := [], laidByText := true, laidKinds := [.data, .data, .data, .data], laidTests := true, laidLooks := .later }
def PortSpoiltCardSaid : Prop := Claim7.holds Tryd.pinned (.plain (OpenSpec.ofChange portSpoiltSpec)) portSpoiltCard

/-- THE SECOND FORM's CARD OF 'tipstafflaw24.PortKnown'. -/
def portKnownUptoCard : Claim7 := { stood := { row := portKnownUptoRow, standIns := [], harness := (true, "5ef92341542d580739bfa2a85d86fd96b3c8cd5e974616e36a103fe651a88dbe"), looks := true }, kinds := [], alts := [], laidByText := true, laidKinds := [.data, .data, .data, .data], laidTests := true, laidLooks := .later }
def PortKnownUptoCardSaid : Prop := Claim7.holds Tryd.pinned (.plain (OpenSpec.upto portKnownSpec)) portKnownUptoCard

/-- THE SECOND FORM's CARD OF 'tipstafflaw24.PortJudges'. -/
def portJudgesUptoCard : Claim7 := { stood := { row := portJudgesUptoRow, standIns := [], harness := (true, "5ef92341542d580739bfa2a85d86fd96b3c8cd5e974616e36a103fe651a88dbe"), looks := true }, kinds := [], alts := [], laidByText := true, laidKinds := [.data, .data, .data, .data], laidTests := true, laidLooks := .later }
def PortJudgesUptoCardSaid : Prop := Claim7.holds Tryd.pinned (.plain (OpenSpec.upto portJudgesSpec)) portJudgesUptoCard

/-- THE SECOND FORM's CARD OF 'tipstafflaw24.PortSplits'. -/
def portSplitsUptoCard : Claim7 := { stood := { row := portSplitsUptoRow, standIns := [], harness := (true, "5ef92341542d580739bfa2a85d86fd96b3c8cd5e974616e36a103fe651a88dbe"), looks := true }, kinds := [], alts := [], laidByText := true, laidKinds := [.data, .data, .data, .data], laidTests := true, laidLooks := .later }
def PortSplitsUptoCardSaid : Prop := Claim7.holds Tryd.pinned (.plain (OpenSpec.upto portSplitsSpec)) portSplitsUptoCard

/-- THE SECOND FORM's CARD OF 'tipstafflaw24.PortBack'. -/
def portBackUptoCard : Claim7 := { stood := { row := portBackUptoRow, standIns := [], harness := (true, "5ef92341542d580739bfa2a85d86fd96b3c8cd5e974616e36a103fe651a88dbe"), looks := true }, kinds := [], alts := [], laidByText := true, laidKinds := [.data, .data, .data, .data], laidTests := true, laidLooks := .later }
def PortBackUptoCardSaid : Prop := Claim7.holds Tryd.pinned (.plain (OpenSpec.upto portBackSpec)) portBackUptoCard

/-- THE SECOND FORM's CARD OF 'tipstafflaw24.PortParts'. -/
def portPartsUptoCard : Claim7 := { stood := { row := portPartsUptoRow, standIns := [], harness := (true, "5ef92341542d580739bfa2a85d86fd96b3c8cd5e974616e36a103fe651a88dbe"), looks := true }, kinds := [], alts := [], laidByText := true, laidKinds := [.data, .data, .data, .data], laidTests := true, laidLooks := .later }
def PortPartsUptoCardSaid : Prop := Claim7.holds Tryd.pinned (.plain (OpenSpec.upto portPartsSpec)) portPartsUptoCard

/-- THE SECOND FORM's CARD OF 'tipstafflaw24.PortSplit'. -/
def portSplitUptoCard : Claim7 := { stood := { row := portSplitUptoRow, standIns := [], harness := (true, "5ef92341542d580739bfa2a85d86fd96b3c8cd5e974616e36a103fe651a88dbe"), looks := true }, kinds := [], alts := [], laidByText := true, laidKinds := [.data, .data, .data, .data], laidTests := true, laidLooks := .later }
def PortSplitUptoCardSaid : Prop := Claim7.holds Tryd.pinned (.plain (OpenSpec.upto portSplitSpec)) portSplitUptoCard

/-- THE SECOND FORM's CARD OF 'tipstafflaw24.PortSpoilt'. -/
def portSpoiltUptoCard : Claim7 := { stood := { row := portSpoiltUptoRow, standIns := [], harness := (true, "5ef92341542d580739bfa2a85d86fd96b3c8cd5e974616e36a103fe651a88dbe"), looks := true }, kinds := [], alts := [], laidByText := true, laidKinds := [.data, .data, .data, .data], laidTests := true, laidLooks := .later }
def PortSpoiltUptoCardSaid : Prop := Claim7.holds Tryd.pinned (.plain (OpenSpec.upto portSpoiltSpec)) portSpoiltUptoCard
end Rows
end Go.Proofs.YtpkbcbabbejjhaaDoor
