/-
  DERIVED. GIVEN WITH THE SEED: THE CARDS: each row of YteoenoladnijfaaDoorRows.lean that lists a variable, with what it lists TIED to the program's text (the seventh form; the later family's looks); each row that meets fmt, with fmt's text TOLD by the authors' own Lean function (tested against real Go, not proved from fmt's source: count such statements apart). THE CARD IS WHAT COUNTS. Prove the row's statement (the work); the ties are given (YteoenoladnijfaaDoorTie.lean); close each card by the builder's one call (the guide's Derived/Test/ToyasCard.lean, 'card_holds'). Laid BY PROGRAM, IN A SANDBOX (cutbox-door.mjs). By AI agents, Wed Nov 11 2026. No macro, syntax, notation, axiom, sorry.
-/
import Derived.Test.YteoenoladnijfaaDoorRows
import GoSem.ClaimSeven
namespace Go.Proofs.YteoenoladnijfaaDoor
namespace Rows

/-- THE TIED CARD OF 'tipstafflaw03.RowKnown'. -/
def rowKnownCard : Claim7 := { stood := { row := rowKnownRow, standIns := [], harness := (true, "bd3e3d16e4c325aa147f86c8558e395286fbb0aa63ed62fffb541f31ba2166b5"), looks := false }, kinds := [], alts := [], laidByText := true, laidKinds := [.data, .pinned], laidTests := true, laidLooks := .later }
def RowKnownCardSaid : Prop := Claim7.holds Tryd.pinned (.plain (OpenSpec.ofChange rowKnownSpec)) rowKnownCard

/-- THE TIED CARD OF 'tipstafflaw03.RowReads'. -/
def rowReadsCard : Claim7 := { stood := { row := rowReadsRow, standIns := [], harness := (true, "bd3e3d16e4c325aa147f86c8558e395286fbb0aa63ed62fffb541f31ba2166b5"), looks := false }, kinds := [], alts := [], laidByText := true, laidKinds := [.data, .pinned], laidTests := true, laidLooks := .later }
def RowReadsCardSaid : Prop := Claim7.holds Tryd.pinned (.plain (OpenSpec.ofChange rowReadsSpec)) rowReadsCard

/-- THE TIED CARD OF 'tipstafflaw03.RowWrites'. -/
def rowWritesCard : Claim7 := { stood := { row := rowWritesRow, standIns := [], harness := (true, "bd3e3d16e4c325aa147f86c8558e395286fbb0aa63ed62fffb541f31ba2166b5"), looks := false }, kinds := [], alts := [], laidByText := true, laidKinds := [.data, .data, .data, .data, .pinned], laidTests := true, laidLooks := .later }
def RowWritesCardSaid : Prop := Claim7.holds Tryd.pinned (.plain (OpenSpec.ofChange rowWritesSpec)) rowWritesCard

/-- THE TIED CARD OF 'tipstafflaw03.RowTexts'. -/
def rowTextsCard : Claim7 := { stood := { row := rowTextsRow, standIns := [], harness := (true, "bd3e3d16e4c325aa147f86c8558e395286fbb0aa63ed62fffb541f31ba2166b5"), looks := false }, kinds := [], alts := [], laidByText := true, laidKinds := [.data, .pinned], laidTests := true, laidLooks := .later }
def RowTextsCardSaid : Prop := Claim7.holds Tryd.pinned (.plain (OpenSpec.ofChange rowTextsSpec)) rowTextsCard

/-- THE TIED CARD OF 'tipstafflaw03.RowWords'. -/
def rowWordsCard : Claim7 := { stood := { row := rowWordsRow, standIns := [], harness := (true, "bd3e3d16e4c325aa147f86c8558e395286fbb0aa63ed62fffb541f31ba2166b5"), looks := false }, kinds := [], alts := [], laidByText := true, laidKinds := [.data, .pinned], laidTests := true, laidLooks := .later }
def RowWordsCardSaid : Prop := Claim7.holds Tryd.pinned (.plain (OpenSpec.ofChange rowWordsSpec)) rowWordsCard

/-- THE TIED CARD OF 'tipstafflaw03.RowBack'. -/
def rowBackCard : Claim7 := { stood := { row := rowBackRow, standIns := [], harness := (true, "bd3e3d16e4c325aa147f86c8558e395286fbb0aa63ed62fffb541f31ba2166b5"), looks := false }, kinds := [], alts := [], laidByText := true, laidKinds := [.data, .pinned], laidTests := true, laidLooks := .later }
def RowBackCardSaid : Prop := Claim7.holds Tryd.pinned (.plain (OpenSpec.ofChange rowBackSpec)) rowBackCard

/-- THE TIED CARD OF 'tipstafflaw03.RowAgain'. -/
def rowAgainCard : Claim7 := { stood := { row := rowAgainRow, standIns := [], harness := (true, "bd3e3d16e4c325aa147f86c8558e395286fbb0aa63ed62fffb541f31ba2166b5"), looks := false }, kinds := [], alts := [], laidByText := true, laidKinds := [.data, .data, .data, .data, .pinned], laidTests := true, laidLooks := .later }
def RowAgainCardSaid : Prop := Claim7.holds Tryd.pinned (.plain (OpenSpec.ofChange rowAgainSpec)) rowAgainCard

/-- THE TIED CARD OF 'tipstafflaw03.RowBlanks'. -/
def rowBlanksCard : Claim7 := { stood := { row := rowBlanksRow, standIns := [], harness := (true, "bd3e3d16e4c325aa147f86c8558e395286fbb0aa63ed62fffb541f31ba2166b5"), looks := false }, kinds := [], alts := [], laidByText := true, laidKinds := [.data, .pinned], laidTests := true, laidLooks := .later }
def RowBlanksCardSaid : Prop := Claim7.holds Tryd.pinned (.plain (OpenSpec.ofChange rowBlanksSpec)) rowBlanksCard

/-- THE SECOND FORM's CARD OF 'tipstafflaw03.RowKnown'. -/
def rowKnownUptoCard : Claim7 := { stood := { row := rowKnownUptoRow, standIns := [], harness := (true, "bd3e3d16e4c325aa147f86c8558e395286fbb0aa63ed62fffb541f31ba2166b5"), looks := false }, kinds := [], alts := [], laidByText := true, laidKinds := [.data, .pinned], laidTests := true, laidLooks := .later }
def RowKnownUptoCardSaid : Prop := Claim7.holds Tryd.pinned (.plain (OpenSpec.upto rowKnownSpec)) rowKnownUptoCard

/-- THE SECOND FORM's CARD OF 'tipstafflaw03.RowReads'. -/
def rowReadsUptoCard : Claim7 := { stood := { row := rowReadsUptoRow, standIns := [], harness := (true, "bd3e3d16e4c325aa147f86c8558e395286fbb0aa63ed62fffb541f31ba2166b5"), looks := false }, kinds := [], alts := [], laidByText := true, laidKinds := [.data, .pinned], laidTests := true, laidLooks := .later }
def RowReadsUptoCardSaid : Prop := Claim7.holds Tryd.pinned (.plain (OpenSpec.upto rowReadsSpec)) rowReadsUptoCard

/-- THE SECOND FORM's CARD OF 'tipstafflaw03.RowWrites'. -/
def rowWritesUptoCard : Claim7 := { stood := { row := rowWritesUptoRow, standIns := [], harness := (true, "bd3e3d16e4c325aa147f86c8558e395286fbb0aa63ed62fffb541f31ba2166b5"), looks := false }, kinds := [], alts := [], laidByText := true, laidKinds := [.data, .data, .data, .data, .pinned], laidTests := true, laidLooks := .later }
def RowWritesUptoCardSaid : Prop := Claim7.holds Tryd.pinned (.plain (OpenSpec.upto rowWritesSpec)) rowWritesUptoCard

/-- THE SECOND FORM's CARD OF 'tipstafflaw03.RowTexts'. -/
def rowTextsUptoCard : Claim7 := { stood := { row := rowTextsUptoRow, standIns := [], harness := (true, "bd3e3d16e4c325aa147f86c8558e395286fbb0aa63ed62fffb541f31ba2166b5"), looks := false }, kinds := [], alts := [], laidByText := true, laidKinds := [.data, .pinned], laidTests := true, laidLooks := .later }
def RowTextsUptoCardSaid : Prop := Claim7.holds Tryd.pinned (.plain (OpenSpec.upto rowTextsSpec)) rowTextsUptoCard

/-- THE SECOND FORM's CARD OF 'tipstafflaw03.RowWords'. -/
def rowWordsUptoCard : Claim7 := { stood := { row := rowWordsUptoRow, standIns := [], harness := (true, "bd3e3d16e4c325aa147f86c8558e395286fbb0aa63ed62fffb541f31ba2166b5"), looks := false }, kinds := [], alts := [], laidByText := true, laidKinds := [.data, .pinned], laidTests := true, laidLooks := .later }
def RowWordsUptoCardSaid : Prop := Claim7.holds Tryd.pinned (.plain (OpenSpec.upto rowWordsSpec)) rowWordsUptoCard

/-- THE SECOND FORM's CARD OF 'tipstafflaw03.RowBack'. -/
def rowBackUptoCard : Claim7 := { stood := { row := rowBackUptoRow, standIns := [], harness := (true, "bd3e3d16e4c325aa147f86c8558e395286fbb0aa63ed62fffb541f31ba2166b5"), looks := false }, kinds := [], alts := [], laidByText := true, laidKinds := [.data, .pinned], laidTests := true, laidLooks := .later }
def RowBackUptoCardSaid : Prop := Claim7.holds Tryd.pinned (.plain (OpenSpec.upto rowBackSpec)) rowBackUptoCard

/-- THE SECOND FORM's CARD OF 'tipstafflaw03.RowAgain'. -/
def rowAgainUptoCard : Claim7 := { stood := { row := rowAgainUptoRow, standIns := [], harness := (true, "bd3e3d16e4c325aa147f86c8558e395286fbb0aa63ed62fffb541f31ba2166b5"), looks := false }, kinds := [], alts := [], laidByText := true, laidKinds := [.data, .data, .data, .data, .pinned], laidTests := true, laidLooks := .later }
def RowAgainUptoCardSaid : Prop := Claim7.holds Tryd.pinned (.plain (OpenSpec.upto rowAgainSpec)) rowAgainUptoCard

/-- THE SECOND FORM's CARD OF 'tipstafflaw03.RowBlanks'. -/
def rowBlanksUptoCard : Claim7 := { stood := { row := rowBlanksUptoRow, standIns := [], harness := (true, "bd3e3d16e4c325aa147f86c8558e395286fbb0aa63ed62fffb541f31ba2166b5"), looks := false }, kinds := [], alts := [], laidByText := true, laidKinds := [.data, .pinned], laidTests := true, laidLooks := .later }
def RowBlanksUptoCardSaid : Prop := Claim7.holds Tryd.pinned (.plain (OpenSpec.upto rowBlanksSpec)) rowBlanksUptoCard
end Rows
end Go.Proofs.YteoenoladnijfaaDoor
