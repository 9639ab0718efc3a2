/-
  DERIVED. GIVEN WITH THE SEED: THE CARDS: each row of YtngjiljminopnaaGreatDoorRows.lean that lists a variable, with what it lists TIED to the program's text (the seventh form; the later family's looks); each row that meets fmt, with fmt's text TOLD by the authors' own Lean function (tested against real Go, not proved from fmt's source: count such statements apart). THE CARD IS WHAT COUNTS. Prove the row's statement (the work); the ties are given (YtngjiljminopnaaGreatDoorTie.lean); close each card by the builder's one call (the guide's Derived/Test/ToyasCard.lean, 'card_holds'). Laid BY PROGRAM, IN A SANDBOX (cutbox-door.mjs). By AI agents, Wed Nov 11 2026. No macro, syntax, notation, axiom, sorry.
-/
import Derived.Test.YtngjiljminopnaaGreatDoorRows
import GoSem.ClaimSeven
namespace Go.Proofs.YtngjiljminopnaaGreatDoor
namespace Rows

/-- THE TIED CARD OF 'versinelaw03.ChordWaves'. -/
def chordWavesCard : Claim7 := { stood := { row := chordWavesRow, standIns := [], harness := (true, "7725069c87a3c60244d813480915e9f2c01afbd6eb3ca940d2d464ad145dd728"), looks := false }, kinds := [], alts := [], laidByText := true, laidKinds := [.data, .data, .data, .data, .data], laidTests := true, laidLooks := .later }
def ChordWavesCardSaid : Prop := Claim7.holds Tryz.pinned (.plain (OpenSpec.ofChange chordWavesSpec)) chordWavesCard

/-- THE TIED CARD OF 'versinelaw03.ChordPanels'. -/
def chordPanelsCard : Claim7 := { stood := { row := chordPanelsRow, standIns := [], harness := (true, "7725069c87a3c60244d813480915e9f2c01afbd6eb3ca940d2d464ad145dd728"), looks := false }, kinds := [], alts := [], laidByText := true, laidKinds := [.data, .data, .data, .data, .data], laidTests := true, laidLooks := .later }
def ChordPanelsCardSaid : Prop := Claim7.holds Tryz.pinned (.plain (OpenSpec.ofChange chordPanelsSpec)) chordPanelsCard

/-- THE TIED CARD OF 'versinelaw03.ChordAgain'. -/
def chordAgainCard : Claim7 := { stood := { row := chordAgainRow, standIns := [], harness := (true, "7725069c87a3c60244d813480915e9f2c01afbd6eb3ca940d2d464ad145dd728"), looks := false }, kinds := [], alts := [], laidByText := true, laidKinds := [.data, .data, .data, .data, .data], laidTests := true, laidLooks := .later }
def ChordAgainCardSaid : Prop := Claim7.holds Tryz.pinned (.plain (OpenSpec.ofChange chordAgainSpec)) chordAgainCard

/-- THE TIED CARD OF 'versinelaw03.ChordBlind'. -/
def chordBlindCard : Claim7 := { stood := { row := chordBlindRow, standIns := [], harness := (true, "7725069c87a3c60244d813480915e9f2c01afbd6eb3ca940d2d464ad145dd728"), looks := false }, kinds := [], alts := [], laidByText := true, laidKinds := [.data, .data, .data, .data, .data], laidTests := true, laidLooks := .later }
def ChordBlindCardSaid : Prop := Claim7.holds Tryz.pinned (.plain (OpenSpec.ofChange chordBlindSpec)) chordBlindCard

/-- THE TIED CARD OF 'versinetop.TopForkMeasured'. -/
def topForkMeasuredCard : Claim7 := { stood := { row := topForkMeasuredRow, standIns := [], harness := (true, "7725069c87a3c60244d813480915e9f2c01afbd6eb3ca940d2d464ad145dd728"), looks := false }, kinds := [], alts := [], laidByText := true, laidKinds := [.data, .data, .data], laidTests := true, laidLooks := .later }
def TopForkMeasuredCardSaid : Prop := Claim7.holds Tryz.pinned (.plain (OpenSpec.ofChange topForkMeasuredSpec)) topForkMeasuredCard

/-- THE TIED CARD OF 'versinetop.TopForkParts'. -/
def topForkPartsCard : Claim7 := { stood := { row := topForkPartsRow, standIns := [], harness := (true, "7725069c87a3c60244d813480915e9f2c01afbd6eb3ca940d2d464ad145dd728"), looks := false }, kinds := [], alts := [], laidByText := true, laidKinds := [.data, .data, .data], laidTests := true, laidLooks := .later }
def TopForkPartsCardSaid : Prop := Claim7.holds Tryz.pinned (.plain (OpenSpec.ofChange topForkPartsSpec)) topForkPartsCard

/-- THE SECOND FORM's CARD OF 'versinelaw03.ChordWaves'. -/
def chordWavesUptoCard : Claim7 := { stood := { row := chordWavesUptoRow, standIns := [], harness := (true, "7725069c87a3c60244d813480915e9f2c01afbd6eb3ca940d2d464ad145dd728"), looks := false }, kinds := [], alts := [], laidByText := true, laidKinds := [.data, .data, .data, .data, .data], laidTests := true, laidLooks := .later }
def ChordWavesUptoCardSaid : Prop := Claim7.holds Tryz.pinned (.plain (OpenSpec.upto chordWavesSpec)) chordWavesUptoCard

/-- THE SECOND FORM's CARD OF 'versinelaw03.ChordPanels'. -/
def chordPanelsUptoCard : Claim7 := { stood := { row := chordPanelsUptoRow, standIns := [], harness := (true, "7725069c87a3c60244d813480915e9f2c01afbd6eb3ca940d2d464ad145dd728"), looks := false }, kinds := [], alts := [], laidByText := true, laidKinds := [.data, .data, .data, .data, .data], laidTests := true, laidLooks := .later }
def ChordPanelsUptoCardSaid : Prop := Claim7.holds Tryz.pinned (.plain (OpenSpec.upto chordPanelsSpec)) chordPanelsUptoCard

/-- THE SECOND FORM's CARD OF 'versinelaw03.ChordAgain'. -/
def chordAgainUptoCard : Claim7 := { stood := { row := chordAgainUptoRow, standIns := [], harness := (true, "7725069c87a3c60244d813480915e9f2c01afbd6eb3ca940d2d464ad145dd728"), looks := false }, kinds := [], alts := [], laidByText := true, laidKinds := [.data, .data, .data, .data, .data], laidTests := true, laidLooks := .later }
def ChordAgainUptoCardSaid : Prop := Claim7.holds Tryz.pinned (.plain (OpenSpec.upto chordAgainSpec)) chordAgainUptoCard

/-- THE SECOND FORM's CARD OF 'versinelaw03.ChordBlind'. -/
def chordBlindUptoCard : Claim7 := { stood := { row := chordBlindUptoRow, standIns := [], harness := (true, "7725069c87a3c60244d813480915e9f2c01afbd6eb3ca940d2d464ad145dd728"), looks := false }, kinds := [], alts := [], laidByText := true, laidKinds := [.data, .data, .data, .data, .data], laidTests := true, laidLooks := .later }
def ChordBlindUptoCardSaid : Prop := Claim7.holds Tryz.pinned (.plain (OpenSpec.upto chordBlindSpec)) chordBlindUptoCard

/-- THE SECOND FORM's CARD OF 'versinetop.TopForkMeasured'. -/
def topForkMeasuredUptoCard : Claim7 := { stood := { row := topForkMeasuredUptoRow, standIns := [], harness := (true, "7725069c87a3c60244d813480915e9f2c01afbd6eb3ca940d2d464ad145dd728"), looks := false }, kinds := [], alts := [], laidByText := true, laidKinds := [.data, .data, .data], laidTests := true, laidLooks := .later }
def TopForkMeasuredUptoCardSaid : Prop := Claim7.holds Tryz.pinned (.plain (OpenSpec.upto topForkMeasuredSpec)) topForkMeasuredUptoCard

/-- THE SECOND FORM's CARD OF 'versinetop.TopForkParts'. -/
def topForkPartsUptoCard : Claim7 := { stood := { row := topForkPartsUptoRow, standIns := [], harness := (true, "7725069c87a3c60244d813480915e9f2c01afbd6eb3ca940d2d464ad145dd728"), looks := false }, kinds := [], alts := [], laidByText := true, laidKinds := [.data, .data, .data], laidTests := true, laidLooks := .later }
def TopForkPartsUptoCardSaid : Prop := Claim7.holds Tryz.pinned (.plain (OpenSpec.upto topForkPartsSpec)) topForkPartsUptoCard
end Rows
end Go.Proofs.YtngjiljminopnaaGreatDoor
