/-
  DERIVED. GIVEN WITH THE SEED: THE CARDS: each row of YtcfbkkhgmedbfaaGreatDoorRows.lean that lists a variable, with what it lists TIED to the program's text (the seventh form; the later family's looks); each row that meets fmt, with fmt's text TOLD by the authors' own Lean function (tested against real Go, not proved from fmt's source: count such statements apart). THE CARD IS WHAT COUNTS. Prove the row's statement (the work); the ties are given (YtcfbkkhgmedbfaaGreatDoorTie.lean); close each card by the builder's one call (the guide's Derived/Test/ToyasCard.lean, 'card_holds'). Laid BY PROGRAM, IN A SANDBOX (cutbox-door.mjs). By AI agents, Wed Nov 11 2026. No macro, syntax, notation, axiom, sorry.
-/
import Derived.Test.YtcfbkkhgmedbfaaGreatDoorRows
import GoSem.ClaimSeven
namespace Go.Proofs.YtcfbkkhgmedbfaaGreatDoor
namespace Rows

/-- THE TIED CARD OF 'versinelaw03.ChordWaves'. -/
def chordWavesCard : Claim7 := { stood := { row := chordWavesRow, standIns := [], harness := (true, "1380d6cc521836717fc576a5bba4e09a7018d9cc39112ebd4f9d3eea93a73afd"), looks := false }, kinds := [], alts := [], laidByText := true, laidKinds := [.data, .data, .data, .data, .data], laidTests := true, laidLooks := .later }
def ChordWavesCardSaid : Prop := Claim7.holds Tryz.pinned (.plain (OpenSpec.ofChange chordWavesSpec)) chordWavesCard

/-- THE TIED CARD OF 'versinelaw03.ChordBlind'. -/
def chordBlindCard : Claim7 := { stood := { row := chordBlindRow, standIns := [], harness := (true, "1380d6cc521836717fc576a5bba4e09a7018d9cc39112ebd4f9d3eea93a73afd"), looks := false }, kinds := [], alts := [], laidByText := true, laidKinds := [.data, .data, .data, .data, .data], laidTests := true, laidLooks := .later }
def ChordBlindCardSaid : Prop := Claim7.holds Tryz.pinned (.plain (OpenSpec.ofChange chordBlindSpec)) chordBlindCard

/-- THE TIED CARD OF 'versinetop.TopForkParts'. -/
def topForkPartsCard : Claim7 := { stood := { row := topForkPartsRow, standIns := [], harness := (true, "1380d6cc521836717fc576a5bba4e09a7018d9cc39112ebd4f9d3eea93a73afd"), looks := false }, kinds := [], alts := [], laidByText := true, laidKinds := [.data, .data, .data], laidTests := true, laidLooks := .later }
def TopForkPartsCardSaid : Prop := Claim7.holds Tryz.pinned (.plain (OpenSpec.ofChange topForkPartsSpec)) topForkPartsCard

/-- THE SECOND FORM's CARD OF 'versinelaw03.ChordWaves'. -/
def chordWavesUptoCard : Claim7 := { stood := { row := chordWavesUptoRow, standIns := [], harness := (true, "1380d6cc521836717fc576a5bba4e09a7018d9cc39112ebd4f9d3eea93a73afd"), looks := false }, kinds := [], alts := [], laidByText := true, laidKinds := [.data, .data, .data, .data, .data], laidTests := true, laidLooks := .later }
def ChordWavesUptoCardSaid : Prop := Claim7.holds Tryz.pinned (.plain (OpenSpec.upto chordWavesSpec)) chordWavesUptoCard

/-- THE SECOND FORM's CARD OF 'versinelaw03.ChordBlind'. -/
def chordBlindUptoCard : Claim7 := { stood := { row := chordBlindUptoRow, standIns := [], harness := (true, "1380d6cc521836717fc576a5bba4e09a7018d9cc39112ebd4f9d3eea93a73afd"), looks := false }, kinds := [], alts := [], laidByText := true, laidKinds := [.data, .data, .data, .data, .data], laidTests := true, laidLooks := .later }
def ChordBlindUptoCardSaid : Prop := Claim7.holds Tryz.pinned (.plain (OpenSpec.upto chordBlindSpec)) chordBlindUptoCard

/-- THE SECOND FORM's CARD OF 'versinetop.TopForkParts'. -/
def topForkPartsUptoCard : Claim7 := { stood := { row := topForkPartsUptoRow, standIns := [], harness := (true, "1380d6cc521836717fc576a5bba4e09a7018d9cc39112ebd4f9d3eea93a73afd"), looks := false }, kinds := [], alts := [], laidByText := true, laidKinds := [.data, .data, .data], laidTests := true, laidLooks := .later }
def TopForkPartsUptoCardSaid : Prop := Claim7.holds Tryz.pinned (.plain (OpenSpec.upto topForkPartsSpec)) topForkPartsUptoCard
end Rows
end Go.Proofs.YtcfbkkhgmedbfaaGreatDoor
