/-
  DERIVED. GIVEN WITH THE SEED: THE CARDS: each row of YtjibbhaeaikhpaaGreatDoorRows.lean that lists a variable, with what it lists TIED to the program's text (the seventh form; the later family's looks); each row that meets fmt, with fmt's text TOLD by the authors' own Lean function (tested against real Go, not proved from fmt's source: count such statements apart). THE CARD IS WHAT COUNTS. Prove the row's statement (the work); the ties are given (YtjibbhaeaikhpaaGreatDoorTie.lean); close each card by the builder's one call (the guide's Derived/Test/ToyasCard.lean, 'card_holds'). Laid BY PROGRAM, IN A SANDBOX (cutbox-door.mjs). By AI agents, Wed Nov 11 2026. No macro, syntax, notation, axiom, sorry.
-/
import Derived.Test.YtjibbhaeaikhpaaGreatDoorRows
import GoSem.ClaimSeven
namespace Go.Proofs.YtjibbhaeaikhpaaGreatDoor
namespace Rows

/-- THE TIED CARD OF 'versinelaw01.SampleBasics'. -/
def sampleBasicsCard : Claim7 := { stood := { row := sampleBasicsRow, standIns := [], harness := (true, "2cef4fc0b19a6d47cf36cda5fda268c59dd2ed6e8871c92e6cd6d157826f7fcd"), looks := true }, kinds := [], alts := [], laidByText := true, laidKinds := [.data, .data, .data, .data], laidTests := true, laidLooks := .later }
def SampleBasicsCardSaid : Prop := Claim7.holds Tryz.pinned (.plain (OpenSpec.ofChange sampleBasicsSpec)) sampleBasicsCard

/-- THE TIED CARD OF 'versinelaw01.SampleRuns'. -/
def sampleRunsCard : Claim7 := { stood := { row := sampleRunsRow, standIns := [], harness := (true, "2cef4fc0b19a6d47cf36cda5fda268c59dd2ed6e8871c92e6cd6d157826f7fcd"), looks := true }, kinds := [], alts := [], laidByText := true, laidKinds := [.data, .data, .data, .data], laidTests := true, laidLooks := .later }
def SampleRunsCardSaid : Prop := Claim7.holds Tryz.pinned (.plain (OpenSpec.ofChange sampleRunsSpec)) sampleRunsCard

/-- THE TIED CARD OF 'versinelaw01.SampleChanged'. -/
def sampleChangedCard : Claim7 := { stood := { row := sampleChangedRow, standIns := [], harness := (true, "2cef4fc0b19a6d47cf36cda5fda268c59dd2ed6e8871c92e6cd6d157826f7fcd"), looks := true }, kinds := [], alts := [], laidByText := true, laidKinds := [.data, .data, .data, .data], laidTests := true, laidLooks := .later }
def SampleChangedCardSaid : Prop := Claim7.holds Tryz.pinned (.plain (OpenSpec.ofChange sampleChangedSpec)) sampleChangedCard

/-- THE TIED CARD OF 'versinelaw01.SampleTwo'. -/
def sampleTwoCard : Claim7 := { stood := { row := sampleTwoRow, standIns := [], harness := (true, "2cef4fc0b19a6d47cf36cda5fda268c59dd2ed6e8871c92e6cd6d157826f7fcd"), looks := true }, kinds := [], alts := [], laidByText := true, laidKinds := [.data, .data, .data, .data], laidTests := true, laidLooks := .later }
def SampleTwoCardSaid : Prop := Claim7.holds Tryz.pinned (.plain (OpenSpec.ofChange sampleTwoSpec)) sampleTwoCard

/-- THE TIED CARD OF 'versinelaw01.SamplePackets'. -/
def samplePacketsCard : Claim7 := { stood := { row := samplePacketsRow, standIns := [], harness := (true, "2cef4fc0b19a6d47cf36cda5fda268c59dd2ed6e8871c92e6cd6d157826f7fcd"), looks := true }, kinds := [], alts := [], laidByText := true, laidKinds := [.data, .data, .data, .data], laidTests := true, laidLooks := .later }
def SamplePacketsCardSaid : Prop := Claim7.holds Tryz.pinned (.plain (OpenSpec.ofChange samplePacketsSpec)) samplePacketsCard

/-- THE TIED CARD OF 'versinelaw01.SampleReceived'. -/
def sampleReceivedCard : Claim7 := { stood := { row := sampleReceivedRow, standIns := [], harness := (true, "2cef4fc0b19a6d47cf36cda5fda268c59dd2ed6e8871c92e6cd6d157826f7fcd"), looks := true }, kinds := [], alts := [], laidByText := true, laidKinds := [.data, .data, .data, .data], laidTests := true, laidLooks := .later }
def SampleReceivedCardSaid : Prop := Claim7.holds Tryz.pinned (.plain (OpenSpec.ofChange sampleReceivedSpec)) sampleReceivedCard

/-- THE TIED CARD OF 'versinelaw01.SampleStreams'. -/
def sampleStreamsCard : Claim7 := { stood := { row := sampleStreamsRow, standIns := [], harness := (true, "2cef4fc0b19a6d47cf36cda5fda268c59dd2ed6e8871c92e6cd6d157826f7fcd"), looks := true }, kinds := [], alts := [], laidByText := true, laidKinds := [.data, .data, .data, .data], laidTests := true, laidLooks := .later }
def SampleStreamsCardSaid : Prop := Claim7.holds Tryz.pinned (.plain (OpenSpec.ofChange sampleStreamsSpec)) sampleStreamsCard

/-- THE TIED CARD OF 'versinelaw01.SampleTexts'. -/
def sampleTextsCard : Claim7 := { stood := { row := sampleTextsRow, standIns := [], harness := (true, "2cef4fc0b19a6d47cf36cda5fda268c59dd2ed6e8871c92e6cd6d157826f7fcd"), looks := true }, kinds := [], alts := [], laidByText := true, laidKinds := [.data, .data, .data, .sentinel, .sentinel, .data], laidTests := true, laidLooks := .later }
def SampleTextsCardSaid : Prop := Claim7.holds Tryz.pinned (.plain (OpenSpec.ofChange sampleTextsSpec)) sampleTextsCard

/-- THE TIED CARD OF 'versinelaw01.SampleFound'. -/
def sampleFoundCard : Claim7 := { stood := { row := sampleFoundRow, standIns := [], harness := (true, "2cef4fc0b19a6d47cf36cda5fda268c59dd2ed6e8871c92e6cd6d157826f7fcd"), looks := true }, kinds := [], alts := [], laidByText := true, laidKinds := [.data, .data, .data, .data], laidTests := true, laidLooks := .later }
def SampleFoundCardSaid : Prop := Claim7.holds Tryz.pinned (.plain (OpenSpec.ofChange sampleFoundSpec)) sampleFoundCard

/-- THE TIED CARD OF 'versinelaw01.SampleBack'. -/
def sampleBackCard : Claim7 := { stood := { row := sampleBackRow, standIns := [], harness := (true, "2cef4fc0b19a6d47cf36cda5fda268c59dd2ed6e8871c92e6cd6d157826f7fcd"), looks := true }, kinds := [], alts := [], laidByText := true, laidKinds := [.data, .data, .data, .sentinel, .sentinel, .data], laidTests := true, laidLooks := .later }
def SampleBackCardSaid : Prop := Claim7.holds Tryz.pinned (.plain (OpenSpec.ofChange sampleBackSpec)) sampleBackCard

/-- THE SECOND FORM's CARD OF 'versinelaw01.SampleBasics'. -/
def sampleBasicsUptoCard : Claim7 := { stood := { row := sampleBasicsUptoRow, standIns := [], harness := (true, "2cef4fc0b19a6d47cf36cda5fda268c59dd2ed6e8871c92e6cd6d157826f7fcd"), looks := true }, kinds := [], alts := [], laidByText := true, laidKinds := [.data, .data, .data, .data], laidTests := true, laidLooks := .later }
def SampleBasicsUptoCardSaid : Prop := Claim7.holds Tryz.pinned (.plain (OpenSpec.upto sampleBasicsSpec)) sampleBasicsUptoCard

/-- THE SECOND FORM's CARD OF 'versinelaw01.SampleRuns'. -/
def sampleRunsUptoCard : Claim7 := { stood := { row := sampleRunsUptoRow, standIns := [], harness := (true, "2cef4fc0b19a6d47cf36cda5fda268c59dd2ed6e8871c92e6cd6d157826f7fcd"), looks := true }, kinds := [], alts := [], laidByText := true, laidKinds := [.data, .data, .data, .data], laidTests := true, laidLooks := .later }
def SampleRunsUptoCardSaid : Prop := Claim7.holds Tryz.pinned (.plain (OpenSpec.upto sampleRunsSpec)) sampleRunsUptoCard

/-- THE SECOND FORM's CARD OF 'versinelaw01.SampleChanged'. -/
def sampleChangedUptoCard : Claim7 := { stood := { row := sampleChangedUptoRow, standIns := [], harness := (true, "2cef4fc0b19a6d47cf36cda5fda268c59dd2ed6e8871c92e6cd6d157826f7fcd"), looks := true }, kinds := [], alts := [], laidByText := true, laidKinds := [.data, .data, .data, .data], laidTests := true, laidLooks := .later }
def SampleChangedUptoCardSaid : Prop := Claim7.holds Tryz.pinned (.plain (OpenSpec.upto sampleChangedSpec)) sampleChangedUptoCard

/-- THE SECOND FORM's CARD OF 'versinelaw01.SampleTwo'. -/
def sampleTwoUptoCard : Claim7 := { stood := { row := sampleTwoUptoRow, standIns := [], harness := (true, "2cef4fc0b19a6d47cf36cda5fda268c59dd2ed6e8871c92e6cd6d157826f7fcd"), looks := true }, kinds := [], alts := [], laidByText := true, laidKinds := [.data, .data, .data, .data], laidTests := true, laidLooks := .later }
def SampleTwoUptoCardSaid : Prop := Claim7.holds Tryz.pinned (.plain (OpenSpec.upto sampleTwoSpec)) sampleTwoUptoCard

/-- THE SECOND FORM's CARD OF 'versinelaw01.SamplePackets'. -/
def samplePacketsUptoCard : Claim7 := { stood := { row := samplePacketsUptoRow, standIns := [], harness := (true, "2cef4fc0b19a6d47cf36cda5fda268c59dd2ed6e8871c92e6cd6d157826f7fcd"), looks := true }, kinds := [], alts := [], laidByText := true, laidKinds := [.data, .data, .data, .data], laidTests := true, laidLooks := .later }
def SamplePacketsUptoCardSaid : Prop := Claim7.holds Tryz.pinned (.plain (OpenSpec.upto samplePacketsSpec)) samplePacketsUptoCard

/-- THE SECOND FORM's CARD OF 'versinelaw01.SampleReceived'. -/
def sampleReceivedUptoCard : Claim7 := { stood := { row := sampleReceivedUptoRow, standIns := [], harness := (true, "2cef4fc0b19a6d47cf36cda5fda268c59dd2ed6e8871c92e6cd6d157826f7fcd"), looks := true }, kinds := [], alts := [], laidByText := true, laidKinds := [.data, .data, .data, .data], laidTests := true, laidLooks := .later }
def SampleReceivedUptoCardSaid : Prop := Claim7.holds Tryz.pinned (.plain (OpenSpec.upto sampleReceivedSpec)) sampleReceivedUptoCard

/-- THE SECOND FORM's CARD OF 'versinelaw01.SampleStreams'. -/
def sampleStreamsUptoCard : Claim7 := { stood := { row := sampleStreamsUptoRow, standIns := [], harness := (true, "2cef4fc0b19a6d47cf36cda5fda268c59dd2ed6e8871c92e6cd6d157826f7fcd"), looks := true }, kinds := [], alts := [], laidByText := true, laidKinds := [.data, .data, .data, .data], laidTests := true, laidLooks := .later }
def SampleStreamsUptoCardSaid : Prop := Claim7.holds Tryz.pinned (.plain (OpenSpec.upto sampleStreamsSpec)) sampleStreamsUptoCard

/-- THE SECOND FORM's CARD OF 'versinelaw01.SampleTexts'. -/
def sampleTextsUptoCard : Claim7 := { stood := { row := sampleTextsUptoRow, standIns := [], harness := (true, "2cef4fc0b19a6d47cf36cda5fda268c59dd2ed6e8871c92e6cd6d157826f7fcd"), looks := true }, kinds := [], alts := [], laidByText := true, laidKinds := [.data, .data, .data, .sentinel, .sentinel, .data], laidTests := true, laidLooks := .later }
def SampleTextsUptoCardSaid : Prop := Claim7.holds Tryz.pinned (.plain (OpenSpec.upto sampleTextsSpec)) sampleTextsUptoCard

/-- THE SECOND FORM's CARD OF 'versinelaw01.SampleFound'. -/
def sampleFoundUptoCard : Claim7 := { stood := { row := sampleFoundUptoRow, standIns := [], harness := (true, "2cef4fc0b19a6d47cf36cda5fda268c59dd2ed6e8871c92e6cd6d157826f7fcd"), looks := true }, kinds := [], alts := [], laidByText := true, laidKinds := [.data, .data, .data, .data], laidTests := true, laidLooks := .later }
def SampleFoundUptoCardSaid : Prop := Claim7.holds Tryz.pinned (.plain (OpenSpec.upto sampleFoundSpec)) sampleFoundUptoCard

/-- THE SECOND FORM's CARD OF 'versinelaw01.SampleBack'. -/
def sampleBackUptoCard : Claim7 := { stood := { row := sampleBackUptoRow, standIns := [], harness := (true, "2cef4fc0b19a6d47cf36cda5fda268c59dd2ed6e8871c92e6cd6d157826f7fcd"), looks := true }, kinds := [], alts := [], laidByText := true, laidKinds := [.data, .data, .data, .sentinel, .sentinel, .data], laidTests := true, laidLooks := .later }
def SampleBackUptoCardSaid : Prop := Claim7.holds Tryz.pinned (.plain (OpenSpec.upto sampleBackSpec)) sampleBackUptoCard
end Rows
end Go.Proofs.YtjibbhaeaikhpaaGreatDoor
