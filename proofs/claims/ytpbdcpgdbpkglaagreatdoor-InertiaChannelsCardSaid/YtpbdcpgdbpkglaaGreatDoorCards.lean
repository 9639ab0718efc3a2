/-
  DERIVED. GIVEN WITH THE SEED: THE CARDS: each row of YtpbdcpgdbpkglaaGreatDoorRows.lean that lists a variable, with what it lists TIED to the program's text (the seventh form; the later family's looks); each row that meets fmt, with fmt's text TOLD by the authors' own Lean function (tested against real Go, not proved from fmt's source: count such statements apart). THE CARD IS WHAT COUNTS. Prove the row's statement (the work); the ties are given (YtpbdcpgdbpkglaaGreatDoorTie.lean); close each card by the builder's one call (the guide's Derived/Test/ToyasCard.lean, 'card_holds'). Laid BY PROGRAM, IN A SANDBOX (cutbox-door.mjs). By AI agents, Wed Nov 11 2026. No macro, syntax, notation, axiom, sorry.
-/
import Derived.Test.YtpbdcpgdbpkglaaGreatDoorRows
import GoSem.ClaimSeven
namespace Go.Proofs.YtpbdcpgdbpkglaaGreatDoor
namespace Rows

/-- THE TIED CARD OF 'versinelaw04.InertiaChannels'. -/
def inertiaChannelsCard : Claim7 := { stood := { row := inertiaChannelsRow, standIns := [], harness := (true, "50d4ac6b0d308fb0c8d6f15c22137d0899330fe68f915279a5ced49d42499c32"), looks := false }, kinds := [], alts := [], laidByText := true, laidKinds := [.data, .data, .data, .data, .data, .data], laidTests := true, laidLooks := .later }
def InertiaChannelsCardSaid : Prop := Claim7.holds Tryz.pinned (.plain (OpenSpec.ofChange inertiaChannelsSpec)) inertiaChannelsCard

/-- THE TIED CARD OF 'versinelaw04.InertiaVotes'. -/
def inertiaVotesCard : Claim7 := { stood := { row := inertiaVotesRow, standIns := [], harness := (true, "50d4ac6b0d308fb0c8d6f15c22137d0899330fe68f915279a5ced49d42499c32"), looks := false }, kinds := [], alts := [], laidByText := true, laidKinds := [.data, .data, .data, .data, .data, .data], laidTests := true, laidLooks := .later }
def InertiaVotesCardSaid : Prop := Claim7.holds Tryz.pinned (.plain (OpenSpec.ofChange inertiaVotesSpec)) inertiaVotesCard

/-- THE TIED CARD OF 'versinelaw04.InertiaSteps'. -/
def inertiaStepsCard : Claim7 := { stood := { row := inertiaStepsRow, standIns := [], harness := (true, "50d4ac6b0d308fb0c8d6f15c22137d0899330fe68f915279a5ced49d42499c32"), looks := false }, kinds := [], alts := [], laidByText := true, laidKinds := [.data, .data, .data, .data, .data, .data], laidTests := true, laidLooks := .later }
def InertiaStepsCardSaid : Prop := Claim7.holds Tryz.pinned (.plain (OpenSpec.ofChange inertiaStepsSpec)) inertiaStepsCard

/-- THE TIED CARD OF 'versinelaw04.InertiaBends'. -/
def inertiaBendsCard : Claim7 := { stood := { row := inertiaBendsRow, standIns := [], harness := (true, "50d4ac6b0d308fb0c8d6f15c22137d0899330fe68f915279a5ced49d42499c32"), looks := false }, kinds := [], alts := [], laidByText := true, laidKinds := [.data, .data, .data, .data, .data, .data], laidTests := true, laidLooks := .later }
def InertiaBendsCardSaid : Prop := Claim7.holds Tryz.pinned (.plain (OpenSpec.ofChange inertiaBendsSpec)) inertiaBendsCard

/-- THE TIED CARD OF 'versinelaw04.InertiaTrends'. -/
def inertiaTrendsCard : Claim7 := { stood := { row := inertiaTrendsRow, standIns := [], harness := (true, "50d4ac6b0d308fb0c8d6f15c22137d0899330fe68f915279a5ced49d42499c32"), looks := false }, kinds := [], alts := [], laidByText := true, laidKinds := [.data, .data, .data, .data, .data, .data], laidTests := true, laidLooks := .later }
def InertiaTrendsCardSaid : Prop := Claim7.holds Tryz.pinned (.plain (OpenSpec.ofChange inertiaTrendsSpec)) inertiaTrendsCard

/-- THE TIED CARD OF 'versinelaw04.InertiaSpeeds'. -/
def inertiaSpeedsCard : Claim7 := { stood := { row := inertiaSpeedsRow, standIns := [], harness := (true, "50d4ac6b0d308fb0c8d6f15c22137d0899330fe68f915279a5ced49d42499c32"), looks := false }, kinds := [], alts := [], laidByText := true, laidKinds := [.data, .data, .data, .data, .data, .data], laidTests := true, laidLooks := .later }
def InertiaSpeedsCardSaid : Prop := Claim7.holds Tryz.pinned (.plain (OpenSpec.ofChange inertiaSpeedsSpec)) inertiaSpeedsCard

/-- THE TIED CARD OF 'versinelaw04.InertiaRails'. -/
def inertiaRailsCard : Claim7 := { stood := { row := inertiaRailsRow, standIns := [], harness := (true, "50d4ac6b0d308fb0c8d6f15c22137d0899330fe68f915279a5ced49d42499c32"), looks := false }, kinds := [], alts := [], laidByText := true, laidKinds := [.data, .data, .data, .data, .data, .data], laidTests := true, laidLooks := .later }
def InertiaRailsCardSaid : Prop := Claim7.holds Tryz.pinned (.plain (OpenSpec.ofChange inertiaRailsSpec)) inertiaRailsCard

/-- THE TIED CARD OF 'versinelaw04.InertiaBack'. -/
def inertiaBackCard : Claim7 := { stood := { row := inertiaBackRow, standIns := [], harness := (true, "50d4ac6b0d308fb0c8d6f15c22137d0899330fe68f915279a5ced49d42499c32"), looks := false }, kinds := [], alts := [], laidByText := true, laidKinds := [.data, .data, .data, .data, .data, .data], laidTests := true, laidLooks := .later }
def InertiaBackCardSaid : Prop := Claim7.holds Tryz.pinned (.plain (OpenSpec.ofChange inertiaBackSpec)) inertiaBackCard

/-- THE TIED CARD OF 'versinelaw04.InertiaOffsets'. -/
def inertiaOffsetsCard : Claim7 := { stood := { row := inertiaOffsetsRow, standIns := [], harness := (true, "50d4ac6b0d308fb0c8d6f15c22137d0899330fe68f915279a5ced49d42499c32"), looks := false }, kinds := [], alts := [], laidByText := true, laidKinds := [.data, .data, .data, .data, .data, .data], laidTests := true, laidLooks := .later }
def InertiaOffsetsCardSaid : Prop := Claim7.holds Tryz.pinned (.plain (OpenSpec.ofChange inertiaOffsetsSpec)) inertiaOffsetsCard

/-- THE TIED CARD OF 'versinelaw04.InertiaAgreed'. -/
def inertiaAgreedCard : Claim7 := { stood := { row := inertiaAgreedRow, standIns := [], harness := (true, "50d4ac6b0d308fb0c8d6f15c22137d0899330fe68f915279a5ced49d42499c32"), looks := false }, kinds := [], alts := [], laidByText := true, laidKinds := [.data, .data, .data, .data, .data, .data], laidTests := true, laidLooks := .later }
def InertiaAgreedCardSaid : Prop := Claim7.holds Tryz.pinned (.plain (OpenSpec.ofChange inertiaAgreedSpec)) inertiaAgreedCard

/-- THE TIED CARD OF 'versinelaw04.InertiaTwists'. -/
def inertiaTwistsCard : Claim7 := { stood := { row := inertiaTwistsRow, standIns := [], harness := (true, "50d4ac6b0d308fb0c8d6f15c22137d0899330fe68f915279a5ced49d42499c32"), looks := false }, kinds := [], alts := [], laidByText := true, laidKinds := [.data, .data, .data, .data, .data, .data], laidTests := true, laidLooks := .later }
def InertiaTwistsCardSaid : Prop := Claim7.holds Tryz.pinned (.plain (OpenSpec.ofChange inertiaTwistsSpec)) inertiaTwistsCard

/-- THE TIED CARD OF 'versinelaw04.InertiaWaves'. -/
def inertiaWavesCard : Claim7 := { stood := { row := inertiaWavesRow, standIns := [], harness := (true, "50d4ac6b0d308fb0c8d6f15c22137d0899330fe68f915279a5ced49d42499c32"), looks := false }, kinds := [], alts := [], laidByText := true, laidKinds := [.data, .data, .data, .data, .data, .data], laidTests := true, laidLooks := .later }
def InertiaWavesCardSaid : Prop := Claim7.holds Tryz.pinned (.plain (OpenSpec.ofChange inertiaWavesSpec)) inertiaWavesCard

/-- THE SECOND FORM's CARD OF 'versinelaw04.InertiaChannels'. -/
def inertiaChannelsUptoCard : Claim7 := { stood := { row := inertiaChannelsUptoRow, standIns := [], harness := (true, "50d4ac6b0d308fb0c8d6f15c22137d0899330fe68f915279a5ced49d42499c32"), looks := false }, kinds := [], alts := [], laidByText := true, laidKinds := [.data, .data, .data, .data, .data, .data], laidTests := true, laidLooks := .later }
def InertiaChannelsUptoCardSaid : Prop := Claim7.holds Tryz.pinned (.plain (OpenSpec.upto inertiaChannelsSpec)) inertiaChannelsUptoCard

/-- THE SECOND FORM's CARD OF 'versinelaw04.InertiaVotes'. -/
def inertiaVotesUptoCard : Claim7 := { stood := { row := inertiaVotesUptoRow, standIns := [], harness := (true, "50d4ac6b0d308fb0c8d6f15c22137d0899330fe68f915279a5ced49d42499c32"), looks := false }, kinds := [], alts := [], laidByText := true, laidKinds := [.data, .data, .data, .data, .data, .data], laidTests := true, laidLooks := .later }
def InertiaVotesUptoCardSaid : Prop := Claim7.holds Tryz.pinned (.plain (OpenSpec.upto inertiaVotesSpec)) inertiaVotesUptoCard

/-- THE SECOND FORM's CARD OF 'versinelaw04.InertiaSteps'. -/
def inertiaStepsUptoCard : Claim7 := { stood := { row := inertiaStepsUptoRow, standIns := [], harness := (true, "50d4ac6b0d308fb0c8d6f15c22137d0899330fe68f915279a5ced49d42499c32"), looks := false }, kinds := [], alts := [], laidByText := true, laidKinds := [.data, .data, .data, .data, .data, .data], laidTests := true, laidLooks := .later }
def InertiaStepsUptoCardSaid : Prop := Claim7.holds Tryz.pinned (.plain (OpenSpec.upto inertiaStepsSpec)) inertiaStepsUptoCard

/-- THE SECOND FORM's CARD OF 'versinelaw04.InertiaBends'. -/
def inertiaBendsUptoCard : Claim7 := { stood := { row := inertiaBendsUptoRow, standIns := [], harness := (true, "50d4ac6b0d308fb0c8d6f15c22137d0899330fe68f915279a5ced49d42499c32"), looks := false }, kinds := [], alts := [], laidByText := true, laidKinds := [.data, .data, .data, .data, .data, .data], laidTests := true, laidLooks := .later }
def InertiaBendsUptoCardSaid : Prop := Claim7.holds Tryz.pinned (.plain (OpenSpec.upto inertiaBendsSpec)) inertiaBendsUptoCard

/-- THE SECOND FORM's CARD OF 'versinelaw04.InertiaTrends'. -/
def inertiaTrendsUptoCard : Claim7 := { stood := { row := inertiaTrendsUptoRow, standIns := [], harness := (true, "50d4ac6b0d308fb0c8d6f15c22137d0899330fe68f915279a5ced49d42499c32"), looks := false }, kinds := [], alts := [], laidByText := true, laidKinds := [.data, .data, .data, .data, .data, .data], laidTests := true, laidLooks := .later }
def InertiaTrendsUptoCardSaid : Prop := Claim7.holds Tryz.pinned (.plain (OpenSpec.upto inertiaTrendsSpec)) inertiaTrendsUptoCard

/-- THE SECOND FORM's CARD OF 'versinelaw04.InertiaSpeeds'. -/
def inertiaSpeedsUptoCard : Claim7 := { stood := { row := inertiaSpeedsUptoRow, standIns := [], harness := (true, "50d4ac6b0d308fb0c8d6f15c22137d0899330fe68f915279a5ced49d42499c32"), looks := false }, kinds := [], alts := [], laidByText := true, laidKinds := [.data, .data, .data, .data, .data, .data], laidTests := true, laidLooks := .later }
def InertiaSpeedsUptoCardSaid : Prop := Claim7.holds Tryz.pinned (.plain (OpenSpec.upto inertiaSpeedsSpec)) inertiaSpeedsUptoCard

/-- THE SECOND FORM's CARD OF 'versinelaw04.InertiaRails'. -/
def inertiaRailsUptoCard : Claim7 := { stood := { row := inertiaRailsUptoRow, standIns := [], harness := (true, "50d4ac6b0d308fb0c8d6f15c22137d0899330fe68f915279a5ced49d42499c32"), looks := false }, kinds := [], alts := [], laidByText := true, laidKinds := [.data, .data, .data, .data, .data, .data], laidTests := true, laidLooks := .later }
def InertiaRailsUptoCardSaid : Prop := Claim7.holds Tryz.pinned (.plain (OpenSpec.upto inertiaRailsSpec)) inertiaRailsUptoCard

/-- THE SECOND FORM's CARD OF 'versinelaw04.InertiaBack'. -/
def inertiaBackUptoCard : Claim7 := { stood := { row := inertiaBackUptoRow, standIns := [], harness := (true, "50d4ac6b0d308fb0c8d6f15c22137d0899330fe68f915279a5ced49d42499c32"), looks := false }, kinds := [], alts := [], laidByText := true, laidKinds := [.data, .data, .data, .data, .data, .data], laidTests := true, laidLooks := .later }
def InertiaBackUptoCardSaid : Prop := Claim7.holds Tryz.pinned (.plain (OpenSpec.upto inertiaBackSpec)) inertiaBackUptoCard

/-- THE SECOND FORM's CARD OF 'versinelaw04.InertiaOffsets'. -/
def inertiaOffsetsUptoCard : Claim7 := { stood := { row := inertiaOffsetsUptoRow, standIns := [], harness := (true, "50d4ac6b0d308fb0c8d6f15c22137d0899330fe68f915279a5ced49d42499c32"), looks := false }, kinds := [], alts := [], laidByText := true, laidKinds := [.data, .data, .data, .data, .data, .data], laidTests := true, laidLooks := .later }
def InertiaOffsetsUptoCardSaid : Prop := Claim7.holds Tryz.pinned (.plain (OpenSpec.upto inertiaOffsetsSpec)) inertiaOffsetsUptoCard

/-- THE SECOND FORM's CARD OF 'versinelaw04.InertiaAgreed'. -/
def inertiaAgreedUptoCard : Claim7 := { stood := { row := inertiaAgreedUptoRow, standIns := [], harness := (true, "50d4ac6b0d308fb0c8d6f15c22137d0899330fe68f915279a5ced49d42499c32"), looks := false }, kinds := [], alts := [], laidByText := true, laidKinds := [.data, .data, .data, .data, .data, .data], laidTests := true, laidLooks := .later }
def InertiaAgreedUptoCardSaid : Prop := Claim7.holds Tryz.pinned (.plain (OpenSpec.upto inertiaAgreedSpec)) inertiaAgreedUptoCard

/-- THE SECOND FORM's CARD OF 'versinelaw04.InertiaTwists'. -/
def inertiaTwistsUptoCard : Claim7 := { stood := { row := inertiaTwistsUptoRow, standIns := [], harness := (true, "50d4ac6b0d308fb0c8d6f15c22137d0899330fe68f915279a5ced49d42499c32"), looks := false }, kinds := [], alts := [], laidByText := true, laidKinds := [.data, .data, .data, .data, .data, .data], laidTests := true, laidLooks := .later }
def InertiaTwistsUptoCardSaid : Prop := Claim7.holds Tryz.pinned (.plain (OpenSpec.upto inertiaTwistsSpec)) inertiaTwistsUptoCard

/-- THE SECOND FORM's CARD OF 'versinelaw04.InertiaWaves'. -/
def inertiaWavesUptoCard : Claim7 := { stood := { row := inertiaWavesUptoRow, standIns := [], harness := (true, "50d4ac6b0d308fb0c8d6f15c22137d0899330fe68f915279a5ced49d42499c32"), looks := false }, kinds := [], alts := [], laidByText := true, laidKinds := [.data, .data, .data, .data, .data, .data], laidTests := true, laidLooks := .later }
def InertiaWavesUptoCardSaid : Prop := Claim7.holds Tryz.pinned (.plain (OpenSpec.upto inertiaWavesSpec)) inertiaWavesUptoCard
end Rows
end Go.Proofs.YtpbdcpgdbpkglaaGreatDoor
