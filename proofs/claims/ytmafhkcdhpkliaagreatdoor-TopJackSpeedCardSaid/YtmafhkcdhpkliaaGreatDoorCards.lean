/-
  DERIVED. GIVEN WITH THE SEED: THE CARDS: each row of YtmafhkcdhpkliaaGreatDoorRows.lean that lists a variable, with what it lists TIED to the program's text (the seventh form; the later family's looks); each row that meets fmt, with fmt's text TOLD by the authors' own Lean function (tested against real Go, not proved from fmt's source: count such statements apart). THE CARD IS WHAT COUNTS. Prove the row's statement (the work); the ties are given (YtmafhkcdhpkliaaGreatDoorTie.lean); close each card by the builder's one call (the guide's Derived/Test/ToyasCard.lean, 'card_holds'). Laid BY PROGRAM, IN A SANDBOX (cutbox-door.mjs). By AI agents, Wed Nov 11 2026. No macro, syntax, notation, axiom, sorry.
-/
import Derived.Test.YtmafhkcdhpkliaaGreatDoorRows
import GoSem.ClaimSeven
namespace Go.Proofs.YtmafhkcdhpkliaaGreatDoor
namespace Rows

/-- THE TIED CARD OF 'versinelaw04.InertiaVotes'. -/
def inertiaVotesCard : Claim7 := { stood := { row := inertiaVotesRow, standIns := [], harness := (true, "33a37cfa2f93837a44dabbd3fcf47557396fb03e5605562505765cc369efd857"), looks := true }, kinds := [], alts := [], laidByText := true, laidKinds := [.data, .data, .data, .data, .data, .data], laidTests := true, laidLooks := .later }
def InertiaVotesCardSaid : Prop := Claim7.holds Tryz.pinned (.plain (OpenSpec.ofChange inertiaVotesSpec)) inertiaVotesCard

/-- THE TIED CARD OF 'versinelaw04.InertiaSteps'. -/
def inertiaStepsCard : Claim7 := { stood := { row := inertiaStepsRow, standIns := [], harness := (true, "33a37cfa2f93837a44dabbd3fcf47557396fb03e5605562505765cc369efd857"), looks := true }, kinds := [], alts := [], laidByText := true, laidKinds := [.data, .data, .data, .data, .data, .data], laidTests := true, laidLooks := .later }
def InertiaStepsCardSaid : Prop := Claim7.holds Tryz.pinned (.plain (OpenSpec.ofChange inertiaStepsSpec)) inertiaStepsCard

/-- THE TIED CARD OF 'versinelaw04.InertiaTrends'. -/
def inertiaTrendsCard : Claim7 := { stood := { row := inertiaTrendsRow, standIns := [], harness := (true, "33a37cfa2f93837a44dabbd3fcf47557396fb03e5605562505765cc369efd857"), looks := true }, kinds := [], alts := [], laidByText := true, laidKinds := [.data, .data, .data, .data, .data, .data], laidTests := true, laidLooks := .later }
def InertiaTrendsCardSaid : Prop := Claim7.holds Tryz.pinned (.plain (OpenSpec.ofChange inertiaTrendsSpec)) inertiaTrendsCard

/-- THE TIED CARD OF 'versinelaw04.InertiaPanels'. -/
def inertiaPanelsCard : Claim7 := { stood := { row := inertiaPanelsRow, standIns := [], harness := (true, "33a37cfa2f93837a44dabbd3fcf47557396fb03e5605562505765cc369efd857"), looks := true }, kinds := [], alts := [], laidByText := true, laidKinds := [.data, .data, .data, .data, .data, .data], laidTests := true, laidLooks := .later }
def InertiaPanelsCardSaid : Prop := Claim7.holds Tryz.pinned (.plain (OpenSpec.ofChange inertiaPanelsSpec)) inertiaPanelsCard

/-- THE TIED CARD OF 'versinelaw04.InertiaTexts'. -/
def inertiaTextsCard : Claim7 := { stood := { row := inertiaTextsRow, standIns := [], harness := (true, "33a37cfa2f93837a44dabbd3fcf47557396fb03e5605562505765cc369efd857"), looks := true }, kinds := [], alts := [], laidByText := true, laidKinds := [.data, .data, .data, .sentinel, .sentinel, .data, .data, .data], laidTests := true, laidLooks := .later }
def InertiaTextsCardSaid : Prop := Claim7.holds Tryz.pinned (.plain (OpenSpec.ofChange inertiaTextsSpec)) inertiaTextsCard

/-- THE TIED CARD OF 'versinelaw04.InertiaAgreed'. -/
def inertiaAgreedCard : Claim7 := { stood := { row := inertiaAgreedRow, standIns := [], harness := (true, "33a37cfa2f93837a44dabbd3fcf47557396fb03e5605562505765cc369efd857"), looks := true }, kinds := [], alts := [], laidByText := true, laidKinds := [.data, .data, .data, .data, .data, .data], laidTests := true, laidLooks := .later }
def InertiaAgreedCardSaid : Prop := Claim7.holds Tryz.pinned (.plain (OpenSpec.ofChange inertiaAgreedSpec)) inertiaAgreedCard

/-- THE TIED CARD OF 'versinelaw04.InertiaTwists'. -/
def inertiaTwistsCard : Claim7 := { stood := { row := inertiaTwistsRow, standIns := [], harness := (true, "33a37cfa2f93837a44dabbd3fcf47557396fb03e5605562505765cc369efd857"), looks := true }, kinds := [], alts := [], laidByText := true, laidKinds := [.data, .data, .data, .data, .data, .data], laidTests := true, laidLooks := .later }
def InertiaTwistsCardSaid : Prop := Claim7.holds Tryz.pinned (.plain (OpenSpec.ofChange inertiaTwistsSpec)) inertiaTwistsCard

/-- THE TIED CARD OF 'versinelaw04.InertiaWaves'. -/
def inertiaWavesCard : Claim7 := { stood := { row := inertiaWavesRow, standIns := [], harness := (true, "33a37cfa2f93837a44dabbd3fcf47557396fb03e5605562505765cc369efd857"), looks := true }, kinds := [], alts := [], laidByText := true, laidKinds := [.data, .data, .data, .data, .data, .data], laidTests := true, laidLooks := .later }
def InertiaWavesCardSaid : Prop := Claim7.holds Tryz.pinned (.plain (OpenSpec.ofChange inertiaWavesSpec)) inertiaWavesCard

/-- THE TIED CARD OF 'versinelaw04.InertiaPrinted'. -/
def inertiaPrintedCard : Claim7 := { stood := { row := inertiaPrintedRow, standIns := [], harness := (true, "33a37cfa2f93837a44dabbd3fcf47557396fb03e5605562505765cc369efd857"), looks := true }, kinds := [], alts := [], laidByText := true, laidKinds := [.data, .data, .data, .sentinel, .sentinel, .data, .data, .data], laidTests := true, laidLooks := .later }
def InertiaPrintedCardSaid : Prop := Claim7.holds Tryz.pinned (.plain (OpenSpec.ofChange inertiaPrintedSpec)) inertiaPrintedCard

/-- THE TIED CARD OF 'versinetop.TopJackSpeed'. -/
def topJackSpeedCard : Claim7 := { stood := { row := topJackSpeedRow, standIns := [], harness := (true, "33a37cfa2f93837a44dabbd3fcf47557396fb03e5605562505765cc369efd857"), looks := true }, kinds := [], alts := [], laidByText := true, laidKinds := [.data], laidTests := true, laidLooks := .later }
def TopJackSpeedCardSaid : Prop := Claim7.holds Tryz.pinned (.plain (OpenSpec.ofChange topJackSpeedSpec)) topJackSpeedCard

/-- THE SECOND FORM's CARD OF 'versinelaw04.InertiaVotes'. -/
def inertiaVotesUptoCard : Claim7 := { stood := { row := inertiaVotesUptoRow, standIns := [], harness := (true, "33a37cfa2f93837a44dabbd3fcf47557396fb03e5605562505765cc369efd857"), looks := true }, kinds := [], alts := [], laidByText := true, laidKinds := [.data, .data, .data, .data, .data, .data], laidTests := true, laidLooks := .later }
def InertiaVotesUptoCardSaid : Prop := Claim7.holds Tryz.pinned (.plain (OpenSpec.upto inertiaVotesSpec)) inertiaVotesUptoCard

/-- THE SECOND FORM's CARD OF 'versinelaw04.InertiaSteps'. -/
def inertiaStepsUptoCard : Claim7 := { stood := { row := inertiaStepsUptoRow, standIns := [], harness := (true, "33a37cfa2f93837a44dabbd3fcf47557396fb03e5605562505765cc369efd857"), looks := true }, kinds := [], alts := [], laidByText := true, laidKinds := [.data, .data, .data, .data, .data, .data], laidTests := true, laidLooks := .later }
def InertiaStepsUptoCardSaid : Prop := Claim7.holds Tryz.pinned (.plain (OpenSpec.upto inertiaStepsSpec)) inertiaStepsUptoCard

/-- THE SECOND FORM's CARD OF 'versinelaw04.InertiaTrends'. -/
def inertiaTrendsUptoCard : Claim7 := { stood := { row := inertiaTrendsUptoRow, standIns := [], harness := (true, "33a37cfa2f93837a44dabbd3fcf47557396fb03e5605562505765cc369efd857"), looks := true }, kinds := [], alts := [], laidByText := true, laidKinds := [.data, .data, .data, .data, .data, .data], laidTests := true, laidLooks := .later }
def InertiaTrendsUptoCardSaid : Prop := Claim7.holds Tryz.pinned (.plain (OpenSpec.upto inertiaTrendsSpec)) inertiaTrendsUptoCard

/-- THE SECOND FORM's CARD OF 'versinelaw04.InertiaPanels'. -/
def inertiaPanelsUptoCard : Claim7 := { stood := { row := inertiaPanelsUptoRow, standIns := [], harness := (true, "33a37cfa2f93837a44dabbd3fcf47557396fb03e5605562505765cc369efd857"), looks := true }, kinds := [], alts := [], laidByText := true, laidKinds := [.data, .data, .data, .data, .data, .data], laidTests := true, laidLooks := .later }
def InertiaPanelsUptoCardSaid : Prop := Claim7.holds Tryz.pinned (.plain (OpenSpec.upto inertiaPanelsSpec)) inertiaPanelsUptoCard

/-- THE SECOND FORM's CARD OF 'versinelaw04.InertiaTexts'. -/
def inertiaTextsUptoCard : Claim7 := { stood := { row := inertiaTextsUptoRow, standIns := [], harness := (true, "33a37cfa2f93837a44dabbd3fcf47557396fb03e5605562505765cc369efd857"), looks := true }, kinds := [], alts := [], laidByText := true, laidKinds := [.data, .data, .data, .sentinel, .sentinel, .data, .data, .data], laidTests := true, laidLooks := .later }
def InertiaTextsUptoCardSaid : Prop := Claim7.holds Tryz.pinned (.plain (OpenSpec.upto inertiaTextsSpec)) inertiaTextsUptoCard

/-- THE SECOND FORM's CARD OF 'versinelaw04.InertiaAgreed'. -/
def inertiaAgreedUptoCard : Claim7 := { stood := { row := inertiaAgreedUptoRow, standIns := [], harness := (true, "33a37cfa2f93837a44dabbd3fcf47557396fb03e5605562505765cc369efd857"), looks := true }, kinds := [], alts := [], laidByText := true, laidKinds := [.data, .data, .data, .data, .data, .data], laidTests := true, laidLooks := .later }
def InertiaAgreedUptoCardSaid : Prop := Claim7.holds Tryz.pinned (.plain (OpenSpec.upto inertiaAgreedSpec)) inertiaAgreedUptoCard

/-- THE SECOND FORM's CARD OF 'versinelaw04.InertiaTwists'. -/
def inertiaTwistsUptoCard : Claim7 := { stood := { row := inertiaTwistsUptoRow, standIns := [], harness := (true, "33a37cfa2f93837a44dabbd3fcf47557396fb03e5605562505765cc369efd857"), looks := true }, kinds := [], alts := [], laidByText := true, laidKinds := [.data, .data, .data, .data, .data, .data], laidTests := true, laidLooks := .later }
def InertiaTwistsUptoCardSaid : Prop := Claim7.holds Tryz.pinned (.plain (OpenSpec.upto inertiaTwistsSpec)) inertiaTwistsUptoCard

/-- THE SECOND FORM's CARD OF 'versinelaw04.InertiaWaves'. -/
def inertiaWavesUptoCard : Claim7 := { stood := { row := inertiaWavesUptoRow, standIns := [], harness := (true, "33a37cfa2f93837a44dabbd3fcf47557396fb03e5605562505765cc369efd857"), looks := true }, kinds := [], alts := [], laidByText := true, laidKinds := [.data, .data, .data, .data, .data, .data], laidTests := true, laidLooks := .later }
def InertiaWavesUptoCardSaid : Prop := Claim7.holds Tryz.pinned (.plain (OpenSpec.upto inertiaWavesSpec)) inertiaWavesUptoCard

/-- THE SECOND FORM's CARD OF 'versinelaw04.InertiaPrinted'. -/
def inertiaPrintedUptoCard : Claim7 := { stood := { row := inertiaPrintedUptoRow, standIns := [], harness := (true, "33a37cfa2f93837a44dabbd3fcf47557396fb03e5605562505765cc369efd857"), looks := true }, kinds := [], alts := [], laidByText := true, laidKinds := [.data, .data, .data, .sentinel, .sentinel, .data, .data, .data], laidTests := true, laidLooks := .later }
def InertiaPrintedUptoCardSaid : Prop := Claim7.holds Tryz.pinned (.plain (OpenSpec.upto inertiaPrintedSpec)) inertiaPrintedUptoCard

/-- THE SECOND FORM's CARD OF 'versinetop.TopJackSpeed'. -/
def topJackSpeedUptoCard : Claim7 := { stood := { row := topJackSpeedUptoRow, standIns := [], harness := (true, "33a37cfa2f93837a44dabbd3fcf47557396fb03e5605562505765cc369efd857"), looks := true }, kinds := [], alts := [], laidByText := true, laidKinds := [.data], laidTests := true, laidLooks := .later }
def TopJackSpeedUptoCardSaid : Prop := Claim7.holds Tryz.pinned (.plain (OpenSpec.upto topJackSpeedSpec)) topJackSpeedUptoCard
end Rows
end Go.Proofs.YtmafhkcdhpkliaaGreatDoor
