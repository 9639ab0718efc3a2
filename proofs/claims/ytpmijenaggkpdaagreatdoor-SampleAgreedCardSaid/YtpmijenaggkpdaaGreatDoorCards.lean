/-
  DERIVED. GIVEN WITH THE SEED: THE CARDS: each row of YtpmijenaggkpdaaGreatDoorRows.lean that lists a variable, with what it lists TIED to the program's text (the seventh form; the later family's looks); each row that meets fmt, with fmt's text TOLD by the authors' own Lean function (tested against real Go, not proved from fmt's source: count such statements apart). THE CARD IS WHAT COUNTS. Prove the row's statement (the work); the ties are given (YtpmijenaggkpdaaGreatDoorTie.lean); close each card by the builder's one call (the guide's Derived/Test/ToyasCard.lean, 'card_holds'). Laid BY PROGRAM, IN A SANDBOX (cutbox-door.mjs). By AI agents, Wed Nov 11 2026. No macro, syntax, notation, axiom, sorry.
-/
import Derived.Test.YtpmijenaggkpdaaGreatDoorRows
import GoSem.ClaimSeven
namespace Go.Proofs.YtpmijenaggkpdaaGreatDoor
namespace Rows

/-- THE TIED CARD OF 'versinelaw01.SampleBasics'. -/
def sampleBasicsCard : Claim7 := { stood := { row := sampleBasicsRow, standIns := [], harness := (true, "50851e2ae9382982fbede25196394cbda6fba18486b5a29bdaec206c348b8713"), looks := false }, kinds := [], alts := [], laidByText := true, laidKinds := [.data, .data, .data, .data], laidTests := true, laidLooks := .later }
def SampleBasicsCardSaid : Prop := Claim7.holds Tryz.pinned (.plain (OpenSpec.ofChange sampleBasicsSpec)) sampleBasicsCard

/-- THE TIED CARD OF 'versinelaw01.SampleRuns'. -/
def sampleRunsCard : Claim7 := { stood := { row := sampleRunsRow, standIns := [], harness := (true, "50851e2ae9382982fbede25196394cbda6fba18486b5a29bdaec206c348b8713"), looks := false }, kinds := [], alts := [], laidByText := true, laidKinds := [.data, .data, .data, .data], laidTests := true, laidLooks := .later }
def SampleRunsCardSaid : Prop := Claim7.holds Tryz.pinned (.plain (OpenSpec.ofChange sampleRunsSpec)) sampleRunsCard

/-- THE TIED CARD OF 'versinelaw01.SampleChanged'. -/
def sampleChangedCard : Claim7 := { stood := { row := sampleChangedRow, standIns := [], harness := (true, "50851e2ae9382982fbede25196394cbda6fba18486b5a29bdaec206c348b8713"), looks := false }, kinds := [], alts := [], laidByText := true, laidKinds := [.data, .data, .data, .data], laidTests := true, laidLooks := .later }
def SampleChangedCardSaid : Prop := Claim7.holds Tryz.pinned (.plain (OpenSpec.ofChange sampleChangedSpec)) sampleChangedCard

/-- THE TIED CARD OF 'versinelaw01.SampleTwo'. -/
def sampleTwoCard : Claim7 := { stood := { row := sampleTwoRow, standIns := [], harness := (true, "50851e2ae9382982fbede25196394cbda6fba18486b5a29bdaec206c348b8713"), looks := false }, kinds := [], alts := [], laidByText := true, laidKinds := [.data, .data, .data, .data], laidTests := true, laidLooks := .later }
def SampleTwoCardSaid : Prop := Claim7.holds Tryz.pinned (.plain (OpenSpec.ofChange sampleTwoSpec)) sampleTwoCard

/-- THE TIED CARD OF 'versinelaw01.SampleVotes'. -/
def sampleVotesCard : Claim7 := { stood := { row := sampleVotesRow, standIns := [], harness := (true, "50851e2ae9382982fbede25196394cbda6fba18486b5a29bdaec206c348b8713"), looks := false }, kinds := [], alts := [], laidByText := true, laidKinds := [.data, .data, .data, .data], laidTests := true, laidLooks := .later }
def SampleVotesCardSaid : Prop := Claim7.holds Tryz.pinned (.plain (OpenSpec.ofChange sampleVotesSpec)) sampleVotesCard

/-- THE TIED CARD OF 'versinelaw01.SampleTurned'. -/
def sampleTurnedCard : Claim7 := { stood := { row := sampleTurnedRow, standIns := [], harness := (true, "50851e2ae9382982fbede25196394cbda6fba18486b5a29bdaec206c348b8713"), looks := false }, kinds := [], alts := [], laidByText := true, laidKinds := [.data, .data, .data, .data], laidTests := true, laidLooks := .later }
def SampleTurnedCardSaid : Prop := Claim7.holds Tryz.pinned (.plain (OpenSpec.ofChange sampleTurnedSpec)) sampleTurnedCard

/-- THE TIED CARD OF 'versinelaw01.SampleParts'. -/
def samplePartsCard : Claim7 := { stood := { row := samplePartsRow, standIns := [], harness := (true, "50851e2ae9382982fbede25196394cbda6fba18486b5a29bdaec206c348b8713"), looks := false }, kinds := [], alts := [], laidByText := true, laidKinds := [.data, .data, .data, .data], laidTests := true, laidLooks := .later }
def SamplePartsCardSaid : Prop := Claim7.holds Tryz.pinned (.plain (OpenSpec.ofChange samplePartsSpec)) samplePartsCard

/-- THE TIED CARD OF 'versinelaw01.SampleAgreed'. -/
def sampleAgreedCard : Claim7 := { stood := { row := sampleAgreedRow, standIns := [], harness := (true, "50851e2ae9382982fbede25196394cbda6fba18486b5a29bdaec206c348b8713"), looks := false }, kinds := [], alts := [], laidByText := true, laidKinds := [.data, .data, .data, .data], laidTests := true, laidLooks := .later }
def SampleAgreedCardSaid : Prop := Claim7.holds Tryz.pinned (.plain (OpenSpec.ofChange sampleAgreedSpec)) sampleAgreedCard

/-- THE SECOND FORM's CARD OF 'versinelaw01.SampleBasics'. -/
def sampleBasicsUptoCard : Claim7 := { stood := { row := sampleBasicsUptoRow, standIns := [], harness := (true, "50851e2ae9382982fbede25196394cbda6fba18486b5a29bdaec206c348b8713"), looks := false }, kinds := [], alts := [], laidByText := true, laidKinds := [.data, .data, .data, .data], laidTests := true, laidLooks := .later }
def SampleBasicsUptoCardSaid : Prop := Claim7.holds Tryz.pinned (.plain (OpenSpec.upto sampleBasicsSpec)) sampleBasicsUptoCard

/-- THE SECOND FORM's CARD OF 'versinelaw01.SampleRuns'. -/
def sampleRunsUptoCard : Claim7 := { stood := { row := sampleRunsUptoRow, standIns := [], harness := (true, "50851e2ae9382982fbede25196394cbda6fba18486b5a29bdaec206c348b8713"), looks := false }, kinds := [], alts := [], laidByText := true, laidKinds := [.data, .data, .data, .data], laidTests := true, laidLooks := .later }
def SampleRunsUptoCardSaid : Prop := Claim7.holds Tryz.pinned (.plain (OpenSpec.upto sampleRunsSpec)) sampleRunsUptoCard

/-- THE SECOND FORM's CARD OF 'versinelaw01.SampleChanged'. -/
def sampleChangedUptoCard : Claim7 := { stood := { row := sampleChangedUptoRow, standIns := [], harness := (true, "50851e2ae9382982fbede25196394cbda6fba18486b5a29bdaec206c348b8713"), looks := false }, kinds := [], alts := [], laidByText := true, laidKinds := [.data, .data, .data, .data], laidTests := true, laidLooks := .later }
def SampleChangedUptoCardSaid : Prop := Claim7.holds Tryz.pinned (.plain (OpenSpec.upto sampleChangedSpec)) sampleChangedUptoCard

/-- THE SECOND FORM's CARD OF 'versinelaw01.SampleTwo'. -/
def sampleTwoUptoCard : Claim7 := { stood := { row := sampleTwoUptoRow, standIns := [], harness := (true, "50851e2ae9382982fbede25196394cbda6fba18486b5a29bdaec206c348b8713"), looks := false }, kinds := [], alts := [], laidByText := true, laidKinds := [.data, .data, .data, .data], laidTests := true, laidLooks := .later }
def SampleTwoUptoCardSaid : Prop := Claim7.holds Tryz.pinned (.plain (OpenSpec.upto sampleTwoSpec)) sampleTwoUptoCard

/-- THE SECOND FORM's CARD OF 'versinelaw01.SampleVotes'. -/
def sampleVotesUptoCard : Claim7 := { stood := { row := sampleVotesUptoRow, standIns := [], harness := (true, "50851e2ae9382982fbede25196394cbda6fba18486b5a29bdaec206c348b8713"), looks := false }, kinds := [], alts := [], laidByText := true, laidKinds := [.data, .data, .data, .data], laidTests := true, laidLooks := .later }
def SampleVotesUptoCardSaid : Prop := Claim7.holds Tryz.pinned (.plain (OpenSpec.upto sampleVotesSpec)) sampleVotesUptoCard

/-- THE SECOND FORM's CARD OF 'versinelaw01.SampleTurned'. -/
def sampleTurnedUptoCard : Claim7 := { stood := { row := sampleTurnedUptoRow, standIns := [], harness := (true, "50851e2ae9382982fbede25196394cbda6fba18486b5a29bdaec206c348b8713"), looks := false }, kinds := [], alts := [], laidByText := true, laidKinds := [.data, .data, .data, .data], laidTests := true, laidLooks := .later }
def SampleTurnedUptoCardSaid : Prop := Claim7.holds Tryz.pinned (.plain (OpenSpec.upto sampleTurnedSpec)) sampleTurnedUptoCard

/-- THE SECOND FORM's CARD OF 'versinelaw01.SampleParts'. -/
def samplePartsUptoCard : Claim7 := { stood := { row := samplePartsUptoRow, standIns := [], harness := (true, "50851e2ae9382982fbede25196394cbda6fba18486b5a29bdaec206c348b8713"), looks := false }, kinds := [], alts := [], laidByText := true, laidKinds := [.data, .data, .data, .data], laidTests := true, laidLooks := .later }
def SamplePartsUptoCardSaid : Prop := Claim7.holds Tryz.pinned (.plain (OpenSpec.upto samplePartsSpec)) samplePartsUptoCard

/-- THE SECOND FORM's CARD OF 'versinelaw01.SampleAgreed'. -/
def sampleAgreedUptoCard : Claim7 := { stood := { row := sampleAgreedUptoRow, standIns := [], harness := (true, "50851e2ae9382982fbede25196394cbda6fba18486b5a29bdaec206c348b8713"), looks := false }, kinds := [], alts := [], laidByText := true, laidKinds := [.data, .data, .data, .data], laidTests := true, laidLooks := .later }
def SampleAgreedUptoCardSaid : Prop := Claim7.holds Tryz.pinned (.plain (OpenSpec.upto sampleAgreedSpec)) sampleAgreedUptoCard
end Rows
end Go.Proofs.YtpmijenaggkpdaaGreatDoor
