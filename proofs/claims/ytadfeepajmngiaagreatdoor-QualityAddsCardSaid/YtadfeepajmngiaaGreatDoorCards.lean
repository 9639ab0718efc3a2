/-
  DERIVED. GIVEN WITH THE SEED: THE CARDS: each row of YtadfeepajmngiaaGreatDoorRows.lean that lists a variable, with what it lists TIED to the program's text (the seventh form; the later family's looks); each row that meets fmt, with fmt's text TOLD by the authors' own Lean function (tested against real Go, not proved from fmt's source: count such statements apart). THE CARD IS WHAT COUNTS. Prove the row's statement (the work); the ties are given (YtadfeepajmngiaaGreatDoorTie.lean); close each card by the builder's one call (the guide's Derived/Test/ToyasCard.lean, 'card_holds'). Laid BY PROGRAM, IN A SANDBOX (cutbox-door.mjs). By AI agents, Wed Nov 11 2026. No macro, syntax, notation, axiom, sorry.
-/
import Derived.Test.YtadfeepajmngiaaGreatDoorRows
import GoSem.ClaimSeven
namespace Go.Proofs.YtadfeepajmngiaaGreatDoor
namespace Rows

/-- THE TIED CARD OF 'versinelaw08.QualityParts'. -/
def qualityPartsCard : Claim7 := { stood := { row := qualityPartsRow, standIns := [], harness := (true, "5730cd0e60608425cf68c93c3a54a56f948b6efab695604b3a45a80cac6bc589"), looks := false }, kinds := [], alts := [], laidByText := true, laidKinds := [.data, .data, .data, .data], laidTests := true, laidLooks := .later }
def QualityPartsCardSaid : Prop := Claim7.holds Tryz.pinned (.plain (OpenSpec.ofChange qualityPartsSpec)) qualityPartsCard

/-- THE TIED CARD OF 'versinelaw08.QualityMoments'. -/
def qualityMomentsCard : Claim7 := { stood := { row := qualityMomentsRow, standIns := [], harness := (true, "5730cd0e60608425cf68c93c3a54a56f948b6efab695604b3a45a80cac6bc589"), looks := false }, kinds := [], alts := [], laidByText := true, laidKinds := [.data, .data, .data, .data], laidTests := true, laidLooks := .later }
def QualityMomentsCardSaid : Prop := Claim7.holds Tryz.pinned (.plain (OpenSpec.ofChange qualityMomentsSpec)) qualityMomentsCard

/-- THE TIED CARD OF 'versinelaw08.QualityWindows'. -/
def qualityWindowsCard : Claim7 := { stood := { row := qualityWindowsRow, standIns := [], harness := (true, "5730cd0e60608425cf68c93c3a54a56f948b6efab695604b3a45a80cac6bc589"), looks := false }, kinds := [], alts := [], laidByText := true, laidKinds := [.data, .data, .data, .data], laidTests := true, laidLooks := .later }
def QualityWindowsCardSaid : Prop := Claim7.holds Tryz.pinned (.plain (OpenSpec.ofChange qualityWindowsSpec)) qualityWindowsCard

/-- THE TIED CARD OF 'versinelaw08.QualitySpread'. -/
def qualitySpreadCard : Claim7 := { stood := { row := qualitySpreadRow, standIns := [], harness := (true, "5730cd0e60608425cf68c93c3a54a56f948b6efab695604b3a45a80cac6bc589"), looks := false }, kinds := [], alts := [], laidByText := true, laidKinds := [.data, .data, .data, .data], laidTests := true, laidLooks := .later }
def QualitySpreadCardSaid : Prop := Claim7.holds Tryz.pinned (.plain (OpenSpec.ofChange qualitySpreadSpec)) qualitySpreadCard

/-- THE TIED CARD OF 'versinelaw08.QualitySections'. -/
def qualitySectionsCard : Claim7 := { stood := { row := qualitySectionsRow, standIns := [], harness := (true, "5730cd0e60608425cf68c93c3a54a56f948b6efab695604b3a45a80cac6bc589"), looks := false }, kinds := [], alts := [], laidByText := true, laidKinds := [.data, .data, .data, .data], laidTests := true, laidLooks := .later }
def QualitySectionsCardSaid : Prop := Claim7.holds Tryz.pinned (.plain (OpenSpec.ofChange qualitySectionsSpec)) qualitySectionsCard

/-- THE TIED CARD OF 'versinelaw08.QualityAdds'. -/
def qualityAddsCard : Claim7 := { stood := { row := qualityAddsRow, standIns := [], harness := (true, "5730cd0e60608425cf68c93c3a54a56f948b6efab695604b3a45a80cac6bc589"), looks := false }, kinds := [], alts := [], laidByText := true, laidKinds := [.data, .data, .data, .data], laidTests := true, laidLooks := .later }
def QualityAddsCardSaid : Prop := Claim7.holds Tryz.pinned (.plain (OpenSpec.ofChange qualityAddsSpec)) qualityAddsCard

/-- THE SECOND FORM's CARD OF 'versinelaw08.QualityParts'. -/
def qualityPartsUptoCard : Claim7 := { stood := { row := qualityPartsUptoRow, standIns := [], harness := (true, "5730cd0e60608425cf68c93c3a54a56f948b6efab695604b3a45a80cac6bc589"), looks := false }, kinds := [], alts := [], laidByText := true, laidKinds := [.data, .data, .data, .data], laidTests := true, laidLooks := .later }
def QualityPartsUptoCardSaid : Prop := Claim7.holds Tryz.pinned (.plain (OpenSpec.upto qualityPartsSpec)) qualityPartsUptoCard

/-- THE SECOND FORM's CARD OF 'versinelaw08.QualityMoments'. -/
def qualityMomentsUptoCard : Claim7 := { stood := { row := qualityMomentsUptoRow, standIns := [], harness := (true, "5730cd0e60608425cf68c93c3a54a56f948b6efab695604b3a45a80cac6bc589"), looks := false }, kinds := [], alts := [], laidByText := true, laidKinds := [.data, .data, .data, .data], laidTests := true, laidLooks := .later }
def QualityMomentsUptoCardSaid : Prop := Claim7.holds Tryz.pinned (.plain (OpenSpec.upto qualityMomentsSpec)) qualityMomentsUptoCard

/-- THE SECOND FORM's CARD OF 'versinelaw08.QualityWindows'. -/
def qualityWindowsUptoCard : Claim7 := { stood := { row := qualityWindowsUptoRow, standIns := [], harness := (true, "5730cd0e60608425cf68c93c3a54a56f948b6efab695604b3a45a80cac6bc589"), looks := false }, kinds := [], alts := [], laidByText := true, laidKinds := [.data, .data, .data, .data], laidTests := true, laidLooks := .later }
def QualityWindowsUptoCardSaid : Prop := Claim7.holds Tryz.pinned (.plain (OpenSpec.upto qualityWindowsSpec)) qualityWindowsUptoCard

/-- THE SECOND FORM's CARD OF 'versinelaw08.QualitySpread'. -/
def qualitySpreadUptoCard : Claim7 := { stood := { row := qualitySpreadUptoRow, standIns := [], harness := (true, "5730cd0e60608425cf68c93c3a54a56f948b6efab695604b3a45a80cac6bc589"), looks := false }, kinds := [], alts := [], laidByText := true, laidKinds := [.data, .data, .data, .data], laidTests := true, laidLooks := .later }
def QualitySpreadUptoCardSaid : Prop := Claim7.holds Tryz.pinned (.plain (OpenSpec.upto qualitySpreadSpec)) qualitySpreadUptoCard

/-- THE SECOND FORM's CARD OF 'versinelaw08.QualitySections'. -/
def qualitySectionsUptoCard : Claim7 := { stood := { row := qualitySectionsUptoRow, standIns := [], harness := (true, "5730cd0e60608425cf68c93c3a54a56f948b6efab695604b3a45a80cac6bc589"), looks := false }, kinds := [], alts := [], laidByText := true, laidKinds := [.data, .data, .data, .data], laidTests := true, laidLooks := .later }
def QualitySectionsUptoCardSaid : Prop := Claim7.holds Tryz.pinned (.plain (OpenSpec.upto qualitySectionsSpec)) qualitySectionsUptoCard

/-- THE SECOND FORM's CARD OF 'versinelaw08.QualityAdds'. -/
def qualityAddsUptoCard : Claim7 := { stood := { row := qualityAddsUptoRow, standIns := [], harness := (true, "5730cd0e60608425cf68c93c3a54a56f948b6efab695604b3a45a80cac6bc589"), looks := false }, kinds := [], alts := [], laidByText := true, laidKinds := [.data, .data, .data, .data], laidTests := true, laidLooks := .later }
def QualityAddsUptoCardSaid : Prop := Claim7.holds Tryz.pinned (.plain (OpenSpec.upto qualityAddsSpec)) qualityAddsUptoCard
end Rows
end Go.Proofs.YtadfeepajmngiaaGreatDoor
