/-
  DERIVED. GIVEN WITH THE SEED: THE CARDS: each row of YtejopkplhplpgaaGreatDoorRows.lean that lists a variable, with what it lists TIED to the program's text (the seventh form; the later family's looks); each row that meets fmt, with fmt's text TOLD by the authors' own Lean function (tested against real Go, not proved from fmt's source: count such statements apart). THE CARD IS WHAT COUNTS. Prove the row's statement (the work); the ties are given (YtejopkplhplpgaaGreatDoorTie.lean); close each card by the builder's one call (the guide's Derived/Test/ToyasCard.lean, 'card_holds'). Laid BY PROGRAM, IN A SANDBOX (cutbox-door.mjs). By AI agents, Wed Nov 11 2026. No macro, syntax, notation, axiom, sorry.
-/
import Derived.Test.YtejopkplhplpgaaGreatDoorRows
import GoSem.ClaimSeven
namespace Go.Proofs.YtejopkplhplpgaaGreatDoor
namespace Rows

/-- THE TIED CARD OF 'versinelaw08.QualityLines'. -/
def qualityLinesCard : Claim7 := { stood := { row := qualityLinesRow, standIns := [], harness := (true, "f35438608de9ea1fd119444f4802344472c914490d44da50ff8ccabb0937b1e9"), looks := false }, kinds := [], alts := [], laidByText := true, laidKinds := [.data, .data, .data, .data], laidTests := true, laidLooks := .later }
def QualityLinesCardSaid : Prop := Claim7.holds Tryz.pinned (.plain (OpenSpec.ofChange qualityLinesSpec)) qualityLinesCard

/-- THE TIED CARD OF 'versinelaw08.QualityLeft'. -/
def qualityLeftCard : Claim7 := { stood := { row := qualityLeftRow, standIns := [], harness := (true, "f35438608de9ea1fd119444f4802344472c914490d44da50ff8ccabb0937b1e9"), looks := false }, kinds := [], alts := [], laidByText := true, laidKinds := [.data, .data, .data, .data], laidTests := true, laidLooks := .later }
def QualityLeftCardSaid : Prop := Claim7.holds Tryz.pinned (.plain (OpenSpec.ofChange qualityLeftSpec)) qualityLeftCard

/-- THE TIED CARD OF 'versinelaw08.QualityFits'. -/
def qualityFitsCard : Claim7 := { stood := { row := qualityFitsRow, standIns := [], harness := (true, "f35438608de9ea1fd119444f4802344472c914490d44da50ff8ccabb0937b1e9"), looks := false }, kinds := [], alts := [], laidByText := true, laidKinds := [.data, .data, .data, .data], laidTests := true, laidLooks := .later }
def QualityFitsCardSaid : Prop := Claim7.holds Tryz.pinned (.plain (OpenSpec.ofChange qualityFitsSpec)) qualityFitsCard

/-- THE TIED CARD OF 'versinelaw08.QualityRanges'. -/
def qualityRangesCard : Claim7 := { stood := { row := qualityRangesRow, standIns := [], harness := (true, "f35438608de9ea1fd119444f4802344472c914490d44da50ff8ccabb0937b1e9"), looks := false }, kinds := [], alts := [], laidByText := true, laidKinds := [.data, .data, .data, .data], laidTests := true, laidLooks := .later }
def QualityRangesCardSaid : Prop := Claim7.holds Tryz.pinned (.plain (OpenSpec.ofChange qualityRangesSpec)) qualityRangesCard

/-- THE TIED CARD OF 'versinelaw08.QualityExact'. -/
def qualityExactCard : Claim7 := { stood := { row := qualityExactRow, standIns := [], harness := (true, "f35438608de9ea1fd119444f4802344472c914490d44da50ff8ccabb0937b1e9"), looks := false }, kinds := [], alts := [], laidByText := true, laidKinds := [.data, .data, .data, .data], laidTests := true, laidLooks := .later }
def QualityExactCardSaid : Prop := Claim7.holds Tryz.pinned (.plain (OpenSpec.ofChange qualityExactSpec)) qualityExactCard

/-- THE TIED CARD OF 'versinelaw08.QualityRanks'. -/
def qualityRanksCard : Claim7 := { stood := { row := qualityRanksRow, standIns := [], harness := (true, "f35438608de9ea1fd119444f4802344472c914490d44da50ff8ccabb0937b1e9"), looks := false }, kinds := [], alts := [], laidByText := true, laidKinds := [.data, .data, .data, .data], laidTests := true, laidLooks := .later }
def QualityRanksCardSaid : Prop := Claim7.holds Tryz.pinned (.plain (OpenSpec.ofChange qualityRanksSpec)) qualityRanksCard

/-- THE SECOND FORM's CARD OF 'versinelaw08.QualityLines'. -/
def qualityLinesUptoCard : Claim7 := { stood := { row := qualityLinesUptoRow, standIns := [], harness := (true, "f35438608de9ea1fd119444f4802344472c914490d44da50ff8ccabb0937b1e9"), looks := false }, kinds := [], alts := [], laidByText := true, laidKinds := [.data, .data, .data, .data], laidTests := true, laidLooks := .later }
def QualityLinesUptoCardSaid : Prop := Claim7.holds Tryz.pinned (.plain (OpenSpec.upto qualityLinesSpec)) qualityLinesUptoCard

/-- THE SECOND FORM's CARD OF 'versinelaw08.QualityLeft'. -/
def qualityLeftUptoCard : Claim7 := { stood := { row := qualityLeftUptoRow, standIns := [], harness := (true, "f35438608de9ea1fd119444f4802344472c914490d44da50ff8ccabb0937b1e9"), looks := false }, kinds := [], alts := [], laidByText := true, laidKinds := [.data, .data, .data, .data], laidTests := true, laidLooks := .later }
def QualityLeftUptoCardSaid : Prop := Claim7.holds Tryz.pinned (.plain (OpenSpec.upto qualityLeftSpec)) qualityLeftUptoCard

/-- THE SECOND FORM's CARD OF 'versinelaw08.QualityFits'. -/
def qualityFitsUptoCard : Claim7 := { stood := { row := qualityFitsUptoRow, standIns := [], harness := (true, "f35438608de9ea1fd119444f4802344472c914490d44da50ff8ccabb0937b1e9"), looks := false }, kinds := [], alts := [], laidByText := true, laidKinds := [.data, .data, .data, .data], laidTests := true, laidLooks := .later }
def QualityFitsUptoCardSaid : Prop := Claim7.holds Tryz.pinned (.plain (OpenSpec.upto qualityFitsSpec)) qualityFitsUptoCard

/-- THE SECOND FORM's CARD OF 'versinelaw08.QualityRanges'. -/
def qualityRangesUptoCard : Claim7 := { stood := { row := qualityRangesUptoRow, standIns := [], harness := (true, "f35438608de9ea1fd119444f4802344472c914490d44da50ff8ccabb0937b1e9"), looks := false }, kinds := [], alts := [], laidByText := true, laidKinds := [.data, .data, .data, .data], laidTests := true, laidLooks := .later }
def QualityRangesUptoCardSaid : Prop := Claim7.holds Tryz.pinned (.plain (OpenSpec.upto qualityRangesSpec)) qualityRangesUptoCard

/-- THE SECOND FORM's CARD OF 'versinelaw08.QualityExact'. -/
def qualityExactUptoCard : Claim7 := { stood := { row := qualityExactUptoRow, standIns := [], harness := (true, "f35438608de9ea1fd119444f4802344472c914490d44da50ff8ccabb0937b1e9"), looks := false }, kinds := [], alts := [], laidByText := true, laidKinds := [.data, .data, .data, .data], laidTests := true, laidLooks := .later }
def QualityExactUptoCardSaid : Prop := Claim7.holds Tryz.pinned (.plain (OpenSpec.upto qualityExactSpec)) qualityExactUptoCard

/-- THE SECOND FORM's CARD OF 'versinelaw08.QualityRanks'. -/
def qualityRanksUptoCard : Claim7 := { stood := { row := qualityRanksUptoRow, standIns := [], harness := (true, "f35438608de9ea1fd119444f4802344472c914490d44da50ff8ccabb0937b1e9"), looks := false }, kinds := [], alts := [], laidByText := true, laidKinds := [.data, .data, .data, .data], laidTests := true, laidLooks := .later }
def QualityRanksUptoCardSaid : Prop := Claim7.holds Tryz.pinned (.plain (OpenSpec.upto qualityRanksSpec)) qualityRanksUptoCard
end Rows
end Go.Proofs.YtejopkplhplpgaaGreatDoor
