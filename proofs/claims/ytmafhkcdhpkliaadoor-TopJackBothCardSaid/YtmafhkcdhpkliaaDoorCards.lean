/-
  DERIVED. GIVEN WITH THE SEED: THE CARDS: each row of YtmafhkcdhpkliaaDoorRows.lean that lists a variable, with what it lists TIED to the program's text (the seventh form; the later family's looks); each row that meets fmt, with fmt's text TOLD by the authors' own Lean function (tested against real Go, not proved from fmt's source: count such statements apart). THE CARD IS WHAT COUNTS. Prove the row's statement (the work); the ties are given (YtmafhkcdhpkliaaDoorTie.lean); close each card by the builder's one call (the guide's Derived/Test/ToyasCard.lean, 'card_holds'). Laid BY PROGRAM, IN A SANDBOX (cutbox-door.mjs). By AI agents, Wed Nov 11 2026. No macro, syntax, notation, axiom, sorry.
-/
import Derived.Test.YtmafhkcdhpkliaaDoorRows
import GoSem.ClaimSeven
namespace Go.Proofs.YtmafhkcdhpkliaaDoor
namespace Rows

/-- THE TIED CARD OF 'versinetop.TopJackBoth'. -/
def topJackBothCard : Claim7 := { stood := { row := topJackBothRow, standIns := [], harness := (true, "7e650ae9d44221320d9fc8a9194b0ba505828a3c31664e722c0f7ce16a68ad46"), looks := false }, kinds := [], alts := [], laidByText := true, laidKinds := [.data], laidTests := true, laidLooks := .later }
def TopJackBothCardSaid : Prop := Claim7.holds Tryd.pinned (.plain (OpenSpec.ofChange topJackBothSpec)) topJackBothCard

/-- THE SECOND FORM's CARD OF 'versinetop.TopJackBoth'. -/
def topJackBothUptoCard : Claim7 := { stood := { row := topJackBothUptoRow, standIns := [], harness := (true, "7e650ae9d44221320d9fc8a9194b0ba505828a3c31664e722c0f7ce16a68ad46"), looks := false }, kinds := [], alts := [], laidByText := true, laidKinds := [.data], laidTests := true, laidLooks := .later }
def TopJackBothUptoCardSaid : Prop := Claim7.holds Tryd.pinned (.plain (OpenSpec.upto topJackBothSpec)) topJackBothUptoCard
end Rows
end Go.Proofs.YtmafhkcdhpkliaaDoor
