/- A part of the proof. -/
import Derived.Test.YtngjiljminopnaaGreatDoorPa4
import Derived.JoinedCond
import Derived.JoinedOf
import Derived.KernelRfl
set_option linter.all false
namespace Go.Proofs.YtngjiljminopnaaGreatDoor.chordAgain
open Go
theorem zB:(Rows.chordAgainRow.inPlace == Tryz.prog.inPlace 5) = true:=by kernel_rfl
theorem zC:(Rows.chordAgainRow.unfollowed == Tryz.prog.unfollowed 5) = true:=by kernel_rfl
theorem zD:(Rows.chordAgainRow.recurses == Tryz.prog.recurses 5) = true:=by kernel_rfl
theorem zE:(Rows.chordAgainRow.named == Tryz.prog.varsNamed 5) = true:=by kernel_rfl
end Go.Proofs.YtngjiljminopnaaGreatDoor.chordAgain
