/- A part of the proof. -/
import Derived.Test.YtngjiljminopnaaGreatDoorPa4
import Derived.JoinedCond
import Derived.JoinedOf
import Derived.KernelRfl
set_option linter.all false
namespace Go.Proofs.YtngjiljminopnaaGreatDoor.chordPanels
open Go
theorem zB:(Rows.chordPanelsRow.inPlace == Tryz.prog.inPlace 4)=true:=by kernel_rfl
theorem zC:(Rows.chordPanelsRow.unfollowed == Tryz.prog.unfollowed 4)=true:=by kernel_rfl
theorem zD:(Rows.chordPanelsRow.recurses == Tryz.prog.recurses 4)=true:=by kernel_rfl
theorem zE:(Rows.chordPanelsRow.named == Tryz.prog.varsNamed 4)=true:=by kernel_rfl
end Go.Proofs.YtngjiljminopnaaGreatDoor.chordPanels
