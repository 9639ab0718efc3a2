/- A part of the proof. -/
import Derived.Test.YtcgodmeccmkcaaaGreatDoorPa4
import Derived.JoinedCond
import Derived.JoinedOf
import Derived.KernelRfl
set_option linter.all false
namespace Go.Proofs.YtcgodmeccmkcaaaGreatDoor.chordVersines
open Go
theorem zB:(Rows.chordVersinesRow.inPlace == Tryz.prog.inPlace 4) = true:=by kernel_rfl
theorem zC:(Rows.chordVersinesRow.unfollowed == Tryz.prog.unfollowed 4) = true:=by kernel_rfl
theorem zD:(Rows.chordVersinesRow.recurses == Tryz.prog.recurses 4) = true:=by kernel_rfl
theorem zE:(Rows.chordVersinesRow.named == Tryz.prog.varsNamed 4) = true:=by kernel_rfl
end Go.Proofs.YtcgodmeccmkcaaaGreatDoor.chordVersines
