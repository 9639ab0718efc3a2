/- A part of the proof. -/
import Derived.Test.YtcgodmeccmkcaaaGreatDoorPa4
import Derived.JoinedCond
import Derived.JoinedOf
import Derived.KernelRfl
set_option linter.all false
namespace Go.Proofs.YtcgodmeccmkcaaaGreatDoor.chordRestored
open Go
theorem zB:(Rows.chordRestoredRow.inPlace == Tryz.prog.inPlace 6) = true:=by kernel_rfl
theorem zC:(Rows.chordRestoredRow.unfollowed == Tryz.prog.unfollowed 6) = true:=by kernel_rfl
theorem zD:(Rows.chordRestoredRow.recurses == Tryz.prog.recurses 6) = true:=by kernel_rfl
theorem zE:(Rows.chordRestoredRow.named == Tryz.prog.varsNamed 6) = true:=by kernel_rfl
end Go.Proofs.YtcgodmeccmkcaaaGreatDoor.chordRestored
