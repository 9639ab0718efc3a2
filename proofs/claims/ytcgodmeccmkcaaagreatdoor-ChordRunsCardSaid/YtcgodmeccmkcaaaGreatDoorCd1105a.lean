/- A part of the proof. -/
import Derived.Test.YtcgodmeccmkcaaaGreatDoorPa4
import Derived.JoinedCond
import Derived.JoinedOf
import Derived.KernelRfl
set_option linter.all false
namespace Go.Proofs.YtcgodmeccmkcaaaGreatDoor.chordRuns
open Go
theorem zB:(Rows.chordRunsRow.inPlace == Tryz.prog.inPlace 8) = true:=by kernel_rfl
theorem zC:(Rows.chordRunsRow.unfollowed == Tryz.prog.unfollowed 8) = true:=by kernel_rfl
theorem zD:(Rows.chordRunsRow.recurses == Tryz.prog.recurses 8) = true:=by kernel_rfl
theorem zE:(Rows.chordRunsRow.named == Tryz.prog.varsNamed 8) = true:=by kernel_rfl
end Go.Proofs.YtcgodmeccmkcaaaGreatDoor.chordRuns
