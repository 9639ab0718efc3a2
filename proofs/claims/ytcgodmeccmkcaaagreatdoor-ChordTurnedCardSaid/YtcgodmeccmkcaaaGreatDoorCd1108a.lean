/- A part of the proof. -/
import Derived.Test.YtcgodmeccmkcaaaGreatDoorPa4
import Derived.JoinedCond
import Derived.JoinedOf
import Derived.KernelRfl
set_option linter.all false
namespace Go.Proofs.YtcgodmeccmkcaaaGreatDoor.chordTurned
open Go
theorem zB:(Rows.chordTurnedRow.inPlace == Tryz.prog.inPlace 10) = true:=by kernel_rfl
theorem zC:(Rows.chordTurnedRow.unfollowed == Tryz.prog.unfollowed 10) = true:=by kernel_rfl
theorem zD:(Rows.chordTurnedRow.recurses == Tryz.prog.recurses 10) = true:=by kernel_rfl
theorem zE:(Rows.chordTurnedRow.named == Tryz.prog.varsNamed 10) = true:=by kernel_rfl
end Go.Proofs.YtcgodmeccmkcaaaGreatDoor.chordTurned
