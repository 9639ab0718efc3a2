/- A part of the proof. -/
import Derived.Test.YtcgodmeccmkcaaaGreatDoorPa4
import Derived.JoinedCond
import Derived.JoinedOf
import Derived.KernelRfl
set_option linter.all false
namespace Go.Proofs.YtcgodmeccmkcaaaGreatDoor.chordTraces
open Go
theorem zB:(Rows.chordTracesRow.inPlace == Tryz.prog.inPlace 3) = true:=by kernel_rfl
theorem zC:(Rows.chordTracesRow.unfollowed == Tryz.prog.unfollowed 3) = true:=by kernel_rfl
theorem zD:(Rows.chordTracesRow.recurses == Tryz.prog.recurses 3) = true:=by kernel_rfl
theorem zE:(Rows.chordTracesRow.named == Tryz.prog.varsNamed 3) = true:=by kernel_rfl
end Go.Proofs.YtcgodmeccmkcaaaGreatDoor.chordTraces
