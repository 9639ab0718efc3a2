/- A part of the proof. -/
import Derived.Test.YtcgodmeccmkcaaaGreatDoorPa4
import Derived.JoinedCond
import Derived.JoinedOf
import Derived.KernelRfl
set_option linter.all false
namespace Go.Proofs.YtcgodmeccmkcaaaGreatDoor.chordLong
open Go
theorem zB:(Rows.chordLongRow.inPlace == Tryz.prog.inPlace 9) = true:=by kernel_rfl
theorem zC:(Rows.chordLongRow.unfollowed == Tryz.prog.unfollowed 9) = true:=by kernel_rfl
theorem zD:(Rows.chordLongRow.recurses == Tryz.prog.recurses 9) = true:=by kernel_rfl
theorem zE:(Rows.chordLongRow.named == Tryz.prog.varsNamed 9) = true:=by kernel_rfl
end Go.Proofs.YtcgodmeccmkcaaaGreatDoor.chordLong
