/- A part of the proof. -/
import Derived.Test.YtcgodmeccmkcaaaGreatDoorPa4
import Derived.JoinedCond
import Derived.JoinedOf
import Derived.KernelRfl
set_option linter.all false
namespace Go.Proofs.YtcgodmeccmkcaaaGreatDoor.chordWeighted
open Go
theorem zB:(Rows.chordWeightedRow.inPlace == Tryz.prog.inPlace 5) = true:=by kernel_rfl
theorem zC:(Rows.chordWeightedRow.unfollowed == Tryz.prog.unfollowed 5) = true:=by kernel_rfl
theorem zD:(Rows.chordWeightedRow.recurses == Tryz.prog.recurses 5) = true:=by kernel_rfl
theorem zE:(Rows.chordWeightedRow.named == Tryz.prog.varsNamed 5) = true:=by kernel_rfl
end Go.Proofs.YtcgodmeccmkcaaaGreatDoor.chordWeighted
