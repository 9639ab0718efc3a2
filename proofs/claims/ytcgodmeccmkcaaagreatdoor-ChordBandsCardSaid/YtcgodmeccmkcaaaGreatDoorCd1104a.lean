/- A part of the proof. -/
import Derived.Test.YtcgodmeccmkcaaaGreatDoorPa4
import Derived.JoinedCond
import Derived.JoinedOf
import Derived.KernelRfl
set_option linter.all false
namespace Go.Proofs.YtcgodmeccmkcaaaGreatDoor.chordBands
open Go
theorem zB:(Rows.chordBandsRow.inPlace == Tryz.prog.inPlace 7) = true:=by kernel_rfl
theorem zC:(Rows.chordBandsRow.unfollowed == Tryz.prog.unfollowed 7) = true:=by kernel_rfl
theorem zD:(Rows.chordBandsRow.recurses == Tryz.prog.recurses 7) = true:=by kernel_rfl
theorem zE:(Rows.chordBandsRow.named == Tryz.prog.varsNamed 7) = true:=by kernel_rfl
end Go.Proofs.YtcgodmeccmkcaaaGreatDoor.chordBands
