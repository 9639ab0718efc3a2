/- A part of the proof. -/
import Derived.Test.YtpmijenaggkpdaaGreatDoorPa5
import Derived.JoinedCond
import Derived.JoinedOf
import Derived.KernelRfl
set_option linter.all false
namespace Go.Proofs.YtpmijenaggkpdaaGreatDoor.sampleParts
open Go
theorem zB:(Rows.samplePartsRow.inPlace == Tryz.prog.inPlace 9) = true:=by kernel_rfl
theorem zC:(Rows.samplePartsRow.unfollowed == Tryz.prog.unfollowed 9) = true:=by kernel_rfl
theorem zD:(Rows.samplePartsRow.recurses == Tryz.prog.recurses 9) = true:=by kernel_rfl
theorem zE:(Rows.samplePartsRow.named == Tryz.prog.varsNamed 9) = true:=by kernel_rfl
end Go.Proofs.YtpmijenaggkpdaaGreatDoor.sampleParts
