/- A part of the proof. -/
import Derived.Test.YtpmijenaggkpdaaGreatDoorPa5
import Derived.JoinedCond
import Derived.JoinedOf
import Derived.KernelRfl
set_option linter.all false
namespace Go.Proofs.YtpmijenaggkpdaaGreatDoor.sampleAgreed
open Go
theorem zB:(Rows.sampleAgreedRow.inPlace == Tryz.prog.inPlace 10) = true:=by kernel_rfl
theorem zC:(Rows.sampleAgreedRow.unfollowed == Tryz.prog.unfollowed 10) = true:=by kernel_rfl
theorem zD:(Rows.sampleAgreedRow.recurses == Tryz.prog.recurses 10) = true:=by kernel_rfl
theorem zE:(Rows.sampleAgreedRow.named == Tryz.prog.varsNamed 10) = true:=by kernel_rfl
end Go.Proofs.YtpmijenaggkpdaaGreatDoor.sampleAgreed
