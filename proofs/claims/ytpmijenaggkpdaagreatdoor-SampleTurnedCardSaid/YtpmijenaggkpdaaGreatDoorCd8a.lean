/- A part of the proof. -/
import Derived.Test.YtpmijenaggkpdaaGreatDoorPa5
import Derived.JoinedCond
import Derived.JoinedOf
import Derived.KernelRfl
set_option linter.all false
namespace Go.Proofs.YtpmijenaggkpdaaGreatDoor.sampleTurned
open Go
theorem zB:(Rows.sampleTurnedRow.inPlace == Tryz.prog.inPlace 8) = true:=by kernel_rfl
theorem zC:(Rows.sampleTurnedRow.unfollowed == Tryz.prog.unfollowed 8) = true:=by kernel_rfl
theorem zD:(Rows.sampleTurnedRow.recurses == Tryz.prog.recurses 8) = true:=by kernel_rfl
theorem zE:(Rows.sampleTurnedRow.named == Tryz.prog.varsNamed 8) = true:=by kernel_rfl
end Go.Proofs.YtpmijenaggkpdaaGreatDoor.sampleTurned
