/- A part of the proof. -/
import Derived.Test.YtpmijenaggkpdaaGreatDoorPa5
import Derived.JoinedCond
import Derived.JoinedOf
import Derived.KernelRfl
set_option linter.all false
namespace Go.Proofs.YtpmijenaggkpdaaGreatDoor.sampleTurned
open Go
theorem zG:(Rows.sampleTurnedRow.lifted == Tryz.prog.liftsFinal) = true:=by kernel_rfl
theorem zH:(Tryz.prog.make == some Rows.sampleTurnedRow.make) = true:=by kernel_rfl
theorem zF:(Rows.sampleTurnedRow.plainKeys == Tryz.prog.plainKeys) = true:=by kernel_rfl
end Go.Proofs.YtpmijenaggkpdaaGreatDoor.sampleTurned
