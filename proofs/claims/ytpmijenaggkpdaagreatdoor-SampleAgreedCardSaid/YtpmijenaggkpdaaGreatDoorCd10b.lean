/- A part of the proof. -/
import Derived.Test.YtpmijenaggkpdaaGreatDoorPa5
import Derived.JoinedCond
import Derived.JoinedOf
import Derived.KernelRfl
set_option linter.all false
namespace Go.Proofs.YtpmijenaggkpdaaGreatDoor.sampleAgreed
open Go
theorem zG:(Rows.sampleAgreedRow.lifted == Tryz.prog.liftsFinal) = true:=by kernel_rfl
theorem zH:(Tryz.prog.make == some Rows.sampleAgreedRow.make) = true:=by kernel_rfl
theorem zF:(Rows.sampleAgreedRow.plainKeys == Tryz.prog.plainKeys) = true:=by kernel_rfl
end Go.Proofs.YtpmijenaggkpdaaGreatDoor.sampleAgreed
