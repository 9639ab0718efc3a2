/- The closed facts of the row of SampleBasics, the others. -/
import Derived.Test.YtkaiphobleifgaaGreatDoorSb18
import Derived.JoinedCond
import Derived.JoinedOf
import Derived.KernelRfl
set_option linter.all false
namespace Go.Proofs.YtkaiphobleifgaaGreatDoor.basics
open Go
theorem zG : (Rows.sampleBasicsRow.lifted == Tryz.prog.liftsFinal) = true := by kernel_rfl
theorem zH : (Tryz.prog.make == some Rows.sampleBasicsRow.make) = true := by kernel_rfl
theorem zF : (Rows.sampleBasicsRow.plainKeys == Tryz.prog.plainKeys) = true := by kernel_rfl
end Go.Proofs.YtkaiphobleifgaaGreatDoor.basics
