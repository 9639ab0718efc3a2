/- The closed facts of the row of SampleBasics, the heavy ones. -/
import Derived.Test.YtkaiphobleifgaaGreatDoorSb18
import Derived.JoinedCond
import Derived.JoinedOf
import Derived.KernelRfl
set_option linter.all false
namespace Go.Proofs.YtkaiphobleifgaaGreatDoor.basics
open Go
theorem zB : (Rows.sampleBasicsRow.inPlace == Tryz.prog.inPlace 3) = true := by kernel_rfl
theorem zC : (Rows.sampleBasicsRow.unfollowed == Tryz.prog.unfollowed 3) = true := by kernel_rfl
theorem zD : (Rows.sampleBasicsRow.recurses == Tryz.prog.recurses 3) = true := by kernel_rfl
theorem zE : (Rows.sampleBasicsRow.named == Tryz.prog.varsNamed 3) = true := by kernel_rfl
end Go.Proofs.YtkaiphobleifgaaGreatDoor.basics
