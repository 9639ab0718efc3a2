/- A part of the proof. -/
import Derived.Test.YtjibbhaeaikhpaaGreatDoorPa5
import Derived.JoinedCond
import Derived.JoinedOf
import Derived.KernelRfl
set_option linter.all false
namespace Go.Proofs.YtjibbhaeaikhpaaGreatDoor.sampleTwo
open Go
theorem zB:(Rows.sampleTwoRow.inPlace == Tryz.prog.inPlace 6) = true:=by kernel_rfl
theorem zC:(Rows.sampleTwoRow.unfollowed == Tryz.prog.unfollowed 6) = true:=by kernel_rfl
theorem zD:(Rows.sampleTwoRow.recurses == Tryz.prog.recurses 6) = true:=by kernel_rfl
theorem zE:(Rows.sampleTwoRow.named == Tryz.prog.varsNamed 6) = true:=by kernel_rfl
end Go.Proofs.YtjibbhaeaikhpaaGreatDoor.sampleTwo
