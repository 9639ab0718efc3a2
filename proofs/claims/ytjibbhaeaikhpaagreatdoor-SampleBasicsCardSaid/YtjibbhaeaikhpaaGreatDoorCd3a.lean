/- A part of the proof. -/
import Derived.Test.YtjibbhaeaikhpaaGreatDoorPa5
import Derived.JoinedCond
import Derived.JoinedOf
import Derived.KernelRfl
set_option linter.all false
namespace Go.Proofs.YtjibbhaeaikhpaaGreatDoor.sampleBasics
open Go
theorem zB:(Rows.sampleBasicsRow.inPlace == Tryz.prog.inPlace 3) = true:=by kernel_rfl
theorem zC:(Rows.sampleBasicsRow.unfollowed == Tryz.prog.unfollowed 3) = true:=by kernel_rfl
theorem zD:(Rows.sampleBasicsRow.recurses == Tryz.prog.recurses 3) = true:=by kernel_rfl
theorem zE:(Rows.sampleBasicsRow.named == Tryz.prog.varsNamed 3) = true:=by kernel_rfl
end Go.Proofs.YtjibbhaeaikhpaaGreatDoor.sampleBasics
