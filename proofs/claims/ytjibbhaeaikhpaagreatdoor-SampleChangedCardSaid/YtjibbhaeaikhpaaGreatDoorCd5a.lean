/- A part of the proof. -/
import Derived.Test.YtjibbhaeaikhpaaGreatDoorPa5
import Derived.JoinedCond
import Derived.JoinedOf
import Derived.KernelRfl
set_option linter.all false
namespace Go.Proofs.YtjibbhaeaikhpaaGreatDoor.sampleChanged
open Go
theorem zB:(Rows.sampleChangedRow.inPlace == Tryz.prog.inPlace 5) = true:=by kernel_rfl
theorem zC:(Rows.sampleChangedRow.unfollowed == Tryz.prog.unfollowed 5) = true:=by kernel_rfl
theorem zD:(Rows.sampleChangedRow.recurses == Tryz.prog.recurses 5) = true:=by kernel_rfl
theorem zE:(Rows.sampleChangedRow.named == Tryz.prog.varsNamed 5) = true:=by kernel_rfl
end Go.Proofs.YtjibbhaeaikhpaaGreatDoor.sampleChanged
