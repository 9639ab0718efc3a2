/- A part of the proof. -/
import Derived.Test.YtjibbhaeaikhpaaGreatDoorPa5
import Derived.JoinedCond
import Derived.JoinedOf
import Derived.KernelRfl
set_option linter.all false
namespace Go.Proofs.YtjibbhaeaikhpaaGreatDoor.sampleFound
open Go
theorem zB:(Rows.sampleFoundRow.inPlace == Tryz.prog.inPlace 11) = true:=by kernel_rfl
theorem zC:(Rows.sampleFoundRow.unfollowed == Tryz.prog.unfollowed 11) = true:=by kernel_rfl
theorem zD:(Rows.sampleFoundRow.recurses == Tryz.prog.recurses 11) = true:=by kernel_rfl
theorem zE:(Rows.sampleFoundRow.named == Tryz.prog.varsNamed 11) = true:=by kernel_rfl
end Go.Proofs.YtjibbhaeaikhpaaGreatDoor.sampleFound
