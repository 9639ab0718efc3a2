/- A part of the proof. -/
import Derived.Test.YtjibbhaeaikhpaaGreatDoorPa5
import Derived.JoinedCond
import Derived.JoinedOf
import Derived.KernelRfl
set_option linter.all false
namespace Go.Proofs.YtjibbhaeaikhpaaGreatDoor.samplePackets
open Go
theorem zB:(Rows.samplePacketsRow.inPlace == Tryz.prog.inPlace 7) = true:=by kernel_rfl
theorem zC:(Rows.samplePacketsRow.unfollowed == Tryz.prog.unfollowed 7) = true:=by kernel_rfl
theorem zD:(Rows.samplePacketsRow.recurses == Tryz.prog.recurses 7) = true:=by kernel_rfl
theorem zE:(Rows.samplePacketsRow.named == Tryz.prog.varsNamed 7) = true:=by kernel_rfl
end Go.Proofs.YtjibbhaeaikhpaaGreatDoor.samplePackets
