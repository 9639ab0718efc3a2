/- A part of the proof. -/
import Derived.Test.YtjibbhaeaikhpaaGreatDoorPa5
import Derived.JoinedCond
import Derived.JoinedOf
import Derived.KernelRfl
set_option linter.all false
namespace Go.Proofs.YtjibbhaeaikhpaaGreatDoor.sampleReceived
open Go
theorem zB:(Rows.sampleReceivedRow.inPlace == Tryz.prog.inPlace 8) = true:=by kernel_rfl
theorem zC:(Rows.sampleReceivedRow.unfollowed == Tryz.prog.unfollowed 8) = true:=by kernel_rfl
theorem zD:(Rows.sampleReceivedRow.recurses == Tryz.prog.recurses 8) = true:=by kernel_rfl
theorem zE:(Rows.sampleReceivedRow.named == Tryz.prog.varsNamed 8) = true:=by kernel_rfl
end Go.Proofs.YtjibbhaeaikhpaaGreatDoor.sampleReceived
