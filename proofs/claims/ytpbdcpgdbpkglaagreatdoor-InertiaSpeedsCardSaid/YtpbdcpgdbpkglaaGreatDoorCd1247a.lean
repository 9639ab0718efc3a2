/- A part of the proof. -/
import Derived.Test.YtpbdcpgdbpkglaaGreatDoorPa4
import Derived.JoinedCond
import Derived.JoinedOf
import Derived.KernelRfl
set_option linter.all false
namespace Go.Proofs.YtpbdcpgdbpkglaaGreatDoor.inertiaSpeeds
open Go
theorem zB:(Rows.inertiaSpeedsRow.inPlace == Tryz.prog.inPlace 8)=true:=by kernel_rfl
theorem zC:(Rows.inertiaSpeedsRow.unfollowed == Tryz.prog.unfollowed 8)=true:=by kernel_rfl
theorem zD:(Rows.inertiaSpeedsRow.recurses == Tryz.prog.recurses 8)=true:=by kernel_rfl
theorem zE:(Rows.inertiaSpeedsRow.named == Tryz.prog.varsNamed 8)=true:=by kernel_rfl
end Go.Proofs.YtpbdcpgdbpkglaaGreatDoor.inertiaSpeeds
