/- A part of the proof. -/
import Derived.Test.YtpbdcpgdbpkglaaGreatDoorPa4
import Derived.JoinedCond
import Derived.JoinedOf
import Derived.KernelRfl
set_option linter.all false
namespace Go.Proofs.YtpbdcpgdbpkglaaGreatDoor.inertiaRails
open Go
theorem zB:(Rows.inertiaRailsRow.inPlace == Tryz.prog.inPlace 9)=true:=by kernel_rfl
theorem zC:(Rows.inertiaRailsRow.unfollowed == Tryz.prog.unfollowed 9)=true:=by kernel_rfl
theorem zD:(Rows.inertiaRailsRow.recurses == Tryz.prog.recurses 9)=true:=by kernel_rfl
theorem zE:(Rows.inertiaRailsRow.named == Tryz.prog.varsNamed 9)=true:=by kernel_rfl
end Go.Proofs.YtpbdcpgdbpkglaaGreatDoor.inertiaRails
