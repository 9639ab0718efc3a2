/- A part of the proof. -/
import Derived.Test.YtpbdcpgdbpkglaaGreatDoorPa4
import Derived.JoinedCond
import Derived.JoinedOf
import Derived.KernelRfl
set_option linter.all false
namespace Go.Proofs.YtpbdcpgdbpkglaaGreatDoor.inertiaBack
open Go
theorem zB:(Rows.inertiaBackRow.inPlace == Tryz.prog.inPlace 10)=true:=by kernel_rfl
theorem zC:(Rows.inertiaBackRow.unfollowed == Tryz.prog.unfollowed 10)=true:=by kernel_rfl
theorem zD:(Rows.inertiaBackRow.recurses == Tryz.prog.recurses 10)=true:=by kernel_rfl
theorem zE:(Rows.inertiaBackRow.named == Tryz.prog.varsNamed 10)=true:=by kernel_rfl
end Go.Proofs.YtpbdcpgdbpkglaaGreatDoor.inertiaBack
