/- A part of the proof. -/
import Derived.Test.YtpbdcpgdbpkglaaGreatDoorPa4
import Derived.JoinedCond
import Derived.JoinedOf
import Derived.KernelRfl
set_option linter.all false
namespace Go.Proofs.YtpbdcpgdbpkglaaGreatDoor.inertiaBends
open Go
theorem zB:(Rows.inertiaBendsRow.inPlace == Tryz.prog.inPlace 6)=true:=by kernel_rfl
theorem zC:(Rows.inertiaBendsRow.unfollowed == Tryz.prog.unfollowed 6)=true:=by kernel_rfl
theorem zD:(Rows.inertiaBendsRow.recurses == Tryz.prog.recurses 6)=true:=by kernel_rfl
theorem zE:(Rows.inertiaBendsRow.named == Tryz.prog.varsNamed 6)=true:=by kernel_rfl
end Go.Proofs.YtpbdcpgdbpkglaaGreatDoor.inertiaBends
