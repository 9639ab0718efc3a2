/- A part of the proof. -/
import Derived.Test.YtpbdcpgdbpkglaaGreatDoorPa4
import Derived.JoinedCond
import Derived.JoinedOf
import Derived.KernelRfl
set_option linter.all false
namespace Go.Proofs.YtpbdcpgdbpkglaaGreatDoor.inertiaSpeeds
open Go
theorem zG:(Rows.inertiaSpeedsRow.lifted == Tryz.prog.liftsFinal)=true:=by kernel_rfl
theorem zH:(Tryz.prog.make == some Rows.inertiaSpeedsRow.make)=true:=by kernel_rfl
theorem zF:(Rows.inertiaSpeedsRow.plainKeys == Tryz.prog.plainKeys)=true:=by kernel_rfl
end Go.Proofs.YtpbdcpgdbpkglaaGreatDoor.inertiaSpeeds
