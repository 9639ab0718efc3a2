/- A part of the proof. -/
import Derived.Test.YtpbdcpgdbpkglaaGreatDoorPa4
import Derived.JoinedCond
import Derived.JoinedOf
import Derived.KernelRfl
set_option linter.all false
namespace Go.Proofs.YtpbdcpgdbpkglaaGreatDoor.inertiaBends
open Go
theorem zG:(Rows.inertiaBendsRow.lifted == Tryz.prog.liftsFinal)=true:=by kernel_rfl
theorem zH:(Tryz.prog.make == some Rows.inertiaBendsRow.make)=true:=by kernel_rfl
theorem zF:(Rows.inertiaBendsRow.plainKeys == Tryz.prog.plainKeys)=true:=by kernel_rfl
end Go.Proofs.YtpbdcpgdbpkglaaGreatDoor.inertiaBends
