/- A part of the proof. -/
import Derived.Test.YtpbdcpgdbpkglaaGreatDoorPa4
import Derived.JoinedCond
import Derived.JoinedOf
import Derived.KernelRfl
set_option linter.all false
namespace Go.Proofs.YtpbdcpgdbpkglaaGreatDoor.inertiaOffsets
open Go
theorem zG:(Rows.inertiaOffsetsRow.lifted == Tryz.prog.liftsFinal)=true:=by kernel_rfl
theorem zH:(Tryz.prog.make == some Rows.inertiaOffsetsRow.make)=true:=by kernel_rfl
theorem zF:(Rows.inertiaOffsetsRow.plainKeys == Tryz.prog.plainKeys)=true:=by kernel_rfl
end Go.Proofs.YtpbdcpgdbpkglaaGreatDoor.inertiaOffsets
