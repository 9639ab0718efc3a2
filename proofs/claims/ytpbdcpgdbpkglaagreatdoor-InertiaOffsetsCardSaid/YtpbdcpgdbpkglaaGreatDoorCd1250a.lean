/- A part of the proof. -/
import Derived.Test.YtpbdcpgdbpkglaaGreatDoorPa4
import Derived.JoinedCond
import Derived.JoinedOf
import Derived.KernelRfl
set_option linter.all false
namespace Go.Proofs.YtpbdcpgdbpkglaaGreatDoor.inertiaOffsets
open Go
theorem zB:(Rows.inertiaOffsetsRow.inPlace == Tryz.prog.inPlace 11)=true:=by kernel_rfl
theorem zC:(Rows.inertiaOffsetsRow.unfollowed == Tryz.prog.unfollowed 11)=true:=by kernel_rfl
theorem zD:(Rows.inertiaOffsetsRow.recurses == Tryz.prog.recurses 11)=true:=by kernel_rfl
theorem zE:(Rows.inertiaOffsetsRow.named == Tryz.prog.varsNamed 11)=true:=by kernel_rfl
end Go.Proofs.YtpbdcpgdbpkglaaGreatDoor.inertiaOffsets
