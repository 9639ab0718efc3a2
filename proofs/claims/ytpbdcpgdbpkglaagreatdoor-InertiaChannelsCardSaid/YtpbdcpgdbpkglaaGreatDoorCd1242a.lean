/- A part of the proof. -/
import Derived.Test.YtpbdcpgdbpkglaaGreatDoorPa4
import Derived.JoinedCond
import Derived.JoinedOf
import Derived.KernelRfl
set_option linter.all false
namespace Go.Proofs.YtpbdcpgdbpkglaaGreatDoor.inertiaChannels
open Go
theorem zB:(Rows.inertiaChannelsRow.inPlace == Tryz.prog.inPlace 3)=true:=by kernel_rfl
theorem zC:(Rows.inertiaChannelsRow.unfollowed == Tryz.prog.unfollowed 3)=true:=by kernel_rfl
theorem zD:(Rows.inertiaChannelsRow.recurses == Tryz.prog.recurses 3)=true:=by kernel_rfl
theorem zE:(Rows.inertiaChannelsRow.named == Tryz.prog.varsNamed 3)=true:=by kernel_rfl
end Go.Proofs.YtpbdcpgdbpkglaaGreatDoor.inertiaChannels
