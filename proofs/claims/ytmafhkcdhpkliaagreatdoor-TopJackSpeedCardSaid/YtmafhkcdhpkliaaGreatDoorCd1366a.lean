/- A part of the proof. -/
import Derived.Test.YtmafhkcdhpkliaaGreatDoorPa4
import Derived.JoinedCond
import Derived.JoinedOf
import Derived.KernelRfl
set_option linter.all false
namespace Go.Proofs.YtmafhkcdhpkliaaGreatDoor.topJackSpeed
open Go
theorem zB:(Rows.topJackSpeedRow.inPlace == Tryz.prog.inPlace 12)=true:=by kernel_rfl
theorem zC:(Rows.topJackSpeedRow.unfollowed == Tryz.prog.unfollowed 12)=true:=by kernel_rfl
theorem zD:(Rows.topJackSpeedRow.recurses == Tryz.prog.recurses 12)=true:=by kernel_rfl
theorem zE:(Rows.topJackSpeedRow.named == Tryz.prog.varsNamed 12)=true:=by kernel_rfl
end Go.Proofs.YtmafhkcdhpkliaaGreatDoor.topJackSpeed
