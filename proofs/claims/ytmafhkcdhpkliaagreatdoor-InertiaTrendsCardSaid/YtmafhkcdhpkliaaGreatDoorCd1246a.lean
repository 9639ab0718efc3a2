/- A part of the proof. -/
import Derived.Test.YtmafhkcdhpkliaaGreatDoorPa4
import Derived.JoinedCond
import Derived.JoinedOf
import Derived.KernelRfl
set_option linter.all false
namespace Go.Proofs.YtmafhkcdhpkliaaGreatDoor.inertiaTrends
open Go
theorem zB:(Rows.inertiaTrendsRow.inPlace == Tryz.prog.inPlace 5)=true:=by kernel_rfl
theorem zC:(Rows.inertiaTrendsRow.unfollowed == Tryz.prog.unfollowed 5)=true:=by kernel_rfl
theorem zD:(Rows.inertiaTrendsRow.recurses == Tryz.prog.recurses 5)=true:=by kernel_rfl
theorem zE:(Rows.inertiaTrendsRow.named == Tryz.prog.varsNamed 5)=true:=by kernel_rfl
end Go.Proofs.YtmafhkcdhpkliaaGreatDoor.inertiaTrends
