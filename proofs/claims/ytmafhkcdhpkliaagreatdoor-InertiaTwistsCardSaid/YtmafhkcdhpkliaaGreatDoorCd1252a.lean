/- A part of the proof. -/
import Derived.Test.YtmafhkcdhpkliaaGreatDoorPa4
import Derived.JoinedCond
import Derived.JoinedOf
import Derived.KernelRfl
set_option linter.all false
namespace Go.Proofs.YtmafhkcdhpkliaaGreatDoor.inertiaTwists
open Go
theorem zB:(Rows.inertiaTwistsRow.inPlace == Tryz.prog.inPlace 9)=true:=by kernel_rfl
theorem zC:(Rows.inertiaTwistsRow.unfollowed == Tryz.prog.unfollowed 9)=true:=by kernel_rfl
theorem zD:(Rows.inertiaTwistsRow.recurses == Tryz.prog.recurses 9)=true:=by kernel_rfl
theorem zE:(Rows.inertiaTwistsRow.named == Tryz.prog.varsNamed 9)=true:=by kernel_rfl
end Go.Proofs.YtmafhkcdhpkliaaGreatDoor.inertiaTwists
