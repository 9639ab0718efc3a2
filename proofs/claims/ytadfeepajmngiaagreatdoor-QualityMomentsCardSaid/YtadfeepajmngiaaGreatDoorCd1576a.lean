/- A part of the proof. -/
import Derived.Test.YtadfeepajmngiaaGreatDoorPa6
import Derived.JoinedCond
import Derived.JoinedOf
import Derived.KernelRfl
set_option linter.all false
namespace Go.Proofs.YtadfeepajmngiaaGreatDoor.qualityMoments
open Go
theorem zB:(Rows.qualityMomentsRow.inPlace == Tryz.prog.inPlace 4)=true:=by kernel_rfl
theorem zC:(Rows.qualityMomentsRow.unfollowed == Tryz.prog.unfollowed 4)=true:=by kernel_rfl
theorem zD:(Rows.qualityMomentsRow.recurses == Tryz.prog.recurses 4)=true:=by kernel_rfl
theorem zE:(Rows.qualityMomentsRow.named == Tryz.prog.varsNamed 4)=true:=by kernel_rfl
end Go.Proofs.YtadfeepajmngiaaGreatDoor.qualityMoments
