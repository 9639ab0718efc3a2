/- A part of the proof. -/
import Derived.Test.YtadfeepajmngiaaGreatDoorPa6
import Derived.JoinedCond
import Derived.JoinedOf
import Derived.KernelRfl
set_option linter.all false
namespace Go.Proofs.YtadfeepajmngiaaGreatDoor.qualityParts
open Go
theorem zB:(Rows.qualityPartsRow.inPlace == Tryz.prog.inPlace 3)=true:=by kernel_rfl
theorem zC:(Rows.qualityPartsRow.unfollowed == Tryz.prog.unfollowed 3)=true:=by kernel_rfl
theorem zD:(Rows.qualityPartsRow.recurses == Tryz.prog.recurses 3)=true:=by kernel_rfl
theorem zE:(Rows.qualityPartsRow.named == Tryz.prog.varsNamed 3)=true:=by kernel_rfl
end Go.Proofs.YtadfeepajmngiaaGreatDoor.qualityParts
