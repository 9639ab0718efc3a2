/- A part of the proof. -/
import Derived.Test.YtadfeepajmngiaaGreatDoorPa6
import Derived.JoinedCond
import Derived.JoinedOf
import Derived.KernelRfl
set_option linter.all false
namespace Go.Proofs.YtadfeepajmngiaaGreatDoor.qualitySections
open Go
theorem zB:(Rows.qualitySectionsRow.inPlace == Tryz.prog.inPlace 7)=true:=by kernel_rfl
theorem zC:(Rows.qualitySectionsRow.unfollowed == Tryz.prog.unfollowed 7)=true:=by kernel_rfl
theorem zD:(Rows.qualitySectionsRow.recurses == Tryz.prog.recurses 7)=true:=by kernel_rfl
theorem zE:(Rows.qualitySectionsRow.named == Tryz.prog.varsNamed 7)=true:=by kernel_rfl
end Go.Proofs.YtadfeepajmngiaaGreatDoor.qualitySections
