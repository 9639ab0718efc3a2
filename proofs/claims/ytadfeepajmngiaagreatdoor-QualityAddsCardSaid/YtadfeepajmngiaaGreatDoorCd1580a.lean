/- A part of the proof. -/
import Derived.Test.YtadfeepajmngiaaGreatDoorPa6
import Derived.JoinedCond
import Derived.JoinedOf
import Derived.KernelRfl
set_option linter.all false
namespace Go.Proofs.YtadfeepajmngiaaGreatDoor.qualityAdds
open Go
theorem zB:(Rows.qualityAddsRow.inPlace == Tryz.prog.inPlace 8)=true:=by kernel_rfl
theorem zC:(Rows.qualityAddsRow.unfollowed == Tryz.prog.unfollowed 8)=true:=by kernel_rfl
theorem zD:(Rows.qualityAddsRow.recurses == Tryz.prog.recurses 8)=true:=by kernel_rfl
theorem zE:(Rows.qualityAddsRow.named == Tryz.prog.varsNamed 8)=true:=by kernel_rfl
end Go.Proofs.YtadfeepajmngiaaGreatDoor.qualityAdds
