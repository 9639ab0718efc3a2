/- A part of the proof. -/
import Derived.Test.YtejopkplhplpgaaGreatDoorPa6
import Derived.JoinedCond
import Derived.JoinedOf
import Derived.KernelRfl
set_option linter.all false
namespace Go.Proofs.YtejopkplhplpgaaGreatDoor.qualityLeft
open Go
theorem zB:(Rows.qualityLeftRow.inPlace == Tryz.prog.inPlace 4)=true:=by kernel_rfl
theorem zC:(Rows.qualityLeftRow.unfollowed == Tryz.prog.unfollowed 4)=true:=by kernel_rfl
theorem zD:(Rows.qualityLeftRow.recurses == Tryz.prog.recurses 4)=true:=by kernel_rfl
theorem zE:(Rows.qualityLeftRow.named == Tryz.prog.varsNamed 4)=true:=by kernel_rfl
end Go.Proofs.YtejopkplhplpgaaGreatDoor.qualityLeft
