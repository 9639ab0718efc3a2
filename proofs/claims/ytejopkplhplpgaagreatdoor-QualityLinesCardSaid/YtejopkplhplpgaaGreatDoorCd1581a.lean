/- A part of the proof. -/
import Derived.Test.YtejopkplhplpgaaGreatDoorPa6
import Derived.JoinedCond
import Derived.JoinedOf
import Derived.KernelRfl
set_option linter.all false
namespace Go.Proofs.YtejopkplhplpgaaGreatDoor.qualityLines
open Go
theorem zB:(Rows.qualityLinesRow.inPlace == Tryz.prog.inPlace 3)=true:=by kernel_rfl
theorem zC:(Rows.qualityLinesRow.unfollowed == Tryz.prog.unfollowed 3)=true:=by kernel_rfl
theorem zD:(Rows.qualityLinesRow.recurses == Tryz.prog.recurses 3)=true:=by kernel_rfl
theorem zE:(Rows.qualityLinesRow.named == Tryz.prog.varsNamed 3)=true:=by kernel_rfl
end Go.Proofs.YtejopkplhplpgaaGreatDoor.qualityLines
