/- A part of the proof. -/
import Derived.Test.YtngjiljminopnaaGreatDoorPa4
import Derived.JoinedCond
import Derived.JoinedOf
import Derived.KernelRfl
set_option linter.all false
namespace Go.Proofs.YtngjiljminopnaaGreatDoor.topForkMeasured
open Go
theorem zB:(Rows.topForkMeasuredRow.inPlace == Tryz.prog.inPlace 7)=true:=by kernel_rfl
theorem zC:(Rows.topForkMeasuredRow.unfollowed == Tryz.prog.unfollowed 7)=true:=by kernel_rfl
theorem zD:(Rows.topForkMeasuredRow.recurses == Tryz.prog.recurses 7)=true:=by kernel_rfl
theorem zE:(Rows.topForkMeasuredRow.named == Tryz.prog.varsNamed 7)=true:=by kernel_rfl
end Go.Proofs.YtngjiljminopnaaGreatDoor.topForkMeasured
