/- A part of the proof. -/
import Derived.Test.YtejopkplhplpgaaGreatDoorPa6
import Derived.JoinedCond
import Derived.JoinedOf
import Derived.KernelRfl
set_option linter.all false
namespace Go.Proofs.YtejopkplhplpgaaGreatDoor.qualityLeft
open Go
theorem zG:(Rows.qualityLeftRow.lifted == Tryz.prog.liftsFinal)=true:=by kernel_rfl
theorem zH:(Tryz.prog.make == some Rows.qualityLeftRow.make)=true:=by kernel_rfl
theorem zF:(Rows.qualityLeftRow.plainKeys == Tryz.prog.plainKeys)=true:=by kernel_rfl
end Go.Proofs.YtejopkplhplpgaaGreatDoor.qualityLeft
