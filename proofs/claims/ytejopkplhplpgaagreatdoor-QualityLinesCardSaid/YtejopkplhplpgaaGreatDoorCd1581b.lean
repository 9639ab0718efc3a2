/- A part of the proof. -/
import Derived.Test.YtejopkplhplpgaaGreatDoorPa6
import Derived.JoinedCond
import Derived.JoinedOf
import Derived.KernelRfl
set_option linter.all false
namespace Go.Proofs.YtejopkplhplpgaaGreatDoor.qualityLines
open Go
theorem zG:(Rows.qualityLinesRow.lifted == Tryz.prog.liftsFinal)=true:=by kernel_rfl
theorem zH:(Tryz.prog.make == some Rows.qualityLinesRow.make)=true:=by kernel_rfl
theorem zF:(Rows.qualityLinesRow.plainKeys == Tryz.prog.plainKeys)=true:=by kernel_rfl
end Go.Proofs.YtejopkplhplpgaaGreatDoor.qualityLines
