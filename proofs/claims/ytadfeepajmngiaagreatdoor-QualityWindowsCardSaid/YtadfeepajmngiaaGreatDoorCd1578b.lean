/- A part of the proof. -/
import Derived.Test.YtadfeepajmngiaaGreatDoorPa6
import Derived.JoinedCond
import Derived.JoinedOf
import Derived.KernelRfl
set_option linter.all false
namespace Go.Proofs.YtadfeepajmngiaaGreatDoor.qualityWindows
open Go
theorem zG:(Rows.qualityWindowsRow.lifted == Tryz.prog.liftsFinal)=true:=by kernel_rfl
theorem zH:(Tryz.prog.make == some Rows.qualityWindowsRow.make)=true:=by kernel_rfl
theorem zF:(Rows.qualityWindowsRow.plainKeys == Tryz.prog.plainKeys)=true:=by kernel_rfl
end Go.Proofs.YtadfeepajmngiaaGreatDoor.qualityWindows
