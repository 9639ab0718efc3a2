/- A part of the proof. -/
import Derived.Test.YtadfeepajmngiaaGreatDoorPa6
import Derived.JoinedCond
import Derived.JoinedOf
import Derived.KernelRfl
set_option linter.all false
namespace Go.Proofs.YtadfeepajmngiaaGreatDoor.qualityWindows
open Go
theorem zB:(Rows.qualityWindowsRow.inPlace == Tryz.prog.inPlace 5)=true:=by kernel_rfl
theorem zC:(Rows.qualityWindowsRow.unfollowed == Tryz.prog.unfollowed 5)=true:=by kernel_rfl
theorem zD:(Rows.qualityWindowsRow.recurses == Tryz.prog.recurses 5)=true:=by kernel_rfl
theorem zE:(Rows.qualityWindowsRow.named == Tryz.prog.varsNamed 5)=true:=by kernel_rfl
end Go.Proofs.YtadfeepajmngiaaGreatDoor.qualityWindows
