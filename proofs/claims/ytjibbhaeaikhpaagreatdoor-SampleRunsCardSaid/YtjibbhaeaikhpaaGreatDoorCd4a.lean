/- A part of the proof. -/
import Derived.Test.YtjibbhaeaikhpaaGreatDoorPa5
import Derived.JoinedCond
import Derived.JoinedOf
import Derived.KernelRfl
set_option linter.all false
namespace Go.Proofs.YtjibbhaeaikhpaaGreatDoor.sampleRuns
open Go
theorem zB:(Rows.sampleRunsRow.inPlace == Tryz.prog.inPlace 4) = true:=by kernel_rfl
theorem zC:(Rows.sampleRunsRow.unfollowed == Tryz.prog.unfollowed 4) = true:=by kernel_rfl
theorem zD:(Rows.sampleRunsRow.recurses == Tryz.prog.recurses 4) = true:=by kernel_rfl
theorem zE:(Rows.sampleRunsRow.named == Tryz.prog.varsNamed 4) = true:=by kernel_rfl
end Go.Proofs.YtjibbhaeaikhpaaGreatDoor.sampleRuns
