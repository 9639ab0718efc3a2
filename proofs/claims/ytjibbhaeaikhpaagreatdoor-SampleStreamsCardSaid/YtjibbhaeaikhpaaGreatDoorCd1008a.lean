/- A part of the proof. -/
import Derived.Test.YtjibbhaeaikhpaaGreatDoorPa5
import Derived.JoinedCond
import Derived.JoinedOf
import Derived.KernelRfl
set_option linter.all false
namespace Go.Proofs.YtjibbhaeaikhpaaGreatDoor.sampleStreams
open Go
theorem zB:(Rows.sampleStreamsRow.inPlace == Tryz.prog.inPlace 9) = true:=by kernel_rfl
theorem zC:(Rows.sampleStreamsRow.unfollowed == Tryz.prog.unfollowed 9) = true:=by kernel_rfl
theorem zD:(Rows.sampleStreamsRow.recurses == Tryz.prog.recurses 9) = true:=by kernel_rfl
theorem zE:(Rows.sampleStreamsRow.named == Tryz.prog.varsNamed 9) = true:=by kernel_rfl
end Go.Proofs.YtjibbhaeaikhpaaGreatDoor.sampleStreams
