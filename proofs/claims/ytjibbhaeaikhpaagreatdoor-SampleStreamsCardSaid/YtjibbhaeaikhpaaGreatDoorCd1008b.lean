/- A part of the proof. -/
import Derived.Test.YtjibbhaeaikhpaaGreatDoorPa5
import Derived.JoinedCond
import Derived.JoinedOf
import Derived.KernelRfl
set_option linter.all false
namespace Go.Proofs.YtjibbhaeaikhpaaGreatDoor.sampleStreams
open Go
theorem zG:(Rows.sampleStreamsRow.lifted == Tryz.prog.liftsFinal) = true:=by kernel_rfl
theorem zH:(Tryz.prog.make == some Rows.sampleStreamsRow.make) = true:=by kernel_rfl
theorem zF:(Rows.sampleStreamsRow.plainKeys == Tryz.prog.plainKeys) = true:=by kernel_rfl
end Go.Proofs.YtjibbhaeaikhpaaGreatDoor.sampleStreams
