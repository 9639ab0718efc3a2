/- A part of the proof. -/
import Derived.Test.YtcgodmeccmkcaaaGreatDoorPa4
import Derived.JoinedCond
import Derived.JoinedOf
import Derived.KernelRfl
set_option linter.all false
namespace Go.Proofs.YtcgodmeccmkcaaaGreatDoor.chordRuns
open Go
theorem zG:(Rows.chordRunsRow.lifted == Tryz.prog.liftsFinal) = true:=by kernel_rfl
theorem zH:(Tryz.prog.make == some Rows.chordRunsRow.make) = true:=by kernel_rfl
theorem zF:(Rows.chordRunsRow.plainKeys == Tryz.prog.plainKeys) = true:=by kernel_rfl
end Go.Proofs.YtcgodmeccmkcaaaGreatDoor.chordRuns
