/- A part of the proof. -/
import Derived.Test.YtcgodmeccmkcaaaGreatDoorPa4
import Derived.JoinedCond
import Derived.JoinedOf
import Derived.KernelRfl
set_option linter.all false
namespace Go.Proofs.YtcgodmeccmkcaaaGreatDoor.chordTurned
open Go
theorem zG:(Rows.chordTurnedRow.lifted == Tryz.prog.liftsFinal) = true:=by kernel_rfl
theorem zH:(Tryz.prog.make == some Rows.chordTurnedRow.make) = true:=by kernel_rfl
theorem zF:(Rows.chordTurnedRow.plainKeys == Tryz.prog.plainKeys) = true:=by kernel_rfl
end Go.Proofs.YtcgodmeccmkcaaaGreatDoor.chordTurned
