/- A part of the proof. -/
import Derived.Test.YtcgodmeccmkcaaaGreatDoorPa4
import Derived.JoinedCond
import Derived.JoinedOf
import Derived.KernelRfl
set_option linter.all false
namespace Go.Proofs.YtcgodmeccmkcaaaGreatDoor.chordLong
open Go
theorem zG:(Rows.chordLongRow.lifted == Tryz.prog.liftsFinal) = true:=by kernel_rfl
theorem zH:(Tryz.prog.make == some Rows.chordLongRow.make) = true:=by kernel_rfl
theorem zF:(Rows.chordLongRow.plainKeys == Tryz.prog.plainKeys) = true:=by kernel_rfl
end Go.Proofs.YtcgodmeccmkcaaaGreatDoor.chordLong
