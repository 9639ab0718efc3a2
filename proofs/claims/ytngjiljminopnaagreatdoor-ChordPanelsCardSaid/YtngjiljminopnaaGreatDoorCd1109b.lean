/- A part of the proof. -/
import Derived.Test.YtngjiljminopnaaGreatDoorPa4
import Derived.JoinedCond
import Derived.JoinedOf
import Derived.KernelRfl
set_option linter.all false
namespace Go.Proofs.YtngjiljminopnaaGreatDoor.chordPanels
open Go
theorem zG:(Rows.chordPanelsRow.lifted == Tryz.prog.liftsFinal)=true:=by kernel_rfl
theorem zH:(Tryz.prog.make == some Rows.chordPanelsRow.make)=true:=by kernel_rfl
theorem zF:(Rows.chordPanelsRow.plainKeys == Tryz.prog.plainKeys)=true:=by kernel_rfl
end Go.Proofs.YtngjiljminopnaaGreatDoor.chordPanels
