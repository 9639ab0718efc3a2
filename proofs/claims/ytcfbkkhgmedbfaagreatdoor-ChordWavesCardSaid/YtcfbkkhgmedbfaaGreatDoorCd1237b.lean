/- A part of the proof. -/
import Derived.Test.YtcfbkkhgmedbfaaGreatDoorPa4
import Derived.JoinedCond
import Derived.JoinedOf
import Derived.KernelRfl
set_option linter.all false
namespace Go.Proofs.YtcfbkkhgmedbfaaGreatDoor.chordWaves
open Go
theorem zG:(Rows.chordWavesRow.lifted == Tryz.prog.liftsFinal)=true:=by kernel_rfl
theorem zH:(Tryz.prog.make == some Rows.chordWavesRow.make)=true:=by kernel_rfl
theorem zF:(Rows.chordWavesRow.plainKeys == Tryz.prog.plainKeys)=true:=by kernel_rfl
end Go.Proofs.YtcfbkkhgmedbfaaGreatDoor.chordWaves
