/- A part of the proof. -/
import Derived.Test.YtcfbkkhgmedbfaaGreatDoorPa4
import Derived.JoinedCond
import Derived.JoinedOf
import Derived.KernelRfl
set_option linter.all false
namespace Go.Proofs.YtcfbkkhgmedbfaaGreatDoor.chordWaves
open Go
theorem zB:(Rows.chordWavesRow.inPlace == Tryz.prog.inPlace 3)=true:=by kernel_rfl
theorem zC:(Rows.chordWavesRow.unfollowed == Tryz.prog.unfollowed 3)=true:=by kernel_rfl
theorem zD:(Rows.chordWavesRow.recurses == Tryz.prog.recurses 3)=true:=by kernel_rfl
theorem zE:(Rows.chordWavesRow.named == Tryz.prog.varsNamed 3)=true:=by kernel_rfl
end Go.Proofs.YtcfbkkhgmedbfaaGreatDoor.chordWaves
