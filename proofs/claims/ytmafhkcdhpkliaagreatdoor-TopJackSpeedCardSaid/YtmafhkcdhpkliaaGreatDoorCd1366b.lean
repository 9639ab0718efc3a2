/- A part of the proof. -/
import Derived.Test.YtmafhkcdhpkliaaGreatDoorPa4
import Derived.JoinedCond
import Derived.JoinedOf
import Derived.KernelRfl
set_option linter.all false
namespace Go.Proofs.YtmafhkcdhpkliaaGreatDoor.topJackSpeed
open Go
theorem zG:(Rows.topJackSpeedRow.lifted == Tryz.prog.liftsFinal)=true:=by kernel_rfl
theorem zH:(Tryz.prog.make == some Rows.topJackSpeedRow.make)=true:=by kernel_rfl
theorem zF:(Rows.topJackSpeedRow.plainKeys == Tryz.prog.plainKeys)=true:=by kernel_rfl
end Go.Proofs.YtmafhkcdhpkliaaGreatDoor.topJackSpeed
