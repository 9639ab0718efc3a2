/- A part of the proof. -/
import Derived.Test.YtmafhkcdhpkliaaDoorPa4
import Derived.JoinedCond
import Derived.JoinedOf
import Derived.KernelRfl
set_option linter.all false
namespace Go.Proofs.YtmafhkcdhpkliaaDoor.topJackBoth
open Go
theorem zG:(Rows.topJackBothRow.lifted == Tryd.prog.liftsFinal)=true:=by kernel_rfl
theorem zH:(Tryd.prog.make == some Rows.topJackBothRow.make)=true:=by kernel_rfl
theorem zF:(Rows.topJackBothRow.plainKeys == Tryd.prog.plainKeys)=true:=by kernel_rfl
end Go.Proofs.YtmafhkcdhpkliaaDoor.topJackBoth
