/- A part of the proof. -/
import Derived.Test.YtmafhkcdhpkliaaDoorPa4
import Derived.JoinedCond
import Derived.JoinedOf
import Derived.KernelRfl
set_option linter.all false
namespace Go.Proofs.YtmafhkcdhpkliaaDoor.topJackBoth
open Go
theorem zB:(Rows.topJackBothRow.inPlace == Tryd.prog.inPlace 3)=true:=by kernel_rfl
theorem zC:(Rows.topJackBothRow.unfollowed == Tryd.prog.unfollowed 3)=true:=by kernel_rfl
theorem zD:(Rows.topJackBothRow.recurses == Tryd.prog.recurses 3)=true:=by kernel_rfl
theorem zE:(Rows.topJackBothRow.named == Tryd.prog.varsNamed 3)=true:=by kernel_rfl
end Go.Proofs.YtmafhkcdhpkliaaDoor.topJackBoth
