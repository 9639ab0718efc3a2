/- A part of the proof. -/
import Derived.Test.YtmjflkiiakmbiaaPa4
import Derived.JoinedCond
import Derived.JoinedOf
import Derived.KernelRfl
set_option linter.all false
namespace Go.Proofs.Ytmjflkiiakmbiaa.topShovelSent
open Go
theorem zG:(Rows.topShovelSentRow.lifted == Try.prog.liftsFinal) = true:=by kernel_rfl
theorem zH:(Try.prog.make == some Rows.topShovelSentRow.make) = true:=by kernel_rfl
theorem zF:(Rows.topShovelSentRow.plainKeys == Try.prog.plainKeys) = true:=by kernel_rfl
end Go.Proofs.Ytmjflkiiakmbiaa.topShovelSent
