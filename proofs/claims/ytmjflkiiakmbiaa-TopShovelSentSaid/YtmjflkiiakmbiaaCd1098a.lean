/- A part of the proof. -/
import Derived.Test.YtmjflkiiakmbiaaPa4
import Derived.JoinedCond
import Derived.JoinedOf
import Derived.KernelRfl
set_option linter.all false
namespace Go.Proofs.Ytmjflkiiakmbiaa.topShovelSent
open Go
theorem zB:(Rows.topShovelSentRow.inPlace == Try.prog.inPlace 3) = true:=by kernel_rfl
theorem zC:(Rows.topShovelSentRow.unfollowed == Try.prog.unfollowed 3) = true:=by kernel_rfl
theorem zD:(Rows.topShovelSentRow.recurses == Try.prog.recurses 3) = true:=by kernel_rfl
theorem zE:(Rows.topShovelSentRow.named == Try.prog.varsNamed 3) = true:=by kernel_rfl
end Go.Proofs.Ytmjflkiiakmbiaa.topShovelSent
