/- A part of the proof. -/
import Derived.Test.YtpmijenaggkpdaaGreatPa4
import Derived.JoinedCond
import Derived.JoinedOf
import Derived.KernelRfl
set_option linter.all false
namespace Go.Proofs.YtpmijenaggkpdaaGreat.topShovelVoted
open Go
theorem zG:(Rows.topShovelVotedRow.lifted == Tryz.prog.liftsFinal) = true:=by kernel_rfl
theorem zH:(Tryz.prog.make == some Rows.topShovelVotedRow.make) = true:=by kernel_rfl
theorem zF:(Rows.topShovelVotedRow.plainKeys == Tryz.prog.plainKeys) = true:=by kernel_rfl
end Go.Proofs.YtpmijenaggkpdaaGreat.topShovelVoted
