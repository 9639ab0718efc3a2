/- A part of the proof. -/
import Derived.Test.YtpmijenaggkpdaaGreatPa4
import Derived.JoinedCond
import Derived.JoinedOf
import Derived.KernelRfl
set_option linter.all false
namespace Go.Proofs.YtpmijenaggkpdaaGreat.topShovelVoted
open Go
theorem zB:(Rows.topShovelVotedRow.inPlace == Tryz.prog.inPlace 3) = true:=by kernel_rfl
theorem zC:(Rows.topShovelVotedRow.unfollowed == Tryz.prog.unfollowed 3) = true:=by kernel_rfl
theorem zD:(Rows.topShovelVotedRow.recurses == Tryz.prog.recurses 3) = true:=by kernel_rfl
theorem zE:(Rows.topShovelVotedRow.named == Tryz.prog.varsNamed 3) = true:=by kernel_rfl
end Go.Proofs.YtpmijenaggkpdaaGreat.topShovelVoted
