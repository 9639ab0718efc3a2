/- A part of the proof. -/
import Derived.Test.YtpmijenaggkpdaaGreatDoorPa5
import Derived.JoinedCond
import Derived.JoinedOf
import Derived.KernelRfl
set_option linter.all false
namespace Go.Proofs.YtpmijenaggkpdaaGreatDoor.sampleVotes
open Go
theorem zB:(Rows.sampleVotesRow.inPlace == Tryz.prog.inPlace 7) = true:=by kernel_rfl
theorem zC:(Rows.sampleVotesRow.unfollowed == Tryz.prog.unfollowed 7) = true:=by kernel_rfl
theorem zD:(Rows.sampleVotesRow.recurses == Tryz.prog.recurses 7) = true:=by kernel_rfl
theorem zE:(Rows.sampleVotesRow.named == Tryz.prog.varsNamed 7) = true:=by kernel_rfl
end Go.Proofs.YtpmijenaggkpdaaGreatDoor.sampleVotes
