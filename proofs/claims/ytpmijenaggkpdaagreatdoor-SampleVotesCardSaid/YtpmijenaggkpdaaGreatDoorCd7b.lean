/- A part of the proof. -/
import Derived.Test.YtpmijenaggkpdaaGreatDoorPa5
import Derived.JoinedCond
import Derived.JoinedOf
import Derived.KernelRfl
set_option linter.all false
namespace Go.Proofs.YtpmijenaggkpdaaGreatDoor.sampleVotes
open Go
theorem zG:(Rows.sampleVotesRow.lifted == Tryz.prog.liftsFinal) = true:=by kernel_rfl
theorem zH:(Tryz.prog.make == some Rows.sampleVotesRow.make) = true:=by kernel_rfl
theorem zF:(Rows.sampleVotesRow.plainKeys == Tryz.prog.plainKeys) = true:=by kernel_rfl
end Go.Proofs.YtpmijenaggkpdaaGreatDoor.sampleVotes
