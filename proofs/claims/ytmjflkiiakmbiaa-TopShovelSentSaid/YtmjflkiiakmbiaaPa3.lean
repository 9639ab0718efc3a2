/- A part of the proof. -/
import Derived.Test.YtmjflkiiakmbiaaPa1
import Derived.Test.YtmjflkiiakmbiaaTabQT
import Derived.Test.YtmjflkiiakmbiaaProg
set_option linter.all false
namespace Go.Tidy
open Go Go.Proofs
def xsQ:List (Nat × Bare):=[(81,.float32frombits),(67,.float32bits),(87,.float64frombits),(88,.float64bits),(89,.trunc)]
def tpQ:TProg:=⟨fun k => Tab.fns.get k,fun k => (xsQ.lookup k).map Bare.run,fun _ => none,fun _ => false⟩
end Go.Tidy
