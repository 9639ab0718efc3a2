/- The program, as the plain interpreter takes it. -/
import Derived.Test.YtkaiphobleifgaaGreatDoorTd5
import Derived.Test.YtkaiphobleifgaaGreatDoorTabQT
import Derived.Test.YtkaiphobleifgaaGreatDoorProg
set_option linter.all false
namespace Go.Tidy
open Go Go.Proofs
def xsQ : List (Nat × Bare) := [(144, .float32frombits), (188, .float32bits), (209, .float64frombits), (210, .float64bits), (211, .trunc)]
def tpQ : TProg := ⟨fun k => Tab.fns.get k, fun k => (xsQ.lookup k).map Bare.run, fun k => cond (Nat.beq k 256) (some 5) none, Nat.beq 218⟩
end Go.Tidy
