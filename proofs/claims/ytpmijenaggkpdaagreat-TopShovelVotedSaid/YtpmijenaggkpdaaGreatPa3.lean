/- A part of the proof. -/
import Derived.Test.YtpmijenaggkpdaaGreatPa1
import Derived.Test.YtpmijenaggkpdaaGreatTabQT
import Derived.Test.YtpmijenaggkpdaaGreatProg
set_option linter.all false
namespace Go.Tidy
open Go Go.Proofs
def xsQ:List (Nat × Bare):=[(92,.float64frombits),(93,.float64bits),(94,.trunc)]
def tpQ:TProg:=⟨fun k => Tab.fns.get k,fun k => (xsQ.lookup k).map Bare.run,fun _ => none,fun _ => false⟩
end Go.Tidy
