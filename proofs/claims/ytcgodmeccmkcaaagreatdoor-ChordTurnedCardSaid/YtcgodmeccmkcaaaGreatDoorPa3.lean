/- A part of the proof. -/
import Derived.Test.YtcgodmeccmkcaaaGreatDoorPa1
import Derived.Test.YtcgodmeccmkcaaaGreatDoorTabQT
import Derived.Test.YtcgodmeccmkcaaaGreatDoorProg
set_option linter.all false
namespace Go.Tidy
open Go Go.Proofs
def xsQ:List (Nat × Bare):=[(187,.float64frombits),(188,.float64bits),(189,.trunc)]
def tpQ:TProg:=⟨fun k => Tab.fns.get k,fun k => (xsQ.lookup k).map Bare.run,fun k => cond (Nat.beq k 181) (some 5) none,Nat.beq 163⟩
end Go.Tidy
