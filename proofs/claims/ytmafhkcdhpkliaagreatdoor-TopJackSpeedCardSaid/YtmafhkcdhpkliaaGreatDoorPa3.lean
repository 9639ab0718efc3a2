/- A part of the proof. -/
import Derived.Test.YtmafhkcdhpkliaaGreatDoorPa1
import Derived.Test.YtmafhkcdhpkliaaGreatDoorTabQT
import Derived.Test.YtmafhkcdhpkliaaGreatDoorProg
set_option linter.all false
namespace Go.Tidy
open Go Go.Proofs
def xsQ:List (Nat × Bare):=[(246,.float64frombits),(247,.float64bits),(248,.trunc)]
def tpQ:TProg:=⟨fun k=>Tab.fns.get k,fun k=>(xsQ.lookup k).map Bare.run,fun k=>cond (Nat.beq k 272) (some 5) none,Nat.beq 212⟩
end Go.Tidy
