/- A part of the proof. -/
import Derived.Test.YtadfeepajmngiaaGreatDoorPa1
import Derived.Test.YtadfeepajmngiaaGreatDoorTabQT
import Derived.Test.YtadfeepajmngiaaGreatDoorProg
set_option linter.all false
namespace Go.Tidy
open Go Go.Proofs
def xsQ:List (Nat × Bare):=[(235,.float64frombits),(236,.float64bits),(237,.trunc)]
def tpQ:TProg:=⟨fun k=>Tab.fns.get k,fun k=>(xsQ.lookup k).map Bare.run,fun k=>cond (Nat.beq k 229) (some 5) none,Nat.beq 209⟩
end Go.Tidy
