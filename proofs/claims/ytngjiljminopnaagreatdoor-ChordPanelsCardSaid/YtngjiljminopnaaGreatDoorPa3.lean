/- A part of the proof. -/
import Derived.Test.YtngjiljminopnaaGreatDoorPa1
import Derived.Test.YtngjiljminopnaaGreatDoorTabQT
import Derived.Test.YtngjiljminopnaaGreatDoorProg
set_option linter.all false
namespace Go.Tidy
open Go Go.Proofs
def xsQ:List (Nat × Bare):=[(193,.float64frombits),(194,.float64bits),(195,.trunc)]
def tpQ:TProg:=⟨fun k=>Tab.fns.get k,fun k=>(xsQ.lookup k).map Bare.run,fun k=>cond (Nat.beq k 206) (some 5) none,Nat.beq 185⟩
end Go.Tidy
