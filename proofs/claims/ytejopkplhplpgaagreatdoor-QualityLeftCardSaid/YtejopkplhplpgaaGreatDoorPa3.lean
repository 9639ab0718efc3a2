/- A part of the proof. -/
import Derived.Test.YtejopkplhplpgaaGreatDoorPa1
import Derived.Test.YtejopkplhplpgaaGreatDoorTabQT
import Derived.Test.YtejopkplhplpgaaGreatDoorProg
set_option linter.all false
namespace Go.Tidy
open Go Go.Proofs
def xsQ:List (Nat × Bare):=[(207,.float64frombits),(208,.float64bits),(209,.trunc)]
def tpQ:TProg:=⟨fun k=>Tab.fns.get k,fun k=>(xsQ.lookup k).map Bare.run,fun k=>cond (Nat.beq k 201) (some 5) none,Nat.beq 181⟩
end Go.Tidy
