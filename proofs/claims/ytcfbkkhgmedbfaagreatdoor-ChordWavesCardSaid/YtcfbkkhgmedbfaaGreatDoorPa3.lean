/- A part of the proof. -/
import Derived.Test.YtcfbkkhgmedbfaaGreatDoorPa1
import Derived.Test.YtcfbkkhgmedbfaaGreatDoorTabQT
import Derived.Test.YtcfbkkhgmedbfaaGreatDoorProg
set_option linter.all false
namespace Go.Tidy
open Go Go.Proofs
def xsQ:List (Nat × Bare):=[(176,.float64frombits),(177,.float64bits),(178,.trunc)]
def tpQ:TProg:=⟨fun k=>Tab.fns.get k,fun k=>(xsQ.lookup k).map Bare.run,fun k=>cond (Nat.beq k 189) (some 5) none,Nat.beq 168⟩
end Go.Tidy
