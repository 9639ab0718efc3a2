/- A part of the proof. -/
import Derived.Test.YtmafhkcdhpkliaaDoorPa1
import Derived.Test.YtmafhkcdhpkliaaDoorTabQT
import Derived.Test.YtmafhkcdhpkliaaDoorProg
set_option linter.all false
namespace Go.Tidy
open Go Go.Proofs
def xsQ:List (Nat × Bare):=[(96,.float64frombits),(97,.float64bits),(98,.trunc)]
def tpQ:TProg:=⟨fun k=>Tab.fns.get k,fun k=>(xsQ.lookup k).map Bare.run,fun _=>none,fun _=>false⟩
end Go.Tidy
