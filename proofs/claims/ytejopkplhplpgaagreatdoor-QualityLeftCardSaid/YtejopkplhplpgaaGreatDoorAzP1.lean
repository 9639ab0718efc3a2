/- A part of the proof. -/
import Derived.Test.YtejopkplhplpgaaGreatDoorPa3
import Derived.Test.YtejopkplhplpgaaGreatDoorPa4
import Derived.Test.YtejopkplhplpgaaGreatDoorPa5
import Derived.KernelRfl
set_option linter.all false
namespace Go.Tidy
open Go Go.Proofs
namespace A12
set_option maxRecDepth 100000 in
theorem p1 (e1 e2:TypeId):evL Tryz.prog tpQ 99988 (part Tab.c1592 12 17) a12 (h12 e1 e2)=some (a17,h17 e1 e2):=by kernel_rfl
end A12
end Go.Tidy
