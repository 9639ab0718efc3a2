/- A part of the proof. -/
import Derived.Test.YtejopkplhplpgaaGreatDoorPa3
import Derived.Test.YtejopkplhplpgaaGreatDoorPa4
import Derived.KernelRfl
set_option linter.all false
namespace Go.Tidy
open Go Go.Proofs
namespace A12
set_option maxRecDepth 100000 in
theorem p0 (e1 e2:TypeId):evL Tryz.prog tpQ 100000 (part Tab.c1592 0 12) a0 (h0 e1 e2)=some (a12,h12 e1 e2):=by kernel_rfl
end A12
end Go.Tidy
