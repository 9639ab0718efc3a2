/- A part of the proof. -/
import Derived.Test.YtjibbhaeaikhpaaGreatDoorPa3
import Derived.KernelRfl
set_option linter.all false
namespace Go.Tidy
open Go Go.Proofs
namespace A11
theorem p0 (e1 e2:TypeId):evL Tryz.prog tpQ 100000 (part Tab.c11 0 14) a0 (h0 e1 e2) = some (a14,h14 e1 e2):=by kernel_rfl
end A11
end Go.Tidy
