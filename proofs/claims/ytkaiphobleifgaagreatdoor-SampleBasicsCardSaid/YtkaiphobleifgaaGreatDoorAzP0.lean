/- A piece of a closed call, computed. -/
import Derived.Test.YtkaiphobleifgaaGreatDoorTpQ
import Derived.Test.YtkaiphobleifgaaGreatDoorAzS0
import Derived.Test.YtkaiphobleifgaaGreatDoorAzS1
import Derived.KernelRfl
set_option linter.all false
namespace Go.Tidy
open Go Go.Proofs
namespace A14
theorem p0 (e1 e2 : TypeId) : evL Tryz.prog tpQ 100000 (part Tab.c14 0 12) a0 (h0 e1 e2) = some (a12, h12 e1 e2) := by kernel_rfl
end A14
end Go.Tidy
