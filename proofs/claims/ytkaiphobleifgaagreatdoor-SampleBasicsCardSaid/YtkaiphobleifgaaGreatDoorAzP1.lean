/- A piece of a closed call, computed. -/
import Derived.Test.YtkaiphobleifgaaGreatDoorTpQ
import Derived.Test.YtkaiphobleifgaaGreatDoorAzS1
import Derived.Test.YtkaiphobleifgaaGreatDoorAzS2
import Derived.KernelRfl
set_option linter.all false
namespace Go.Tidy
open Go Go.Proofs
namespace A14
theorem p1 (e1 e2 : TypeId) : evL Tryz.prog tpQ 99988 (part Tab.c14 12 21) a12 (h12 e1 e2) = some (a21, h21 e1 e2) := by kernel_rfl
end A14
end Go.Tidy
