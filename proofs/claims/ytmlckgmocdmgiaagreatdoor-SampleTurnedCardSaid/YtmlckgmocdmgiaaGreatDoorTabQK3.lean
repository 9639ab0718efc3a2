/- A part of the proof. -/
import Derived.Test.YtmlckgmocdmgiaaGreatDoorTabQT
import Derived.Test.YtmlckgmocdmgiaaGreatDoorPa1
import Derived.Test.YtmlckgmocdmgiaaGreatDoorProg
import Derived.KernelRfl
set_option linter.all false
namespace Go.Tidy
open Go Go.Proofs
namespace Tab
theorem k4 : FnOk Tryz.prog gl 4 f4 := fnOk_of (by kernel_rfl) (by kernel_rfl) (by kernel_rfl)
theorem k5 : FnOk Tryz.prog gl 5 f5 := fnOk_of (by kernel_rfl) (by kernel_rfl) (by kernel_rfl)
theorem k6 : FnOk Tryz.prog gl 6 f6 := fnOk_of (by kernel_rfl) (by kernel_rfl) (by kernel_rfl)
theorem k12 : FnOk Tryz.prog gl 12 f12 := fnOk_of (by kernel_rfl) (by kernel_rfl) (by kernel_rfl)
theorem k13 : FnOk Tryz.prog gl 13 f13 := fnOk_of (by kernel_rfl) (by kernel_rfl) (by kernel_rfl)
theorem k17 : FnOk Tryz.prog gl 17 f17 := fnOk_of (by kernel_rfl) (by kernel_rfl) (by kernel_rfl)
theorem k44 : FnOk Tryz.prog gl 44 f44 := fnOk_of (by kernel_rfl) (by kernel_rfl) (by kernel_rfl)
theorem k53 : FnOk Tryz.prog gl 53 f53 := fnOk_of (by kernel_rfl) (by kernel_rfl) (by kernel_rfl)
theorem k59 : FnOk Tryz.prog gl 59 f59 := fnOk_of (by kernel_rfl) (by kernel_rfl) (by kernel_rfl)
theorem k67 : FnOk Tryz.prog gl 67 f67 := fnOk_of (by kernel_rfl) (by kernel_rfl) (by kernel_rfl)
theorem k69 : FnOk Tryz.prog gl 69 f69 := fnOk_of (by kernel_rfl) (by kernel_rfl) (by kernel_rfl)
theorem k74 : FnOk Tryz.prog gl 74 f74 := fnOk_of (by kernel_rfl) (by kernel_rfl) (by kernel_rfl)
theorem k75 : FnOk Tryz.prog gl 75 f75 := fnOk_of (by kernel_rfl) (by kernel_rfl) (by kernel_rfl)
theorem k76 : FnOk Tryz.prog gl 76 f76 := fnOk_of (by kernel_rfl) (by kernel_rfl) (by kernel_rfl)
theorem k82 : FnOk Tryz.prog gl 82 f82 := fnOk_of (by kernel_rfl) (by kernel_rfl) (by kernel_rfl)
theorem k84 : FnOk Tryz.prog gl 84 f84 := fnOk_of (by kernel_rfl) (by kernel_rfl) (by kernel_rfl)
theorem k85 : FnOk Tryz.prog gl 85 f85 := fnOk_of (by kernel_rfl) (by kernel_rfl) (by kernel_rfl)
theorem k89 : FnOk Tryz.prog gl 89 f89 := fnOk_of (by kernel_rfl) (by kernel_rfl) (by kernel_rfl)
theorem k94 : FnOk Tryz.prog gl 94 f94 := fnOk_of (by kernel_rfl) (by kernel_rfl) (by kernel_rfl)
theorem k102 : FnOk Tryz.prog gl 102 f102 := fnOk_of (by kernel_rfl) (by kernel_rfl) (by kernel_rfl)
theorem k104 : FnOk Tryz.prog gl 104 f104 := fnOk_of (by kernel_rfl) (by kernel_rfl) (by kernel_rfl)
theorem k105 : FnOk Tryz.prog gl 105 f105 := fnOk_of (by kernel_rfl) (by kernel_rfl) (by kernel_rfl)
theorem k121 : FnOk Tryz.prog gl 121 f121 := fnOk_of (by kernel_rfl) (by kernel_rfl) (by kernel_rfl)
theorem k124 : FnOk Tryz.prog gl 124 f124 := fnOk_of (by kernel_rfl) (by kernel_rfl) (by kernel_rfl)
theorem k127 : FnOk Tryz.prog gl 127 f127 := fnOk_of (by kernel_rfl) (by kernel_rfl) (by kernel_rfl)
theorem k130 : FnOk Tryz.prog gl 130 f130 := fnOk_of (by kernel_rfl) (by kernel_rfl) (by kernel_rfl)
theorem k132 : FnOk Tryz.prog gl 132 f132 := fnOk_of (by kernel_rfl) (by kernel_rfl) (by kernel_rfl)
theorem k138 : FnOk Tryz.prog gl 138 f138 := fnOk_of (by kernel_rfl) (by kernel_rfl) (by kernel_rfl)
theorem k141 : FnOk Tryz.prog gl 141 f141 := fnOk_of (by kernel_rfl) (by kernel_rfl) (by kernel_rfl)
theorem k142 : FnOk Tryz.prog gl 142 f142 := fnOk_of (by kernel_rfl) (by kernel_rfl) (by kernel_rfl)
theorem k145 : FnOk Tryz.prog gl 145 f145 := fnOk_of (by kernel_rfl) (by kernel_rfl) (by kernel_rfl)
theorem k146 : FnOk Tryz.prog gl 146 f146 := fnOk_of (by kernel_rfl) (by kernel_rfl) (by kernel_rfl)
theorem k151 : FnOk Tryz.prog gl 151 f151 := fnOk_of (by kernel_rfl) (by kernel_rfl) (by kernel_rfl)
theorem k152 : FnOk Tryz.prog gl 152 f152 := fnOk_of (by kernel_rfl) (by kernel_rfl) (by kernel_rfl)
theorem k154 : FnOk Tryz.prog gl 154 f154 := fnOk_of (by kernel_rfl) (by kernel_rfl) (by kernel_rfl)
theorem k165 : FnOk Tryz.prog gl 165 f165 := fnOk_of (by kernel_rfl) (by kernel_rfl) (by kernel_rfl)
theorem k169 : FnOk Tryz.prog gl 169 f169 := fnOk_of (by kernel_rfl) (by kernel_rfl) (by kernel_rfl)
end Tab
end Go.Tidy
