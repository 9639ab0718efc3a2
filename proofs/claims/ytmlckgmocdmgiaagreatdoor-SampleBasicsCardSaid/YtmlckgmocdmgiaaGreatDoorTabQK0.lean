/- A part of the proof. -/
import Derived.Test.YtmlckgmocdmgiaaGreatDoorTabQT
import Derived.Test.YtmlckgmocdmgiaaGreatDoorPa1
import Derived.Test.YtmlckgmocdmgiaaGreatDoorProg
import Derived.KernelRfl
set_option linter.all false
namespace Go.Tidy
open Go Go.Proofs
namespace Tab
theorem k3 : FnOk Tryz.prog gl 3 f3 := fnOk_of (by kernel_rfl) (by kernel_rfl) (by kernel_rfl)
theorem k6 : FnOk Tryz.prog gl 6 f6 := fnOk_of (by kernel_rfl) (by kernel_rfl) (by kernel_rfl)
theorem k11 : FnOk Tryz.prog gl 11 f11 := fnOk_of (by kernel_rfl) (by kernel_rfl) (by kernel_rfl)
theorem k12 : FnOk Tryz.prog gl 12 f12 := fnOk_of (by kernel_rfl) (by kernel_rfl) (by kernel_rfl)
theorem k14 : FnOk Tryz.prog gl 14 f14 := fnOk_of (by kernel_rfl) (by kernel_rfl) (by kernel_rfl)
theorem k20 : FnOk Tryz.prog gl 20 f20 := fnOk_of (by kernel_rfl) (by kernel_rfl) (by kernel_rfl)
theorem k21 : FnOk Tryz.prog gl 21 f21 := fnOk_of (by kernel_rfl) (by kernel_rfl) (by kernel_rfl)
theorem k22 : FnOk Tryz.prog gl 22 f22 := fnOk_of (by kernel_rfl) (by kernel_rfl) (by kernel_rfl)
theorem k27 : FnOk Tryz.prog gl 27 f27 := fnOk_of (by kernel_rfl) (by kernel_rfl) (by kernel_rfl)
theorem k30 : FnOk Tryz.prog gl 30 f30 := fnOk_of (by kernel_rfl) (by kernel_rfl) (by kernel_rfl)
theorem k41 : FnOk Tryz.prog gl 41 f41 := fnOk_of (by kernel_rfl) (by kernel_rfl) (by kernel_rfl)
theorem k58 : FnOk Tryz.prog gl 58 f58 := fnOk_of (by kernel_rfl) (by kernel_rfl) (by kernel_rfl)
theorem k61 : FnOk Tryz.prog gl 61 f61 := fnOk_of (by kernel_rfl) (by kernel_rfl) (by kernel_rfl)
theorem k66 : FnOk Tryz.prog gl 66 f66 := fnOk_of (by kernel_rfl) (by kernel_rfl) (by kernel_rfl)
theorem k75 : FnOk Tryz.prog gl 75 f75 := fnOk_of (by kernel_rfl) (by kernel_rfl) (by kernel_rfl)
theorem k81 : FnOk Tryz.prog gl 81 f81 := fnOk_of (by kernel_rfl) (by kernel_rfl) (by kernel_rfl)
theorem k102 : FnOk Tryz.prog gl 102 f102 := fnOk_of (by kernel_rfl) (by kernel_rfl) (by kernel_rfl)
theorem k105 : FnOk Tryz.prog gl 105 f105 := fnOk_of (by kernel_rfl) (by kernel_rfl) (by kernel_rfl)
theorem k108 : FnOk Tryz.prog gl 108 f108 := fnOk_of (by kernel_rfl) (by kernel_rfl) (by kernel_rfl)
theorem k118 : FnOk Tryz.prog gl 118 f118 := fnOk_of (by kernel_rfl) (by kernel_rfl) (by kernel_rfl)
theorem k123 : FnOk Tryz.prog gl 123 f123 := fnOk_of (by kernel_rfl) (by kernel_rfl) (by kernel_rfl)
theorem k125 : FnOk Tryz.prog gl 125 f125 := fnOk_of (by kernel_rfl) (by kernel_rfl) (by kernel_rfl)
theorem k126 : FnOk Tryz.prog gl 126 f126 := fnOk_of (by kernel_rfl) (by kernel_rfl) (by kernel_rfl)
theorem k134 : FnOk Tryz.prog gl 134 f134 := fnOk_of (by kernel_rfl) (by kernel_rfl) (by kernel_rfl)
theorem k137 : FnOk Tryz.prog gl 137 f137 := fnOk_of (by kernel_rfl) (by kernel_rfl) (by kernel_rfl)
theorem k146 : FnOk Tryz.prog gl 146 f146 := fnOk_of (by kernel_rfl) (by kernel_rfl) (by kernel_rfl)
theorem k149 : FnOk Tryz.prog gl 149 f149 := fnOk_of (by kernel_rfl) (by kernel_rfl) (by kernel_rfl)
theorem k154 : FnOk Tryz.prog gl 154 f154 := fnOk_of (by kernel_rfl) (by kernel_rfl) (by kernel_rfl)
theorem k158 : FnOk Tryz.prog gl 158 f158 := fnOk_of (by kernel_rfl) (by kernel_rfl) (by kernel_rfl)
theorem k160 : FnOk Tryz.prog gl 160 f160 := fnOk_of (by kernel_rfl) (by kernel_rfl) (by kernel_rfl)
theorem k166 : FnOk Tryz.prog gl 166 f166 := fnOk_of (by kernel_rfl) (by kernel_rfl) (by kernel_rfl)
theorem k169 : FnOk Tryz.prog gl 169 f169 := fnOk_of (by kernel_rfl) (by kernel_rfl) (by kernel_rfl)
theorem k170 : FnOk Tryz.prog gl 170 f170 := fnOk_of (by kernel_rfl) (by kernel_rfl) (by kernel_rfl)
end Tab
end Go.Tidy
