/- A part of the proof. -/
import Derived.Test.YtmlckgmocdmgiaaGreatDoorTabQT
import Derived.Test.YtmlckgmocdmgiaaGreatDoorPa1
import Derived.Test.YtmlckgmocdmgiaaGreatDoorProg
import Derived.KernelRfl
set_option linter.all false
namespace Go.Tidy
open Go Go.Proofs
namespace Tab
theorem k3 : FnOk Tryz.prog gl 3 f3 := fnOk_of (by kernel_rfl) (by kernel_rfl) (by kernel_rfl)
theorem k4 : FnOk Tryz.prog gl 4 f4 := fnOk_of (by kernel_rfl) (by kernel_rfl) (by kernel_rfl)
theorem k8 : FnOk Tryz.prog gl 8 f8 := fnOk_of (by kernel_rfl) (by kernel_rfl) (by kernel_rfl)
theorem k19 : FnOk Tryz.prog gl 19 f19 := fnOk_of (by kernel_rfl) (by kernel_rfl) (by kernel_rfl)
theorem k22 : FnOk Tryz.prog gl 22 f22 := fnOk_of (by kernel_rfl) (by kernel_rfl) (by kernel_rfl)
theorem k30 : FnOk Tryz.prog gl 30 f30 := fnOk_of (by kernel_rfl) (by kernel_rfl) (by kernel_rfl)
theorem k31 : FnOk Tryz.prog gl 31 f31 := fnOk_of (by kernel_rfl) (by kernel_rfl) (by kernel_rfl)
theorem k32 : FnOk Tryz.prog gl 32 f32 := fnOk_of (by kernel_rfl) (by kernel_rfl) (by kernel_rfl)
theorem k41 : FnOk Tryz.prog gl 41 f41 := fnOk_of (by kernel_rfl) (by kernel_rfl) (by kernel_rfl)
theorem k43 : FnOk Tryz.prog gl 43 f43 := fnOk_of (by kernel_rfl) (by kernel_rfl) (by kernel_rfl)
theorem k47 : FnOk Tryz.prog gl 47 f47 := fnOk_of (by kernel_rfl) (by kernel_rfl) (by kernel_rfl)
theorem k61 : FnOk Tryz.prog gl 61 f61 := fnOk_of (by kernel_rfl) (by kernel_rfl) (by kernel_rfl)
theorem k68 : FnOk Tryz.prog gl 68 f68 := fnOk_of (by kernel_rfl) (by kernel_rfl) (by kernel_rfl)
theorem k70 : FnOk Tryz.prog gl 70 f70 := fnOk_of (by kernel_rfl) (by kernel_rfl) (by kernel_rfl)
theorem k72 : FnOk Tryz.prog gl 72 f72 := fnOk_of (by kernel_rfl) (by kernel_rfl) (by kernel_rfl)
theorem k75 : FnOk Tryz.prog gl 75 f75 := fnOk_of (by kernel_rfl) (by kernel_rfl) (by kernel_rfl)
theorem k78 : FnOk Tryz.prog gl 78 f78 := fnOk_of (by kernel_rfl) (by kernel_rfl) (by kernel_rfl)
theorem k85 : FnOk Tryz.prog gl 85 f85 := fnOk_of (by kernel_rfl) (by kernel_rfl) (by kernel_rfl)
theorem k96 : FnOk Tryz.prog gl 96 f96 := fnOk_of (by kernel_rfl) (by kernel_rfl) (by kernel_rfl)
theorem k102 : FnOk Tryz.prog gl 102 f102 := fnOk_of (by kernel_rfl) (by kernel_rfl) (by kernel_rfl)
theorem k103 : FnOk Tryz.prog gl 103 f103 := fnOk_of (by kernel_rfl) (by kernel_rfl) (by kernel_rfl)
theorem k104 : FnOk Tryz.prog gl 104 f104 := fnOk_of (by kernel_rfl) (by kernel_rfl) (by kernel_rfl)
theorem k109 : FnOk Tryz.prog gl 109 f109 := fnOk_of (by kernel_rfl) (by kernel_rfl) (by kernel_rfl)
theorem k112 : FnOk Tryz.prog gl 112 f112 := fnOk_of (by kernel_rfl) (by kernel_rfl) (by kernel_rfl)
theorem k115 : FnOk Tryz.prog gl 115 f115 := fnOk_of (by kernel_rfl) (by kernel_rfl) (by kernel_rfl)
theorem k129 : FnOk Tryz.prog gl 129 f129 := fnOk_of (by kernel_rfl) (by kernel_rfl) (by kernel_rfl)
theorem k132 : FnOk Tryz.prog gl 132 f132 := fnOk_of (by kernel_rfl) (by kernel_rfl) (by kernel_rfl)
theorem k135 : FnOk Tryz.prog gl 135 f135 := fnOk_of (by kernel_rfl) (by kernel_rfl) (by kernel_rfl)
theorem k138 : FnOk Tryz.prog gl 138 f138 := fnOk_of (by kernel_rfl) (by kernel_rfl) (by kernel_rfl)
theorem k141 : FnOk Tryz.prog gl 141 f141 := fnOk_of (by kernel_rfl) (by kernel_rfl) (by kernel_rfl)
theorem k142 : FnOk Tryz.prog gl 142 f142 := fnOk_of (by kernel_rfl) (by kernel_rfl) (by kernel_rfl)
theorem k149 : FnOk Tryz.prog gl 149 f149 := fnOk_of (by kernel_rfl) (by kernel_rfl) (by kernel_rfl)
theorem k152 : FnOk Tryz.prog gl 152 f152 := fnOk_of (by kernel_rfl) (by kernel_rfl) (by kernel_rfl)
theorem k155 : FnOk Tryz.prog gl 155 f155 := fnOk_of (by kernel_rfl) (by kernel_rfl) (by kernel_rfl)
theorem k156 : FnOk Tryz.prog gl 156 f156 := fnOk_of (by kernel_rfl) (by kernel_rfl) (by kernel_rfl)
theorem k157 : FnOk Tryz.prog gl 157 f157 := fnOk_of (by kernel_rfl) (by kernel_rfl) (by kernel_rfl)
theorem k158 : FnOk Tryz.prog gl 158 f158 := fnOk_of (by kernel_rfl) (by kernel_rfl) (by kernel_rfl)
theorem k190 : FnOk Tryz.prog gl 190 f190 := fnOk_of (by kernel_rfl) (by kernel_rfl) (by kernel_rfl)
theorem k200 : FnOk Tryz.prog gl 200 f200 := fnOk_of (by kernel_rfl) (by kernel_rfl) (by kernel_rfl)
theorem k201 : FnOk Tryz.prog gl 201 f201 := fnOk_of (by kernel_rfl) (by kernel_rfl) (by kernel_rfl)
end Tab
end Go.Tidy
