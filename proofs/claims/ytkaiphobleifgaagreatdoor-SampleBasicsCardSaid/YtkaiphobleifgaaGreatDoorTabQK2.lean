/- These are the functions of the program. -/
import Derived.Test.YtkaiphobleifgaaGreatDoorTabQT
import Derived.Test.YtkaiphobleifgaaGreatDoorTd5
import Derived.Test.YtkaiphobleifgaaGreatDoorProg
import Derived.KernelRfl
set_option linter.all false
namespace Go.Tidy
open Go Go.Proofs
namespace Tab
theorem k3 : FnOk Tryz.prog gl 3 f3 := fnOk_of (by kernel_rfl) (by kernel_rfl) (by kernel_rfl)
theorem k16 : FnOk Tryz.prog gl 16 f16 := fnOk_of (by kernel_rfl) (by kernel_rfl) (by kernel_rfl)
theorem k19 : FnOk Tryz.prog gl 19 f19 := fnOk_of (by kernel_rfl) (by kernel_rfl) (by kernel_rfl)
theorem k20 : FnOk Tryz.prog gl 20 f20 := fnOk_of (by kernel_rfl) (by kernel_rfl) (by kernel_rfl)
theorem k21 : FnOk Tryz.prog gl 21 f21 := fnOk_of (by kernel_rfl) (by kernel_rfl) (by kernel_rfl)
theorem k23 : FnOk Tryz.prog gl 23 f23 := fnOk_of (by kernel_rfl) (by kernel_rfl) (by kernel_rfl)
theorem k25 : FnOk Tryz.prog gl 25 f25 := fnOk_of (by kernel_rfl) (by kernel_rfl) (by kernel_rfl)
theorem k29 : FnOk Tryz.prog gl 29 f29 := fnOk_of (by kernel_rfl) (by kernel_rfl) (by kernel_rfl)
theorem k31 : FnOk Tryz.prog gl 31 f31 := fnOk_of (by kernel_rfl) (by kernel_rfl) (by kernel_rfl)
theorem k33 : FnOk Tryz.prog gl 33 f33 := fnOk_of (by kernel_rfl) (by kernel_rfl) (by kernel_rfl)
theorem k35 : FnOk Tryz.prog gl 35 f35 := fnOk_of (by kernel_rfl) (by kernel_rfl) (by kernel_rfl)
theorem k61 : FnOk Tryz.prog gl 61 f61 := fnOk_of (by kernel_rfl) (by kernel_rfl) (by kernel_rfl)
theorem k70 : FnOk Tryz.prog gl 70 f70 := fnOk_of (by kernel_rfl) (by kernel_rfl) (by kernel_rfl)
theorem k74 : FnOk Tryz.prog gl 74 f74 := fnOk_of (by kernel_rfl) (by kernel_rfl) (by kernel_rfl)
theorem k85 : FnOk Tryz.prog gl 85 f85 := fnOk_of (by kernel_rfl) (by kernel_rfl) (by kernel_rfl)
theorem k88 : FnOk Tryz.prog gl 88 f88 := fnOk_of (by kernel_rfl) (by kernel_rfl) (by kernel_rfl)
theorem k90 : FnOk Tryz.prog gl 90 f90 := fnOk_of (by kernel_rfl) (by kernel_rfl) (by kernel_rfl)
theorem k94 : FnOk Tryz.prog gl 94 f94 := fnOk_of (by kernel_rfl) (by kernel_rfl) (by kernel_rfl)
theorem k107 : FnOk Tryz.prog gl 107 f107 := fnOk_of (by kernel_rfl) (by kernel_rfl) (by kernel_rfl)
theorem k108 : FnOk Tryz.prog gl 108 f108 := fnOk_of (by kernel_rfl) (by kernel_rfl) (by kernel_rfl)
theorem k114 : FnOk Tryz.prog gl 114 f114 := fnOk_of (by kernel_rfl) (by kernel_rfl) (by kernel_rfl)
theorem k130 : FnOk Tryz.prog gl 130 f130 := fnOk_of (by kernel_rfl) (by kernel_rfl) (by kernel_rfl)
theorem k133 : FnOk Tryz.prog gl 133 f133 := fnOk_of (by kernel_rfl) (by kernel_rfl) (by kernel_rfl)
theorem k136 : FnOk Tryz.prog gl 136 f136 := fnOk_of (by kernel_rfl) (by kernel_rfl) (by kernel_rfl)
theorem k157 : FnOk Tryz.prog gl 157 f157 := fnOk_of (by kernel_rfl) (by kernel_rfl) (by kernel_rfl)
theorem k158 : FnOk Tryz.prog gl 158 f158 := fnOk_of (by kernel_rfl) (by kernel_rfl) (by kernel_rfl)
theorem k174 : FnOk Tryz.prog gl 174 f174 := fnOk_of (by kernel_rfl) (by kernel_rfl) (by kernel_rfl)
theorem k185 : FnOk Tryz.prog gl 185 f185 := fnOk_of (by kernel_rfl) (by kernel_rfl) (by kernel_rfl)
theorem k186 : FnOk Tryz.prog gl 186 f186 := fnOk_of (by kernel_rfl) (by kernel_rfl) (by kernel_rfl)
theorem k189 : FnOk Tryz.prog gl 189 f189 := fnOk_of (by kernel_rfl) (by kernel_rfl) (by kernel_rfl)
theorem k196 : FnOk Tryz.prog gl 196 f196 := fnOk_of (by kernel_rfl) (by kernel_rfl) (by kernel_rfl)
theorem k215 : FnOk Tryz.prog gl 215 f215 := fnOk_of (by kernel_rfl) (by kernel_rfl) (by kernel_rfl)
theorem k220 : FnOk Tryz.prog gl 220 f220 := fnOk_of (by kernel_rfl) (by kernel_rfl) (by kernel_rfl)
theorem k235 : FnOk Tryz.prog gl 235 f235 := fnOk_of (by kernel_rfl) (by kernel_rfl) (by kernel_rfl)
theorem k241 : FnOk Tryz.prog gl 241 f241 := fnOk_of (by kernel_rfl) (by kernel_rfl) (by kernel_rfl)
end Tab
end Go.Tidy
