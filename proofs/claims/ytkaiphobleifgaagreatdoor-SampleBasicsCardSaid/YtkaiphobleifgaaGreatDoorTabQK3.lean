/- These are the functions of the program. -/
import Derived.Test.YtkaiphobleifgaaGreatDoorTabQT
import Derived.Test.YtkaiphobleifgaaGreatDoorTd5
import Derived.Test.YtkaiphobleifgaaGreatDoorProg
import Derived.KernelRfl
set_option linter.all false
namespace Go.Tidy
open Go Go.Proofs
namespace Tab
theorem k15 : FnOk Tryz.prog gl 15 f15 := fnOk_of (by kernel_rfl) (by kernel_rfl) (by kernel_rfl)
theorem k17 : FnOk Tryz.prog gl 17 f17 := fnOk_of (by kernel_rfl) (by kernel_rfl) (by kernel_rfl)
theorem k24 : FnOk Tryz.prog gl 24 f24 := fnOk_of (by kernel_rfl) (by kernel_rfl) (by kernel_rfl)
theorem k32 : FnOk Tryz.prog gl 32 f32 := fnOk_of (by kernel_rfl) (by kernel_rfl) (by kernel_rfl)
theorem k44 : FnOk Tryz.prog gl 44 f44 := fnOk_of (by kernel_rfl) (by kernel_rfl) (by kernel_rfl)
theorem k47 : FnOk Tryz.prog gl 47 f47 := fnOk_of (by kernel_rfl) (by kernel_rfl) (by kernel_rfl)
theorem k48 : FnOk Tryz.prog gl 48 f48 := fnOk_of (by kernel_rfl) (by kernel_rfl) (by kernel_rfl)
theorem k56 : FnOk Tryz.prog gl 56 f56 := fnOk_of (by kernel_rfl) (by kernel_rfl) (by kernel_rfl)
theorem k63 : FnOk Tryz.prog gl 63 f63 := fnOk_of (by kernel_rfl) (by kernel_rfl) (by kernel_rfl)
theorem k78 : FnOk Tryz.prog gl 78 f78 := fnOk_of (by kernel_rfl) (by kernel_rfl) (by kernel_rfl)
theorem k82 : FnOk Tryz.prog gl 82 f82 := fnOk_of (by kernel_rfl) (by kernel_rfl) (by kernel_rfl)
theorem k87 : FnOk Tryz.prog gl 87 f87 := fnOk_of (by kernel_rfl) (by kernel_rfl) (by kernel_rfl)
theorem k89 : FnOk Tryz.prog gl 89 f89 := fnOk_of (by kernel_rfl) (by kernel_rfl) (by kernel_rfl)
theorem k91 : FnOk Tryz.prog gl 91 f91 := fnOk_of (by kernel_rfl) (by kernel_rfl) (by kernel_rfl)
theorem k92 : FnOk Tryz.prog gl 92 f92 := fnOk_of (by kernel_rfl) (by kernel_rfl) (by kernel_rfl)
theorem k97 : FnOk Tryz.prog gl 97 f97 := fnOk_of (by kernel_rfl) (by kernel_rfl) (by kernel_rfl)
theorem k120 : FnOk Tryz.prog gl 120 f120 := fnOk_of (by kernel_rfl) (by kernel_rfl) (by kernel_rfl)
theorem k129 : FnOk Tryz.prog gl 129 f129 := fnOk_of (by kernel_rfl) (by kernel_rfl) (by kernel_rfl)
theorem k131 : FnOk Tryz.prog gl 131 f131 := fnOk_of (by kernel_rfl) (by kernel_rfl) (by kernel_rfl)
theorem k137 : FnOk Tryz.prog gl 137 f137 := fnOk_of (by kernel_rfl) (by kernel_rfl) (by kernel_rfl)
theorem k138 : FnOk Tryz.prog gl 138 f138 := fnOk_of (by kernel_rfl) (by kernel_rfl) (by kernel_rfl)
theorem k155 : FnOk Tryz.prog gl 155 f155 := fnOk_of (by kernel_rfl) (by kernel_rfl) (by kernel_rfl)
theorem k171 : FnOk Tryz.prog gl 171 f171 := fnOk_of (by kernel_rfl) (by kernel_rfl) (by kernel_rfl)
theorem k172 : FnOk Tryz.prog gl 172 f172 := fnOk_of (by kernel_rfl) (by kernel_rfl) (by kernel_rfl)
theorem k179 : FnOk Tryz.prog gl 179 f179 := fnOk_of (by kernel_rfl) (by kernel_rfl) (by kernel_rfl)
theorem k183 : FnOk Tryz.prog gl 183 f183 := fnOk_of (by kernel_rfl) (by kernel_rfl) (by kernel_rfl)
theorem k184 : FnOk Tryz.prog gl 184 f184 := fnOk_of (by kernel_rfl) (by kernel_rfl) (by kernel_rfl)
theorem k187 : FnOk Tryz.prog gl 187 f187 := fnOk_of (by kernel_rfl) (by kernel_rfl) (by kernel_rfl)
theorem k193 : FnOk Tryz.prog gl 193 f193 := fnOk_of (by kernel_rfl) (by kernel_rfl) (by kernel_rfl)
theorem k194 : FnOk Tryz.prog gl 194 f194 := fnOk_of (by kernel_rfl) (by kernel_rfl) (by kernel_rfl)
theorem k195 : FnOk Tryz.prog gl 195 f195 := fnOk_of (by kernel_rfl) (by kernel_rfl) (by kernel_rfl)
theorem k217 : FnOk Tryz.prog gl 217 f217 := fnOk_of (by kernel_rfl) (by kernel_rfl) (by kernel_rfl)
theorem k239 : FnOk Tryz.prog gl 239 f239 := fnOk_of (by kernel_rfl) (by kernel_rfl) (by kernel_rfl)
theorem k240 : FnOk Tryz.prog gl 240 f240 := fnOk_of (by kernel_rfl) (by kernel_rfl) (by kernel_rfl)
end Tab
end Go.Tidy
