/- These are the functions of the program. -/
import Derived.Test.YtkaiphobleifgaaGreatDoorTabQT
import Derived.Test.YtkaiphobleifgaaGreatDoorTd5
import Derived.Test.YtkaiphobleifgaaGreatDoorProg
import Derived.KernelRfl
set_option linter.all false
namespace Go.Tidy
open Go Go.Proofs
namespace Tab
theorem k18 : FnOk Tryz.prog gl 18 f18 := fnOk_of (by kernel_rfl) (by kernel_rfl) (by kernel_rfl)
theorem k22 : FnOk Tryz.prog gl 22 f22 := fnOk_of (by kernel_rfl) (by kernel_rfl) (by kernel_rfl)
theorem k27 : FnOk Tryz.prog gl 27 f27 := fnOk_of (by kernel_rfl) (by kernel_rfl) (by kernel_rfl)
theorem k52 : FnOk Tryz.prog gl 52 f52 := fnOk_of (by kernel_rfl) (by kernel_rfl) (by kernel_rfl)
theorem k62 : FnOk Tryz.prog gl 62 f62 := fnOk_of (by kernel_rfl) (by kernel_rfl) (by kernel_rfl)
theorem k83 : FnOk Tryz.prog gl 83 f83 := fnOk_of (by kernel_rfl) (by kernel_rfl) (by kernel_rfl)
theorem k93 : FnOk Tryz.prog gl 93 f93 := fnOk_of (by kernel_rfl) (by kernel_rfl) (by kernel_rfl)
theorem k95 : FnOk Tryz.prog gl 95 f95 := fnOk_of (by kernel_rfl) (by kernel_rfl) (by kernel_rfl)
theorem k98 : FnOk Tryz.prog gl 98 f98 := fnOk_of (by kernel_rfl) (by kernel_rfl) (by kernel_rfl)
theorem k100 : FnOk Tryz.prog gl 100 f100 := fnOk_of (by kernel_rfl) (by kernel_rfl) (by kernel_rfl)
theorem k102 : FnOk Tryz.prog gl 102 f102 := fnOk_of (by kernel_rfl) (by kernel_rfl) (by kernel_rfl)
theorem k103 : FnOk Tryz.prog gl 103 f103 := fnOk_of (by kernel_rfl) (by kernel_rfl) (by kernel_rfl)
theorem k104 : FnOk Tryz.prog gl 104 f104 := fnOk_of (by kernel_rfl) (by kernel_rfl) (by kernel_rfl)
theorem k106 : FnOk Tryz.prog gl 106 f106 := fnOk_of (by kernel_rfl) (by kernel_rfl) (by kernel_rfl)
theorem k121 : FnOk Tryz.prog gl 121 f121 := fnOk_of (by kernel_rfl) (by kernel_rfl) (by kernel_rfl)
theorem k124 : FnOk Tryz.prog gl 124 f124 := fnOk_of (by kernel_rfl) (by kernel_rfl) (by kernel_rfl)
theorem k126 : FnOk Tryz.prog gl 126 f126 := fnOk_of (by kernel_rfl) (by kernel_rfl) (by kernel_rfl)
theorem k134 : FnOk Tryz.prog gl 134 f134 := fnOk_of (by kernel_rfl) (by kernel_rfl) (by kernel_rfl)
theorem k135 : FnOk Tryz.prog gl 135 f135 := fnOk_of (by kernel_rfl) (by kernel_rfl) (by kernel_rfl)
theorem k145 : FnOk Tryz.prog gl 145 f145 := fnOk_of (by kernel_rfl) (by kernel_rfl) (by kernel_rfl)
theorem k148 : FnOk Tryz.prog gl 148 f148 := fnOk_of (by kernel_rfl) (by kernel_rfl) (by kernel_rfl)
theorem k154 : FnOk Tryz.prog gl 154 f154 := fnOk_of (by kernel_rfl) (by kernel_rfl) (by kernel_rfl)
theorem k167 : FnOk Tryz.prog gl 167 f167 := fnOk_of (by kernel_rfl) (by kernel_rfl) (by kernel_rfl)
theorem k168 : FnOk Tryz.prog gl 168 f168 := fnOk_of (by kernel_rfl) (by kernel_rfl) (by kernel_rfl)
theorem k169 : FnOk Tryz.prog gl 169 f169 := fnOk_of (by kernel_rfl) (by kernel_rfl) (by kernel_rfl)
theorem k175 : FnOk Tryz.prog gl 175 f175 := fnOk_of (by kernel_rfl) (by kernel_rfl) (by kernel_rfl)
theorem k176 : FnOk Tryz.prog gl 176 f176 := fnOk_of (by kernel_rfl) (by kernel_rfl) (by kernel_rfl)
theorem k177 : FnOk Tryz.prog gl 177 f177 := fnOk_of (by kernel_rfl) (by kernel_rfl) (by kernel_rfl)
theorem k180 : FnOk Tryz.prog gl 180 f180 := fnOk_of (by kernel_rfl) (by kernel_rfl) (by kernel_rfl)
theorem k181 : FnOk Tryz.prog gl 181 f181 := fnOk_of (by kernel_rfl) (by kernel_rfl) (by kernel_rfl)
theorem k192 : FnOk Tryz.prog gl 192 f192 := fnOk_of (by kernel_rfl) (by kernel_rfl) (by kernel_rfl)
theorem k243 : FnOk Tryz.prog gl 243 f243 := fnOk_of (by kernel_rfl) (by kernel_rfl) (by kernel_rfl)
theorem k255 : FnOk Tryz.prog gl 255 f255 := fnOk_of (by kernel_rfl) (by kernel_rfl) (by kernel_rfl)
end Tab
end Go.Tidy
