/- A part of the proof. -/
import Derived.Test.YtmlckgmocdmgiaaGreatDoorTabQT
import Derived.Test.YtmlckgmocdmgiaaGreatDoorPa1
import Derived.Test.YtmlckgmocdmgiaaGreatDoorProg
import Derived.KernelRfl
set_option linter.all false
namespace Go.Tidy
open Go Go.Proofs
namespace Tab
theorem k6 : FnOk Tryz.prog gl 6 f6 := fnOk_of (by kernel_rfl) (by kernel_rfl) (by kernel_rfl)
theorem k12 : FnOk Tryz.prog gl 12 f12 := fnOk_of (by kernel_rfl) (by kernel_rfl) (by kernel_rfl)
theorem k16 : FnOk Tryz.prog gl 16 f16 := fnOk_of (by kernel_rfl) (by kernel_rfl) (by kernel_rfl)
theorem k33 : FnOk Tryz.prog gl 33 f33 := fnOk_of (by kernel_rfl) (by kernel_rfl) (by kernel_rfl)
theorem k34 : FnOk Tryz.prog gl 34 f34 := fnOk_of (by kernel_rfl) (by kernel_rfl) (by kernel_rfl)
theorem k37 : FnOk Tryz.prog gl 37 f37 := fnOk_of (by kernel_rfl) (by kernel_rfl) (by kernel_rfl)
theorem k44 : FnOk Tryz.prog gl 44 f44 := fnOk_of (by kernel_rfl) (by kernel_rfl) (by kernel_rfl)
theorem k45 : FnOk Tryz.prog gl 45 f45 := fnOk_of (by kernel_rfl) (by kernel_rfl) (by kernel_rfl)
theorem k58 : FnOk Tryz.prog gl 58 f58 := fnOk_of (by kernel_rfl) (by kernel_rfl) (by kernel_rfl)
theorem k74 : FnOk Tryz.prog gl 74 f74 := fnOk_of (by kernel_rfl) (by kernel_rfl) (by kernel_rfl)
theorem k77 : FnOk Tryz.prog gl 77 f77 := fnOk_of (by kernel_rfl) (by kernel_rfl) (by kernel_rfl)
theorem k79 : FnOk Tryz.prog gl 79 f79 := fnOk_of (by kernel_rfl) (by kernel_rfl) (by kernel_rfl)
theorem k80 : FnOk Tryz.prog gl 80 f80 := fnOk_of (by kernel_rfl) (by kernel_rfl) (by kernel_rfl)
theorem k83 : FnOk Tryz.prog gl 83 f83 := fnOk_of (by kernel_rfl) (by kernel_rfl) (by kernel_rfl)
theorem k85 : FnOk Tryz.prog gl 85 f85 := fnOk_of (by kernel_rfl) (by kernel_rfl) (by kernel_rfl)
theorem k86 : FnOk Tryz.prog gl 86 f86 := fnOk_of (by kernel_rfl) (by kernel_rfl) (by kernel_rfl)
theorem k87 : FnOk Tryz.prog gl 87 f87 := fnOk_of (by kernel_rfl) (by kernel_rfl) (by kernel_rfl)
theorem k88 : FnOk Tryz.prog gl 88 f88 := fnOk_of (by kernel_rfl) (by kernel_rfl) (by kernel_rfl)
theorem k89 : FnOk Tryz.prog gl 89 f89 := fnOk_of (by kernel_rfl) (by kernel_rfl) (by kernel_rfl)
theorem k96 : FnOk Tryz.prog gl 96 f96 := fnOk_of (by kernel_rfl) (by kernel_rfl) (by kernel_rfl)
theorem k98 : FnOk Tryz.prog gl 98 f98 := fnOk_of (by kernel_rfl) (by kernel_rfl) (by kernel_rfl)
theorem k101 : FnOk Tryz.prog gl 101 f101 := fnOk_of (by kernel_rfl) (by kernel_rfl) (by kernel_rfl)
theorem k111 : FnOk Tryz.prog gl 111 f111 := fnOk_of (by kernel_rfl) (by kernel_rfl) (by kernel_rfl)
theorem k126 : FnOk Tryz.prog gl 126 f126 := fnOk_of (by kernel_rfl) (by kernel_rfl) (by kernel_rfl)
theorem k127 : FnOk Tryz.prog gl 127 f127 := fnOk_of (by kernel_rfl) (by kernel_rfl) (by kernel_rfl)
theorem k131 : FnOk Tryz.prog gl 131 f131 := fnOk_of (by kernel_rfl) (by kernel_rfl) (by kernel_rfl)
theorem k133 : FnOk Tryz.prog gl 133 f133 := fnOk_of (by kernel_rfl) (by kernel_rfl) (by kernel_rfl)
theorem k139 : FnOk Tryz.prog gl 139 f139 := fnOk_of (by kernel_rfl) (by kernel_rfl) (by kernel_rfl)
theorem k140 : FnOk Tryz.prog gl 140 f140 := fnOk_of (by kernel_rfl) (by kernel_rfl) (by kernel_rfl)
theorem k144 : FnOk Tryz.prog gl 144 f144 := fnOk_of (by kernel_rfl) (by kernel_rfl) (by kernel_rfl)
theorem k146 : FnOk Tryz.prog gl 146 f146 := fnOk_of (by kernel_rfl) (by kernel_rfl) (by kernel_rfl)
theorem k155 : FnOk Tryz.prog gl 155 f155 := fnOk_of (by kernel_rfl) (by kernel_rfl) (by kernel_rfl)
theorem k156 : FnOk Tryz.prog gl 156 f156 := fnOk_of (by kernel_rfl) (by kernel_rfl) (by kernel_rfl)
theorem k160 : FnOk Tryz.prog gl 160 f160 := fnOk_of (by kernel_rfl) (by kernel_rfl) (by kernel_rfl)
theorem k166 : FnOk Tryz.prog gl 166 f166 := fnOk_of (by kernel_rfl) (by kernel_rfl) (by kernel_rfl)
theorem k174 : FnOk Tryz.prog gl 174 f174 := fnOk_of (by kernel_rfl) (by kernel_rfl) (by kernel_rfl)
theorem k189 : FnOk Tryz.prog gl 189 f189 := fnOk_of (by kernel_rfl) (by kernel_rfl) (by kernel_rfl)
theorem k191 : FnOk Tryz.prog gl 191 f191 := fnOk_of (by kernel_rfl) (by kernel_rfl) (by kernel_rfl)
end Tab
end Go.Tidy
