/- A part of the proof. -/
import Derived.Test.YtmlckgmocdmgiaaGreatDoorTabQT
import Derived.Test.YtmlckgmocdmgiaaGreatDoorPa1
import Derived.Test.YtmlckgmocdmgiaaGreatDoorProg
import Derived.KernelRfl
set_option linter.all false
namespace Go.Tidy
open Go Go.Proofs
namespace Tab
theorem k13 : FnOk Tryz.prog gl 13 f13 := fnOk_of (by kernel_rfl) (by kernel_rfl) (by kernel_rfl)
theorem k23 : FnOk Tryz.prog gl 23 f23 := fnOk_of (by kernel_rfl) (by kernel_rfl) (by kernel_rfl)
theorem k24 : FnOk Tryz.prog gl 24 f24 := fnOk_of (by kernel_rfl) (by kernel_rfl) (by kernel_rfl)
theorem k27 : FnOk Tryz.prog gl 27 f27 := fnOk_of (by kernel_rfl) (by kernel_rfl) (by kernel_rfl)
theorem k28 : FnOk Tryz.prog gl 28 f28 := fnOk_of (by kernel_rfl) (by kernel_rfl) (by kernel_rfl)
theorem k31 : FnOk Tryz.prog gl 31 f31 := fnOk_of (by kernel_rfl) (by kernel_rfl) (by kernel_rfl)
theorem k42 : FnOk Tryz.prog gl 42 f42 := fnOk_of (by kernel_rfl) (by kernel_rfl) (by kernel_rfl)
theorem k45 : FnOk Tryz.prog gl 45 f45 := fnOk_of (by kernel_rfl) (by kernel_rfl) (by kernel_rfl)
theorem k49 : FnOk Tryz.prog gl 49 f49 := fnOk_of (by kernel_rfl) (by kernel_rfl) (by kernel_rfl)
theorem k59 : FnOk Tryz.prog gl 59 f59 := fnOk_of (by kernel_rfl) (by kernel_rfl) (by kernel_rfl)
theorem k62 : FnOk Tryz.prog gl 62 f62 := fnOk_of (by kernel_rfl) (by kernel_rfl) (by kernel_rfl)
theorem k74 : FnOk Tryz.prog gl 74 f74 := fnOk_of (by kernel_rfl) (by kernel_rfl) (by kernel_rfl)
theorem k80 : FnOk Tryz.prog gl 80 f80 := fnOk_of (by kernel_rfl) (by kernel_rfl) (by kernel_rfl)
theorem k84 : FnOk Tryz.prog gl 84 f84 := fnOk_of (by kernel_rfl) (by kernel_rfl) (by kernel_rfl)
theorem k85 : FnOk Tryz.prog gl 85 f85 := fnOk_of (by kernel_rfl) (by kernel_rfl) (by kernel_rfl)
theorem k88 : FnOk Tryz.prog gl 88 f88 := fnOk_of (by kernel_rfl) (by kernel_rfl) (by kernel_rfl)
theorem k89 : FnOk Tryz.prog gl 89 f89 := fnOk_of (by kernel_rfl) (by kernel_rfl) (by kernel_rfl)
theorem k95 : FnOk Tryz.prog gl 95 f95 := fnOk_of (by kernel_rfl) (by kernel_rfl) (by kernel_rfl)
theorem k96 : FnOk Tryz.prog gl 96 f96 := fnOk_of (by kernel_rfl) (by kernel_rfl) (by kernel_rfl)
theorem k99 : FnOk Tryz.prog gl 99 f99 := fnOk_of (by kernel_rfl) (by kernel_rfl) (by kernel_rfl)
theorem k101 : FnOk Tryz.prog gl 101 f101 := fnOk_of (by kernel_rfl) (by kernel_rfl) (by kernel_rfl)
theorem k110 : FnOk Tryz.prog gl 110 f110 := fnOk_of (by kernel_rfl) (by kernel_rfl) (by kernel_rfl)
theorem k116 : FnOk Tryz.prog gl 116 f116 := fnOk_of (by kernel_rfl) (by kernel_rfl) (by kernel_rfl)
theorem k119 : FnOk Tryz.prog gl 119 f119 := fnOk_of (by kernel_rfl) (by kernel_rfl) (by kernel_rfl)
theorem k126 : FnOk Tryz.prog gl 126 f126 := fnOk_of (by kernel_rfl) (by kernel_rfl) (by kernel_rfl)
theorem k132 : FnOk Tryz.prog gl 132 f132 := fnOk_of (by kernel_rfl) (by kernel_rfl) (by kernel_rfl)
theorem k133 : FnOk Tryz.prog gl 133 f133 := fnOk_of (by kernel_rfl) (by kernel_rfl) (by kernel_rfl)
theorem k139 : FnOk Tryz.prog gl 139 f139 := fnOk_of (by kernel_rfl) (by kernel_rfl) (by kernel_rfl)
theorem k143 : FnOk Tryz.prog gl 143 f143 := fnOk_of (by kernel_rfl) (by kernel_rfl) (by kernel_rfl)
theorem k145 : FnOk Tryz.prog gl 145 f145 := fnOk_of (by kernel_rfl) (by kernel_rfl) (by kernel_rfl)
theorem k154 : FnOk Tryz.prog gl 154 f154 := fnOk_of (by kernel_rfl) (by kernel_rfl) (by kernel_rfl)
theorem k155 : FnOk Tryz.prog gl 155 f155 := fnOk_of (by kernel_rfl) (by kernel_rfl) (by kernel_rfl)
theorem k156 : FnOk Tryz.prog gl 156 f156 := fnOk_of (by kernel_rfl) (by kernel_rfl) (by kernel_rfl)
theorem k176 : FnOk Tryz.prog gl 176 f176 := fnOk_of (by kernel_rfl) (by kernel_rfl) (by kernel_rfl)
theorem k186 : FnOk Tryz.prog gl 186 f186 := fnOk_of (by kernel_rfl) (by kernel_rfl) (by kernel_rfl)
theorem k188 : FnOk Tryz.prog gl 188 f188 := fnOk_of (by kernel_rfl) (by kernel_rfl) (by kernel_rfl)
theorem k190 : FnOk Tryz.prog gl 190 f190 := fnOk_of (by kernel_rfl) (by kernel_rfl) (by kernel_rfl)
theorem k191 : FnOk Tryz.prog gl 191 f191 := fnOk_of (by kernel_rfl) (by kernel_rfl) (by kernel_rfl)
end Tab
end Go.Tidy
