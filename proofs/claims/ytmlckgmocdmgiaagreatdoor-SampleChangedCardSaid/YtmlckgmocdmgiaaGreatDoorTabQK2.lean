/- A part of the proof. -/
import Derived.Test.YtmlckgmocdmgiaaGreatDoorTabQT
import Derived.Test.YtmlckgmocdmgiaaGreatDoorPa1
import Derived.Test.YtmlckgmocdmgiaaGreatDoorProg
import Derived.KernelRfl
set_option linter.all false
namespace Go.Tidy
open Go Go.Proofs
namespace Tab
theorem k6 : FnOk Tryz.prog gl 6 f6 := fnOk_of (by kernel_rfl) (by kernel_rfl) (by kernel_rfl)
theorem k12 : FnOk Tryz.prog gl 12 f12 := fnOk_of (by kernel_rfl) (by kernel_rfl) (by kernel_rfl)
theorem k16 : FnOk Tryz.prog gl 16 f16 := fnOk_of (by kernel_rfl) (by kernel_rfl) (by kernel_rfl)
theorem k17 : FnOk Tryz.prog gl 17 f17 := fnOk_of (by kernel_rfl) (by kernel_rfl) (by kernel_rfl)
theorem k21 : FnOk Tryz.prog gl 21 f21 := fnOk_of (by kernel_rfl) (by kernel_rfl) (by kernel_rfl)
theorem k24 : FnOk Tryz.prog gl 24 f24 := fnOk_of (by kernel_rfl) (by kernel_rfl) (by kernel_rfl)
theorem k28 : FnOk Tryz.prog gl 28 f28 := fnOk_of (by kernel_rfl) (by kernel_rfl) (by kernel_rfl)
theorem k42 : FnOk Tryz.prog gl 42 f42 := fnOk_of (by kernel_rfl) (by kernel_rfl) (by kernel_rfl)
theorem k44 : FnOk Tryz.prog gl 44 f44 := fnOk_of (by kernel_rfl) (by kernel_rfl) (by kernel_rfl)
theorem k45 : FnOk Tryz.prog gl 45 f45 := fnOk_of (by kernel_rfl) (by kernel_rfl) (by kernel_rfl)
theorem k46 : FnOk Tryz.prog gl 46 f46 := fnOk_of (by kernel_rfl) (by kernel_rfl) (by kernel_rfl)
theorem k53 : FnOk Tryz.prog gl 53 f53 := fnOk_of (by kernel_rfl) (by kernel_rfl) (by kernel_rfl)
theorem k58 : FnOk Tryz.prog gl 58 f58 := fnOk_of (by kernel_rfl) (by kernel_rfl) (by kernel_rfl)
theorem k71 : FnOk Tryz.prog gl 71 f71 := fnOk_of (by kernel_rfl) (by kernel_rfl) (by kernel_rfl)
theorem k74 : FnOk Tryz.prog gl 74 f74 := fnOk_of (by kernel_rfl) (by kernel_rfl) (by kernel_rfl)
theorem k81 : FnOk Tryz.prog gl 81 f81 := fnOk_of (by kernel_rfl) (by kernel_rfl) (by kernel_rfl)
theorem k83 : FnOk Tryz.prog gl 83 f83 := fnOk_of (by kernel_rfl) (by kernel_rfl) (by kernel_rfl)
theorem k92 : FnOk Tryz.prog gl 92 f92 := fnOk_of (by kernel_rfl) (by kernel_rfl) (by kernel_rfl)
theorem k99 : FnOk Tryz.prog gl 99 f99 := fnOk_of (by kernel_rfl) (by kernel_rfl) (by kernel_rfl)
theorem k100 : FnOk Tryz.prog gl 100 f100 := fnOk_of (by kernel_rfl) (by kernel_rfl) (by kernel_rfl)
theorem k101 : FnOk Tryz.prog gl 101 f101 := fnOk_of (by kernel_rfl) (by kernel_rfl) (by kernel_rfl)
theorem k113 : FnOk Tryz.prog gl 113 f113 := fnOk_of (by kernel_rfl) (by kernel_rfl) (by kernel_rfl)
theorem k116 : FnOk Tryz.prog gl 116 f116 := fnOk_of (by kernel_rfl) (by kernel_rfl) (by kernel_rfl)
theorem k118 : FnOk Tryz.prog gl 118 f118 := fnOk_of (by kernel_rfl) (by kernel_rfl) (by kernel_rfl)
theorem k125 : FnOk Tryz.prog gl 125 f125 := fnOk_of (by kernel_rfl) (by kernel_rfl) (by kernel_rfl)
theorem k126 : FnOk Tryz.prog gl 126 f126 := fnOk_of (by kernel_rfl) (by kernel_rfl) (by kernel_rfl)
theorem k130 : FnOk Tryz.prog gl 130 f130 := fnOk_of (by kernel_rfl) (by kernel_rfl) (by kernel_rfl)
theorem k133 : FnOk Tryz.prog gl 133 f133 := fnOk_of (by kernel_rfl) (by kernel_rfl) (by kernel_rfl)
theorem k134 : FnOk Tryz.prog gl 134 f134 := fnOk_of (by kernel_rfl) (by kernel_rfl) (by kernel_rfl)
theorem k137 : FnOk Tryz.prog gl 137 f137 := fnOk_of (by kernel_rfl) (by kernel_rfl) (by kernel_rfl)
theorem k139 : FnOk Tryz.prog gl 139 f139 := fnOk_of (by kernel_rfl) (by kernel_rfl) (by kernel_rfl)
theorem k146 : FnOk Tryz.prog gl 146 f146 := fnOk_of (by kernel_rfl) (by kernel_rfl) (by kernel_rfl)
theorem k147 : FnOk Tryz.prog gl 147 f147 := fnOk_of (by kernel_rfl) (by kernel_rfl) (by kernel_rfl)
theorem k148 : FnOk Tryz.prog gl 148 f148 := fnOk_of (by kernel_rfl) (by kernel_rfl) (by kernel_rfl)
theorem k150 : FnOk Tryz.prog gl 150 f150 := fnOk_of (by kernel_rfl) (by kernel_rfl) (by kernel_rfl)
theorem k154 : FnOk Tryz.prog gl 154 f154 := fnOk_of (by kernel_rfl) (by kernel_rfl) (by kernel_rfl)
theorem k170 : FnOk Tryz.prog gl 170 f170 := fnOk_of (by kernel_rfl) (by kernel_rfl) (by kernel_rfl)
theorem k189 : FnOk Tryz.prog gl 189 f189 := fnOk_of (by kernel_rfl) (by kernel_rfl) (by kernel_rfl)
theorem k191 : FnOk Tryz.prog gl 191 f191 := fnOk_of (by kernel_rfl) (by kernel_rfl) (by kernel_rfl)
end Tab
end Go.Tidy
