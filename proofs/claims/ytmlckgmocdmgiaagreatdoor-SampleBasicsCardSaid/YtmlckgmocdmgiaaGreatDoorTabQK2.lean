/- A part of the proof. -/
import Derived.Test.YtmlckgmocdmgiaaGreatDoorTabQT
import Derived.Test.YtmlckgmocdmgiaaGreatDoorPa1
import Derived.Test.YtmlckgmocdmgiaaGreatDoorProg
import Derived.KernelRfl
set_option linter.all false
namespace Go.Tidy
open Go Go.Proofs
namespace Tab
theorem k8 : FnOk Tryz.prog gl 8 f8 := fnOk_of (by kernel_rfl) (by kernel_rfl) (by kernel_rfl)
theorem k16 : FnOk Tryz.prog gl 16 f16 := fnOk_of (by kernel_rfl) (by kernel_rfl) (by kernel_rfl)
theorem k32 : FnOk Tryz.prog gl 32 f32 := fnOk_of (by kernel_rfl) (by kernel_rfl) (by kernel_rfl)
theorem k64 : FnOk Tryz.prog gl 64 f64 := fnOk_of (by kernel_rfl) (by kernel_rfl) (by kernel_rfl)
theorem k68 : FnOk Tryz.prog gl 68 f68 := fnOk_of (by kernel_rfl) (by kernel_rfl) (by kernel_rfl)
theorem k71 : FnOk Tryz.prog gl 71 f71 := fnOk_of (by kernel_rfl) (by kernel_rfl) (by kernel_rfl)
theorem k72 : FnOk Tryz.prog gl 72 f72 := fnOk_of (by kernel_rfl) (by kernel_rfl) (by kernel_rfl)
theorem k80 : FnOk Tryz.prog gl 80 f80 := fnOk_of (by kernel_rfl) (by kernel_rfl) (by kernel_rfl)
theorem k82 : FnOk Tryz.prog gl 82 f82 := fnOk_of (by kernel_rfl) (by kernel_rfl) (by kernel_rfl)
theorem k85 : FnOk Tryz.prog gl 85 f85 := fnOk_of (by kernel_rfl) (by kernel_rfl) (by kernel_rfl)
theorem k86 : FnOk Tryz.prog gl 86 f86 := fnOk_of (by kernel_rfl) (by kernel_rfl) (by kernel_rfl)
theorem k90 : FnOk Tryz.prog gl 90 f90 := fnOk_of (by kernel_rfl) (by kernel_rfl) (by kernel_rfl)
theorem k100 : FnOk Tryz.prog gl 100 f100 := fnOk_of (by kernel_rfl) (by kernel_rfl) (by kernel_rfl)
theorem k101 : FnOk Tryz.prog gl 101 f101 := fnOk_of (by kernel_rfl) (by kernel_rfl) (by kernel_rfl)
theorem k111 : FnOk Tryz.prog gl 111 f111 := fnOk_of (by kernel_rfl) (by kernel_rfl) (by kernel_rfl)
theorem k112 : FnOk Tryz.prog gl 112 f112 := fnOk_of (by kernel_rfl) (by kernel_rfl) (by kernel_rfl)
theorem k116 : FnOk Tryz.prog gl 116 f116 := fnOk_of (by kernel_rfl) (by kernel_rfl) (by kernel_rfl)
theorem k122 : FnOk Tryz.prog gl 122 f122 := fnOk_of (by kernel_rfl) (by kernel_rfl) (by kernel_rfl)
theorem k124 : FnOk Tryz.prog gl 124 f124 := fnOk_of (by kernel_rfl) (by kernel_rfl) (by kernel_rfl)
theorem k128 : FnOk Tryz.prog gl 128 f128 := fnOk_of (by kernel_rfl) (by kernel_rfl) (by kernel_rfl)
theorem k129 : FnOk Tryz.prog gl 129 f129 := fnOk_of (by kernel_rfl) (by kernel_rfl) (by kernel_rfl)
theorem k132 : FnOk Tryz.prog gl 132 f132 := fnOk_of (by kernel_rfl) (by kernel_rfl) (by kernel_rfl)
theorem k136 : FnOk Tryz.prog gl 136 f136 := fnOk_of (by kernel_rfl) (by kernel_rfl) (by kernel_rfl)
theorem k139 : FnOk Tryz.prog gl 139 f139 := fnOk_of (by kernel_rfl) (by kernel_rfl) (by kernel_rfl)
theorem k140 : FnOk Tryz.prog gl 140 f140 := fnOk_of (by kernel_rfl) (by kernel_rfl) (by kernel_rfl)
theorem k144 : FnOk Tryz.prog gl 144 f144 := fnOk_of (by kernel_rfl) (by kernel_rfl) (by kernel_rfl)
theorem k147 : FnOk Tryz.prog gl 147 f147 := fnOk_of (by kernel_rfl) (by kernel_rfl) (by kernel_rfl)
theorem k152 : FnOk Tryz.prog gl 152 f152 := fnOk_of (by kernel_rfl) (by kernel_rfl) (by kernel_rfl)
theorem k153 : FnOk Tryz.prog gl 153 f153 := fnOk_of (by kernel_rfl) (by kernel_rfl) (by kernel_rfl)
theorem k156 : FnOk Tryz.prog gl 156 f156 := fnOk_of (by kernel_rfl) (by kernel_rfl) (by kernel_rfl)
theorem k167 : FnOk Tryz.prog gl 167 f167 := fnOk_of (by kernel_rfl) (by kernel_rfl) (by kernel_rfl)
theorem k174 : FnOk Tryz.prog gl 174 f174 := fnOk_of (by kernel_rfl) (by kernel_rfl) (by kernel_rfl)
theorem k188 : FnOk Tryz.prog gl 188 f188 := fnOk_of (by kernel_rfl) (by kernel_rfl) (by kernel_rfl)
theorem k190 : FnOk Tryz.prog gl 190 f190 := fnOk_of (by kernel_rfl) (by kernel_rfl) (by kernel_rfl)
end Tab
end Go.Tidy
