/- A part of the proof. -/
import Derived.Test.YtmlckgmocdmgiaaGreatDoorTabQT
import Derived.Test.YtmlckgmocdmgiaaGreatDoorPa1
import Derived.Test.YtmlckgmocdmgiaaGreatDoorProg
import Derived.KernelRfl
set_option linter.all false
namespace Go.Tidy
open Go Go.Proofs
namespace Tab
theorem k6 : FnOk Tryz.prog gl 6 f6 := fnOk_of (by kernel_rfl) (by kernel_rfl) (by kernel_rfl)
theorem k8 : FnOk Tryz.prog gl 8 f8 := fnOk_of (by kernel_rfl) (by kernel_rfl) (by kernel_rfl)
theorem k16 : FnOk Tryz.prog gl 16 f16 := fnOk_of (by kernel_rfl) (by kernel_rfl) (by kernel_rfl)
theorem k21 : FnOk Tryz.prog gl 21 f21 := fnOk_of (by kernel_rfl) (by kernel_rfl) (by kernel_rfl)
theorem k26 : FnOk Tryz.prog gl 26 f26 := fnOk_of (by kernel_rfl) (by kernel_rfl) (by kernel_rfl)
theorem k32 : FnOk Tryz.prog gl 32 f32 := fnOk_of (by kernel_rfl) (by kernel_rfl) (by kernel_rfl)
theorem k39 : FnOk Tryz.prog gl 39 f39 := fnOk_of (by kernel_rfl) (by kernel_rfl) (by kernel_rfl)
theorem k50 : FnOk Tryz.prog gl 50 f50 := fnOk_of (by kernel_rfl) (by kernel_rfl) (by kernel_rfl)
theorem k57 : FnOk Tryz.prog gl 57 f57 := fnOk_of (by kernel_rfl) (by kernel_rfl) (by kernel_rfl)
theorem k64 : FnOk Tryz.prog gl 64 f64 := fnOk_of (by kernel_rfl) (by kernel_rfl) (by kernel_rfl)
theorem k66 : FnOk Tryz.prog gl 66 f66 := fnOk_of (by kernel_rfl) (by kernel_rfl) (by kernel_rfl)
theorem k68 : FnOk Tryz.prog gl 68 f68 := fnOk_of (by kernel_rfl) (by kernel_rfl) (by kernel_rfl)
theorem k70 : FnOk Tryz.prog gl 70 f70 := fnOk_of (by kernel_rfl) (by kernel_rfl) (by kernel_rfl)
theorem k73 : FnOk Tryz.prog gl 73 f73 := fnOk_of (by kernel_rfl) (by kernel_rfl) (by kernel_rfl)
theorem k76 : FnOk Tryz.prog gl 76 f76 := fnOk_of (by kernel_rfl) (by kernel_rfl) (by kernel_rfl)
theorem k91 : FnOk Tryz.prog gl 91 f91 := fnOk_of (by kernel_rfl) (by kernel_rfl) (by kernel_rfl)
theorem k100 : FnOk Tryz.prog gl 100 f100 := fnOk_of (by kernel_rfl) (by kernel_rfl) (by kernel_rfl)
theorem k103 : FnOk Tryz.prog gl 103 f103 := fnOk_of (by kernel_rfl) (by kernel_rfl) (by kernel_rfl)
theorem k109 : FnOk Tryz.prog gl 109 f109 := fnOk_of (by kernel_rfl) (by kernel_rfl) (by kernel_rfl)
theorem k115 : FnOk Tryz.prog gl 115 f115 := fnOk_of (by kernel_rfl) (by kernel_rfl) (by kernel_rfl)
theorem k118 : FnOk Tryz.prog gl 118 f118 := fnOk_of (by kernel_rfl) (by kernel_rfl) (by kernel_rfl)
theorem k120 : FnOk Tryz.prog gl 120 f120 := fnOk_of (by kernel_rfl) (by kernel_rfl) (by kernel_rfl)
theorem k124 : FnOk Tryz.prog gl 124 f124 := fnOk_of (by kernel_rfl) (by kernel_rfl) (by kernel_rfl)
theorem k134 : FnOk Tryz.prog gl 134 f134 := fnOk_of (by kernel_rfl) (by kernel_rfl) (by kernel_rfl)
theorem k135 : FnOk Tryz.prog gl 135 f135 := fnOk_of (by kernel_rfl) (by kernel_rfl) (by kernel_rfl)
theorem k140 : FnOk Tryz.prog gl 140 f140 := fnOk_of (by kernel_rfl) (by kernel_rfl) (by kernel_rfl)
theorem k141 : FnOk Tryz.prog gl 141 f141 := fnOk_of (by kernel_rfl) (by kernel_rfl) (by kernel_rfl)
theorem k142 : FnOk Tryz.prog gl 142 f142 := fnOk_of (by kernel_rfl) (by kernel_rfl) (by kernel_rfl)
theorem k147 : FnOk Tryz.prog gl 147 f147 := fnOk_of (by kernel_rfl) (by kernel_rfl) (by kernel_rfl)
theorem k150 : FnOk Tryz.prog gl 150 f150 := fnOk_of (by kernel_rfl) (by kernel_rfl) (by kernel_rfl)
theorem k151 : FnOk Tryz.prog gl 151 f151 := fnOk_of (by kernel_rfl) (by kernel_rfl) (by kernel_rfl)
theorem k152 : FnOk Tryz.prog gl 152 f152 := fnOk_of (by kernel_rfl) (by kernel_rfl) (by kernel_rfl)
theorem k167 : FnOk Tryz.prog gl 167 f167 := fnOk_of (by kernel_rfl) (by kernel_rfl) (by kernel_rfl)
theorem k168 : FnOk Tryz.prog gl 168 f168 := fnOk_of (by kernel_rfl) (by kernel_rfl) (by kernel_rfl)
theorem k172 : FnOk Tryz.prog gl 172 f172 := fnOk_of (by kernel_rfl) (by kernel_rfl) (by kernel_rfl)
theorem k173 : FnOk Tryz.prog gl 173 f173 := fnOk_of (by kernel_rfl) (by kernel_rfl) (by kernel_rfl)
theorem k174 : FnOk Tryz.prog gl 174 f174 := fnOk_of (by kernel_rfl) (by kernel_rfl) (by kernel_rfl)
theorem k198 : FnOk Tryz.prog gl 198 f198 := fnOk_of (by kernel_rfl) (by kernel_rfl) (by kernel_rfl)
theorem k200 : FnOk Tryz.prog gl 200 f200 := fnOk_of (by kernel_rfl) (by kernel_rfl) (by kernel_rfl)
end Tab
end Go.Tidy
