/- A part of the proof. -/
import Derived.Test.YtmlckgmocdmgiaaGreatDoorTabQT
import Derived.Test.YtmlckgmocdmgiaaGreatDoorPa1
import Derived.Test.YtmlckgmocdmgiaaGreatDoorProg
import Derived.KernelRfl
set_option linter.all false
namespace Go.Tidy
open Go Go.Proofs
namespace Tab
theorem k3 : FnOk Tryz.prog gl 3 f3 := fnOk_of (by kernel_rfl) (by kernel_rfl) (by kernel_rfl)
theorem k11 : FnOk Tryz.prog gl 11 f11 := fnOk_of (by kernel_rfl) (by kernel_rfl) (by kernel_rfl)
theorem k16 : FnOk Tryz.prog gl 16 f16 := fnOk_of (by kernel_rfl) (by kernel_rfl) (by kernel_rfl)
theorem k18 : FnOk Tryz.prog gl 18 f18 := fnOk_of (by kernel_rfl) (by kernel_rfl) (by kernel_rfl)
theorem k28 : FnOk Tryz.prog gl 28 f28 := fnOk_of (by kernel_rfl) (by kernel_rfl) (by kernel_rfl)
theorem k31 : FnOk Tryz.prog gl 31 f31 := fnOk_of (by kernel_rfl) (by kernel_rfl) (by kernel_rfl)
theorem k39 : FnOk Tryz.prog gl 39 f39 := fnOk_of (by kernel_rfl) (by kernel_rfl) (by kernel_rfl)
theorem k62 : FnOk Tryz.prog gl 62 f62 := fnOk_of (by kernel_rfl) (by kernel_rfl) (by kernel_rfl)
theorem k63 : FnOk Tryz.prog gl 63 f63 := fnOk_of (by kernel_rfl) (by kernel_rfl) (by kernel_rfl)
theorem k66 : FnOk Tryz.prog gl 66 f66 := fnOk_of (by kernel_rfl) (by kernel_rfl) (by kernel_rfl)
theorem k68 : FnOk Tryz.prog gl 68 f68 := fnOk_of (by kernel_rfl) (by kernel_rfl) (by kernel_rfl)
theorem k71 : FnOk Tryz.prog gl 71 f71 := fnOk_of (by kernel_rfl) (by kernel_rfl) (by kernel_rfl)
theorem k72 : FnOk Tryz.prog gl 72 f72 := fnOk_of (by kernel_rfl) (by kernel_rfl) (by kernel_rfl)
theorem k86 : FnOk Tryz.prog gl 86 f86 := fnOk_of (by kernel_rfl) (by kernel_rfl) (by kernel_rfl)
theorem k88 : FnOk Tryz.prog gl 88 f88 := fnOk_of (by kernel_rfl) (by kernel_rfl) (by kernel_rfl)
theorem k91 : FnOk Tryz.prog gl 91 f91 := fnOk_of (by kernel_rfl) (by kernel_rfl) (by kernel_rfl)
theorem k103 : FnOk Tryz.prog gl 103 f103 := fnOk_of (by kernel_rfl) (by kernel_rfl) (by kernel_rfl)
theorem k108 : FnOk Tryz.prog gl 108 f108 := fnOk_of (by kernel_rfl) (by kernel_rfl) (by kernel_rfl)
theorem k109 : FnOk Tryz.prog gl 109 f109 := fnOk_of (by kernel_rfl) (by kernel_rfl) (by kernel_rfl)
theorem k111 : FnOk Tryz.prog gl 111 f111 := fnOk_of (by kernel_rfl) (by kernel_rfl) (by kernel_rfl)
theorem k112 : FnOk Tryz.prog gl 112 f112 := fnOk_of (by kernel_rfl) (by kernel_rfl) (by kernel_rfl)
theorem k115 : FnOk Tryz.prog gl 115 f115 := fnOk_of (by kernel_rfl) (by kernel_rfl) (by kernel_rfl)
theorem k120 : FnOk Tryz.prog gl 120 f120 := fnOk_of (by kernel_rfl) (by kernel_rfl) (by kernel_rfl)
theorem k128 : FnOk Tryz.prog gl 128 f128 := fnOk_of (by kernel_rfl) (by kernel_rfl) (by kernel_rfl)
theorem k129 : FnOk Tryz.prog gl 129 f129 := fnOk_of (by kernel_rfl) (by kernel_rfl) (by kernel_rfl)
theorem k140 : FnOk Tryz.prog gl 140 f140 := fnOk_of (by kernel_rfl) (by kernel_rfl) (by kernel_rfl)
theorem k144 : FnOk Tryz.prog gl 144 f144 := fnOk_of (by kernel_rfl) (by kernel_rfl) (by kernel_rfl)
theorem k147 : FnOk Tryz.prog gl 147 f147 := fnOk_of (by kernel_rfl) (by kernel_rfl) (by kernel_rfl)
theorem k149 : FnOk Tryz.prog gl 149 f149 := fnOk_of (by kernel_rfl) (by kernel_rfl) (by kernel_rfl)
theorem k150 : FnOk Tryz.prog gl 150 f150 := fnOk_of (by kernel_rfl) (by kernel_rfl) (by kernel_rfl)
theorem k156 : FnOk Tryz.prog gl 156 f156 := fnOk_of (by kernel_rfl) (by kernel_rfl) (by kernel_rfl)
theorem k172 : FnOk Tryz.prog gl 172 f172 := fnOk_of (by kernel_rfl) (by kernel_rfl) (by kernel_rfl)
theorem k174 : FnOk Tryz.prog gl 174 f174 := fnOk_of (by kernel_rfl) (by kernel_rfl) (by kernel_rfl)
theorem k182 : FnOk Tryz.prog gl 182 f182 := fnOk_of (by kernel_rfl) (by kernel_rfl) (by kernel_rfl)
theorem k198 : FnOk Tryz.prog gl 198 f198 := fnOk_of (by kernel_rfl) (by kernel_rfl) (by kernel_rfl)
end Tab
end Go.Tidy
