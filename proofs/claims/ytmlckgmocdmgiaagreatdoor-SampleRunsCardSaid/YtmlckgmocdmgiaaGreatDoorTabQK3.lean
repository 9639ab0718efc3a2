/- A part of the proof. -/
import Derived.Test.YtmlckgmocdmgiaaGreatDoorTabQT
import Derived.Test.YtmlckgmocdmgiaaGreatDoorPa1
import Derived.Test.YtmlckgmocdmgiaaGreatDoorProg
import Derived.KernelRfl
set_option linter.all false
namespace Go.Tidy
open Go Go.Proofs
namespace Tab
theorem k4 : FnOk Tryz.prog gl 4 f4 := fnOk_of (by kernel_rfl) (by kernel_rfl) (by kernel_rfl)
theorem k5 : FnOk Tryz.prog gl 5 f5 := fnOk_of (by kernel_rfl) (by kernel_rfl) (by kernel_rfl)
theorem k13 : FnOk Tryz.prog gl 13 f13 := fnOk_of (by kernel_rfl) (by kernel_rfl) (by kernel_rfl)
theorem k14 : FnOk Tryz.prog gl 14 f14 := fnOk_of (by kernel_rfl) (by kernel_rfl) (by kernel_rfl)
theorem k24 : FnOk Tryz.prog gl 24 f24 := fnOk_of (by kernel_rfl) (by kernel_rfl) (by kernel_rfl)
theorem k26 : FnOk Tryz.prog gl 26 f26 := fnOk_of (by kernel_rfl) (by kernel_rfl) (by kernel_rfl)
theorem k30 : FnOk Tryz.prog gl 30 f30 := fnOk_of (by kernel_rfl) (by kernel_rfl) (by kernel_rfl)
theorem k31 : FnOk Tryz.prog gl 31 f31 := fnOk_of (by kernel_rfl) (by kernel_rfl) (by kernel_rfl)
theorem k36 : FnOk Tryz.prog gl 36 f36 := fnOk_of (by kernel_rfl) (by kernel_rfl) (by kernel_rfl)
theorem k40 : FnOk Tryz.prog gl 40 f40 := fnOk_of (by kernel_rfl) (by kernel_rfl) (by kernel_rfl)
theorem k53 : FnOk Tryz.prog gl 53 f53 := fnOk_of (by kernel_rfl) (by kernel_rfl) (by kernel_rfl)
theorem k59 : FnOk Tryz.prog gl 59 f59 := fnOk_of (by kernel_rfl) (by kernel_rfl) (by kernel_rfl)
theorem k63 : FnOk Tryz.prog gl 63 f63 := fnOk_of (by kernel_rfl) (by kernel_rfl) (by kernel_rfl)
theorem k66 : FnOk Tryz.prog gl 66 f66 := fnOk_of (by kernel_rfl) (by kernel_rfl) (by kernel_rfl)
theorem k68 : FnOk Tryz.prog gl 68 f68 := fnOk_of (by kernel_rfl) (by kernel_rfl) (by kernel_rfl)
theorem k69 : FnOk Tryz.prog gl 69 f69 := fnOk_of (by kernel_rfl) (by kernel_rfl) (by kernel_rfl)
theorem k93 : FnOk Tryz.prog gl 93 f93 := fnOk_of (by kernel_rfl) (by kernel_rfl) (by kernel_rfl)
theorem k94 : FnOk Tryz.prog gl 94 f94 := fnOk_of (by kernel_rfl) (by kernel_rfl) (by kernel_rfl)
theorem k99 : FnOk Tryz.prog gl 99 f99 := fnOk_of (by kernel_rfl) (by kernel_rfl) (by kernel_rfl)
theorem k108 : FnOk Tryz.prog gl 108 f108 := fnOk_of (by kernel_rfl) (by kernel_rfl) (by kernel_rfl)
theorem k109 : FnOk Tryz.prog gl 109 f109 := fnOk_of (by kernel_rfl) (by kernel_rfl) (by kernel_rfl)
theorem k112 : FnOk Tryz.prog gl 112 f112 := fnOk_of (by kernel_rfl) (by kernel_rfl) (by kernel_rfl)
theorem k113 : FnOk Tryz.prog gl 113 f113 := fnOk_of (by kernel_rfl) (by kernel_rfl) (by kernel_rfl)
theorem k116 : FnOk Tryz.prog gl 116 f116 := fnOk_of (by kernel_rfl) (by kernel_rfl) (by kernel_rfl)
theorem k120 : FnOk Tryz.prog gl 120 f120 := fnOk_of (by kernel_rfl) (by kernel_rfl) (by kernel_rfl)
theorem k121 : FnOk Tryz.prog gl 121 f121 := fnOk_of (by kernel_rfl) (by kernel_rfl) (by kernel_rfl)
theorem k123 : FnOk Tryz.prog gl 123 f123 := fnOk_of (by kernel_rfl) (by kernel_rfl) (by kernel_rfl)
theorem k124 : FnOk Tryz.prog gl 124 f124 := fnOk_of (by kernel_rfl) (by kernel_rfl) (by kernel_rfl)
theorem k128 : FnOk Tryz.prog gl 128 f128 := fnOk_of (by kernel_rfl) (by kernel_rfl) (by kernel_rfl)
theorem k129 : FnOk Tryz.prog gl 129 f129 := fnOk_of (by kernel_rfl) (by kernel_rfl) (by kernel_rfl)
theorem k136 : FnOk Tryz.prog gl 136 f136 := fnOk_of (by kernel_rfl) (by kernel_rfl) (by kernel_rfl)
theorem k137 : FnOk Tryz.prog gl 137 f137 := fnOk_of (by kernel_rfl) (by kernel_rfl) (by kernel_rfl)
theorem k141 : FnOk Tryz.prog gl 141 f141 := fnOk_of (by kernel_rfl) (by kernel_rfl) (by kernel_rfl)
theorem k143 : FnOk Tryz.prog gl 143 f143 := fnOk_of (by kernel_rfl) (by kernel_rfl) (by kernel_rfl)
theorem k147 : FnOk Tryz.prog gl 147 f147 := fnOk_of (by kernel_rfl) (by kernel_rfl) (by kernel_rfl)
theorem k151 : FnOk Tryz.prog gl 151 f151 := fnOk_of (by kernel_rfl) (by kernel_rfl) (by kernel_rfl)
theorem k152 : FnOk Tryz.prog gl 152 f152 := fnOk_of (by kernel_rfl) (by kernel_rfl) (by kernel_rfl)
theorem k165 : FnOk Tryz.prog gl 165 f165 := fnOk_of (by kernel_rfl) (by kernel_rfl) (by kernel_rfl)
theorem k170 : FnOk Tryz.prog gl 170 f170 := fnOk_of (by kernel_rfl) (by kernel_rfl) (by kernel_rfl)
theorem k182 : FnOk Tryz.prog gl 182 f182 := fnOk_of (by kernel_rfl) (by kernel_rfl) (by kernel_rfl)
theorem k188 : FnOk Tryz.prog gl 188 f188 := fnOk_of (by kernel_rfl) (by kernel_rfl) (by kernel_rfl)
end Tab
end Go.Tidy
