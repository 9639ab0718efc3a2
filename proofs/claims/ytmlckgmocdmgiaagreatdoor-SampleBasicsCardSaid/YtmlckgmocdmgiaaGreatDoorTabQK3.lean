/- A part of the proof. -/
import Derived.Test.YtmlckgmocdmgiaaGreatDoorTabQT
import Derived.Test.YtmlckgmocdmgiaaGreatDoorPa1
import Derived.Test.YtmlckgmocdmgiaaGreatDoorProg
import Derived.KernelRfl
set_option linter.all false
namespace Go.Tidy
open Go Go.Proofs
namespace Tab
theorem k4 : FnOk Tryz.prog gl 4 f4 := fnOk_of (by kernel_rfl) (by kernel_rfl) (by kernel_rfl)
theorem k5 : FnOk Tryz.prog gl 5 f5 := fnOk_of (by kernel_rfl) (by kernel_rfl) (by kernel_rfl)
theorem k7 : FnOk Tryz.prog gl 7 f7 := fnOk_of (by kernel_rfl) (by kernel_rfl) (by kernel_rfl)
theorem k17 : FnOk Tryz.prog gl 17 f17 := fnOk_of (by kernel_rfl) (by kernel_rfl) (by kernel_rfl)
theorem k19 : FnOk Tryz.prog gl 19 f19 := fnOk_of (by kernel_rfl) (by kernel_rfl) (by kernel_rfl)
theorem k26 : FnOk Tryz.prog gl 26 f26 := fnOk_of (by kernel_rfl) (by kernel_rfl) (by kernel_rfl)
theorem k28 : FnOk Tryz.prog gl 28 f28 := fnOk_of (by kernel_rfl) (by kernel_rfl) (by kernel_rfl)
theorem k29 : FnOk Tryz.prog gl 29 f29 := fnOk_of (by kernel_rfl) (by kernel_rfl) (by kernel_rfl)
theorem k44 : FnOk Tryz.prog gl 44 f44 := fnOk_of (by kernel_rfl) (by kernel_rfl) (by kernel_rfl)
theorem k49 : FnOk Tryz.prog gl 49 f49 := fnOk_of (by kernel_rfl) (by kernel_rfl) (by kernel_rfl)
theorem k53 : FnOk Tryz.prog gl 53 f53 := fnOk_of (by kernel_rfl) (by kernel_rfl) (by kernel_rfl)
theorem k57 : FnOk Tryz.prog gl 57 f57 := fnOk_of (by kernel_rfl) (by kernel_rfl) (by kernel_rfl)
theorem k59 : FnOk Tryz.prog gl 59 f59 := fnOk_of (by kernel_rfl) (by kernel_rfl) (by kernel_rfl)
theorem k60 : FnOk Tryz.prog gl 60 f60 := fnOk_of (by kernel_rfl) (by kernel_rfl) (by kernel_rfl)
theorem k62 : FnOk Tryz.prog gl 62 f62 := fnOk_of (by kernel_rfl) (by kernel_rfl) (by kernel_rfl)
theorem k63 : FnOk Tryz.prog gl 63 f63 := fnOk_of (by kernel_rfl) (by kernel_rfl) (by kernel_rfl)
theorem k67 : FnOk Tryz.prog gl 67 f67 := fnOk_of (by kernel_rfl) (by kernel_rfl) (by kernel_rfl)
theorem k69 : FnOk Tryz.prog gl 69 f69 := fnOk_of (by kernel_rfl) (by kernel_rfl) (by kernel_rfl)
theorem k73 : FnOk Tryz.prog gl 73 f73 := fnOk_of (by kernel_rfl) (by kernel_rfl) (by kernel_rfl)
theorem k76 : FnOk Tryz.prog gl 76 f76 := fnOk_of (by kernel_rfl) (by kernel_rfl) (by kernel_rfl)
theorem k79 : FnOk Tryz.prog gl 79 f79 := fnOk_of (by kernel_rfl) (by kernel_rfl) (by kernel_rfl)
theorem k84 : FnOk Tryz.prog gl 84 f84 := fnOk_of (by kernel_rfl) (by kernel_rfl) (by kernel_rfl)
theorem k88 : FnOk Tryz.prog gl 88 f88 := fnOk_of (by kernel_rfl) (by kernel_rfl) (by kernel_rfl)
theorem k99 : FnOk Tryz.prog gl 99 f99 := fnOk_of (by kernel_rfl) (by kernel_rfl) (by kernel_rfl)
theorem k103 : FnOk Tryz.prog gl 103 f103 := fnOk_of (by kernel_rfl) (by kernel_rfl) (by kernel_rfl)
theorem k104 : FnOk Tryz.prog gl 104 f104 := fnOk_of (by kernel_rfl) (by kernel_rfl) (by kernel_rfl)
theorem k113 : FnOk Tryz.prog gl 113 f113 := fnOk_of (by kernel_rfl) (by kernel_rfl) (by kernel_rfl)
theorem k115 : FnOk Tryz.prog gl 115 f115 := fnOk_of (by kernel_rfl) (by kernel_rfl) (by kernel_rfl)
theorem k120 : FnOk Tryz.prog gl 120 f120 := fnOk_of (by kernel_rfl) (by kernel_rfl) (by kernel_rfl)
theorem k121 : FnOk Tryz.prog gl 121 f121 := fnOk_of (by kernel_rfl) (by kernel_rfl) (by kernel_rfl)
theorem k145 : FnOk Tryz.prog gl 145 f145 := fnOk_of (by kernel_rfl) (by kernel_rfl) (by kernel_rfl)
theorem k150 : FnOk Tryz.prog gl 150 f150 := fnOk_of (by kernel_rfl) (by kernel_rfl) (by kernel_rfl)
theorem k168 : FnOk Tryz.prog gl 168 f168 := fnOk_of (by kernel_rfl) (by kernel_rfl) (by kernel_rfl)
theorem k176 : FnOk Tryz.prog gl 176 f176 := fnOk_of (by kernel_rfl) (by kernel_rfl) (by kernel_rfl)
theorem k189 : FnOk Tryz.prog gl 189 f189 := fnOk_of (by kernel_rfl) (by kernel_rfl) (by kernel_rfl)
end Tab
end Go.Tidy
