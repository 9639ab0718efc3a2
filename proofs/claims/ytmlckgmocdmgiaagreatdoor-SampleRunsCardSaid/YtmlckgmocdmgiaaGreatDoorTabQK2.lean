/- A part of the proof. -/
import Derived.Test.YtmlckgmocdmgiaaGreatDoorTabQT
import Derived.Test.YtmlckgmocdmgiaaGreatDoorPa1
import Derived.Test.YtmlckgmocdmgiaaGreatDoorProg
import Derived.KernelRfl
set_option linter.all false
namespace Go.Tidy
open Go Go.Proofs
namespace Tab
theorem k7 : FnOk Tryz.prog gl 7 f7 := fnOk_of (by kernel_rfl) (by kernel_rfl) (by kernel_rfl)
theorem k8 : FnOk Tryz.prog gl 8 f8 := fnOk_of (by kernel_rfl) (by kernel_rfl) (by kernel_rfl)
theorem k17 : FnOk Tryz.prog gl 17 f17 := fnOk_of (by kernel_rfl) (by kernel_rfl) (by kernel_rfl)
theorem k21 : FnOk Tryz.prog gl 21 f21 := fnOk_of (by kernel_rfl) (by kernel_rfl) (by kernel_rfl)
theorem k22 : FnOk Tryz.prog gl 22 f22 := fnOk_of (by kernel_rfl) (by kernel_rfl) (by kernel_rfl)
theorem k23 : FnOk Tryz.prog gl 23 f23 := fnOk_of (by kernel_rfl) (by kernel_rfl) (by kernel_rfl)
theorem k27 : FnOk Tryz.prog gl 27 f27 := fnOk_of (by kernel_rfl) (by kernel_rfl) (by kernel_rfl)
theorem k32 : FnOk Tryz.prog gl 32 f32 := fnOk_of (by kernel_rfl) (by kernel_rfl) (by kernel_rfl)
theorem k39 : FnOk Tryz.prog gl 39 f39 := fnOk_of (by kernel_rfl) (by kernel_rfl) (by kernel_rfl)
theorem k41 : FnOk Tryz.prog gl 41 f41 := fnOk_of (by kernel_rfl) (by kernel_rfl) (by kernel_rfl)
theorem k42 : FnOk Tryz.prog gl 42 f42 := fnOk_of (by kernel_rfl) (by kernel_rfl) (by kernel_rfl)
theorem k49 : FnOk Tryz.prog gl 49 f49 := fnOk_of (by kernel_rfl) (by kernel_rfl) (by kernel_rfl)
theorem k57 : FnOk Tryz.prog gl 57 f57 := fnOk_of (by kernel_rfl) (by kernel_rfl) (by kernel_rfl)
theorem k60 : FnOk Tryz.prog gl 60 f60 := fnOk_of (by kernel_rfl) (by kernel_rfl) (by kernel_rfl)
theorem k65 : FnOk Tryz.prog gl 65 f65 := fnOk_of (by kernel_rfl) (by kernel_rfl) (by kernel_rfl)
theorem k70 : FnOk Tryz.prog gl 70 f70 := fnOk_of (by kernel_rfl) (by kernel_rfl) (by kernel_rfl)
theorem k76 : FnOk Tryz.prog gl 76 f76 := fnOk_of (by kernel_rfl) (by kernel_rfl) (by kernel_rfl)
theorem k81 : FnOk Tryz.prog gl 81 f81 := fnOk_of (by kernel_rfl) (by kernel_rfl) (by kernel_rfl)
theorem k82 : FnOk Tryz.prog gl 82 f82 := fnOk_of (by kernel_rfl) (by kernel_rfl) (by kernel_rfl)
theorem k84 : FnOk Tryz.prog gl 84 f84 := fnOk_of (by kernel_rfl) (by kernel_rfl) (by kernel_rfl)
theorem k90 : FnOk Tryz.prog gl 90 f90 := fnOk_of (by kernel_rfl) (by kernel_rfl) (by kernel_rfl)
theorem k91 : FnOk Tryz.prog gl 91 f91 := fnOk_of (by kernel_rfl) (by kernel_rfl) (by kernel_rfl)
theorem k92 : FnOk Tryz.prog gl 92 f92 := fnOk_of (by kernel_rfl) (by kernel_rfl) (by kernel_rfl)
theorem k95 : FnOk Tryz.prog gl 95 f95 := fnOk_of (by kernel_rfl) (by kernel_rfl) (by kernel_rfl)
theorem k100 : FnOk Tryz.prog gl 100 f100 := fnOk_of (by kernel_rfl) (by kernel_rfl) (by kernel_rfl)
theorem k105 : FnOk Tryz.prog gl 105 f105 := fnOk_of (by kernel_rfl) (by kernel_rfl) (by kernel_rfl)
theorem k115 : FnOk Tryz.prog gl 115 f115 := fnOk_of (by kernel_rfl) (by kernel_rfl) (by kernel_rfl)
theorem k117 : FnOk Tryz.prog gl 117 f117 := fnOk_of (by kernel_rfl) (by kernel_rfl) (by kernel_rfl)
theorem k118 : FnOk Tryz.prog gl 118 f118 := fnOk_of (by kernel_rfl) (by kernel_rfl) (by kernel_rfl)
theorem k125 : FnOk Tryz.prog gl 125 f125 := fnOk_of (by kernel_rfl) (by kernel_rfl) (by kernel_rfl)
theorem k132 : FnOk Tryz.prog gl 132 f132 := fnOk_of (by kernel_rfl) (by kernel_rfl) (by kernel_rfl)
theorem k134 : FnOk Tryz.prog gl 134 f134 := fnOk_of (by kernel_rfl) (by kernel_rfl) (by kernel_rfl)
theorem k145 : FnOk Tryz.prog gl 145 f145 := fnOk_of (by kernel_rfl) (by kernel_rfl) (by kernel_rfl)
theorem k153 : FnOk Tryz.prog gl 153 f153 := fnOk_of (by kernel_rfl) (by kernel_rfl) (by kernel_rfl)
theorem k154 : FnOk Tryz.prog gl 154 f154 := fnOk_of (by kernel_rfl) (by kernel_rfl) (by kernel_rfl)
theorem k158 : FnOk Tryz.prog gl 158 f158 := fnOk_of (by kernel_rfl) (by kernel_rfl) (by kernel_rfl)
theorem k167 : FnOk Tryz.prog gl 167 f167 := fnOk_of (by kernel_rfl) (by kernel_rfl) (by kernel_rfl)
theorem k168 : FnOk Tryz.prog gl 168 f168 := fnOk_of (by kernel_rfl) (by kernel_rfl) (by kernel_rfl)
theorem k176 : FnOk Tryz.prog gl 176 f176 := fnOk_of (by kernel_rfl) (by kernel_rfl) (by kernel_rfl)
theorem k198 : FnOk Tryz.prog gl 198 f198 := fnOk_of (by kernel_rfl) (by kernel_rfl) (by kernel_rfl)
end Tab
end Go.Tidy
