/- A part of the proof. -/
import Derived.Test.YtmlckgmocdmgiaaGreatDoorTabQT
import Derived.Test.YtmlckgmocdmgiaaGreatDoorPa1
import Derived.Test.YtmlckgmocdmgiaaGreatDoorProg
import Derived.KernelRfl
set_option linter.all false
namespace Go.Tidy
open Go Go.Proofs
namespace Tab
theorem k8 : FnOk Tryz.prog gl 8 f8 := fnOk_of (by kernel_rfl) (by kernel_rfl) (by kernel_rfl)
theorem k21 : FnOk Tryz.prog gl 21 f21 := fnOk_of (by kernel_rfl) (by kernel_rfl) (by kernel_rfl)
theorem k22 : FnOk Tryz.prog gl 22 f22 := fnOk_of (by kernel_rfl) (by kernel_rfl) (by kernel_rfl)
theorem k23 : FnOk Tryz.prog gl 23 f23 := fnOk_of (by kernel_rfl) (by kernel_rfl) (by kernel_rfl)
theorem k26 : FnOk Tryz.prog gl 26 f26 := fnOk_of (by kernel_rfl) (by kernel_rfl) (by kernel_rfl)
theorem k32 : FnOk Tryz.prog gl 32 f32 := fnOk_of (by kernel_rfl) (by kernel_rfl) (by kernel_rfl)
theorem k41 : FnOk Tryz.prog gl 41 f41 := fnOk_of (by kernel_rfl) (by kernel_rfl) (by kernel_rfl)
theorem k43 : FnOk Tryz.prog gl 43 f43 := fnOk_of (by kernel_rfl) (by kernel_rfl) (by kernel_rfl)
theorem k58 : FnOk Tryz.prog gl 58 f58 := fnOk_of (by kernel_rfl) (by kernel_rfl) (by kernel_rfl)
theorem k60 : FnOk Tryz.prog gl 60 f60 := fnOk_of (by kernel_rfl) (by kernel_rfl) (by kernel_rfl)
theorem k64 : FnOk Tryz.prog gl 64 f64 := fnOk_of (by kernel_rfl) (by kernel_rfl) (by kernel_rfl)
theorem k73 : FnOk Tryz.prog gl 73 f73 := fnOk_of (by kernel_rfl) (by kernel_rfl) (by kernel_rfl)
theorem k90 : FnOk Tryz.prog gl 90 f90 := fnOk_of (by kernel_rfl) (by kernel_rfl) (by kernel_rfl)
theorem k92 : FnOk Tryz.prog gl 92 f92 := fnOk_of (by kernel_rfl) (by kernel_rfl) (by kernel_rfl)
theorem k93 : FnOk Tryz.prog gl 93 f93 := fnOk_of (by kernel_rfl) (by kernel_rfl) (by kernel_rfl)
theorem k100 : FnOk Tryz.prog gl 100 f100 := fnOk_of (by kernel_rfl) (by kernel_rfl) (by kernel_rfl)
theorem k101 : FnOk Tryz.prog gl 101 f101 := fnOk_of (by kernel_rfl) (by kernel_rfl) (by kernel_rfl)
theorem k113 : FnOk Tryz.prog gl 113 f113 := fnOk_of (by kernel_rfl) (by kernel_rfl) (by kernel_rfl)
theorem k116 : FnOk Tryz.prog gl 116 f116 := fnOk_of (by kernel_rfl) (by kernel_rfl) (by kernel_rfl)
theorem k118 : FnOk Tryz.prog gl 118 f118 := fnOk_of (by kernel_rfl) (by kernel_rfl) (by kernel_rfl)
theorem k119 : FnOk Tryz.prog gl 119 f119 := fnOk_of (by kernel_rfl) (by kernel_rfl) (by kernel_rfl)
theorem k122 : FnOk Tryz.prog gl 122 f122 := fnOk_of (by kernel_rfl) (by kernel_rfl) (by kernel_rfl)
theorem k123 : FnOk Tryz.prog gl 123 f123 := fnOk_of (by kernel_rfl) (by kernel_rfl) (by kernel_rfl)
theorem k125 : FnOk Tryz.prog gl 125 f125 := fnOk_of (by kernel_rfl) (by kernel_rfl) (by kernel_rfl)
theorem k133 : FnOk Tryz.prog gl 133 f133 := fnOk_of (by kernel_rfl) (by kernel_rfl) (by kernel_rfl)
theorem k134 : FnOk Tryz.prog gl 134 f134 := fnOk_of (by kernel_rfl) (by kernel_rfl) (by kernel_rfl)
theorem k137 : FnOk Tryz.prog gl 137 f137 := fnOk_of (by kernel_rfl) (by kernel_rfl) (by kernel_rfl)
theorem k153 : FnOk Tryz.prog gl 153 f153 := fnOk_of (by kernel_rfl) (by kernel_rfl) (by kernel_rfl)
theorem k158 : FnOk Tryz.prog gl 158 f158 := fnOk_of (by kernel_rfl) (by kernel_rfl) (by kernel_rfl)
theorem k160 : FnOk Tryz.prog gl 160 f160 := fnOk_of (by kernel_rfl) (by kernel_rfl) (by kernel_rfl)
theorem k167 : FnOk Tryz.prog gl 167 f167 := fnOk_of (by kernel_rfl) (by kernel_rfl) (by kernel_rfl)
theorem k173 : FnOk Tryz.prog gl 173 f173 := fnOk_of (by kernel_rfl) (by kernel_rfl) (by kernel_rfl)
theorem k186 : FnOk Tryz.prog gl 186 f186 := fnOk_of (by kernel_rfl) (by kernel_rfl) (by kernel_rfl)
theorem k189 : FnOk Tryz.prog gl 189 f189 := fnOk_of (by kernel_rfl) (by kernel_rfl) (by kernel_rfl)
theorem k190 : FnOk Tryz.prog gl 190 f190 := fnOk_of (by kernel_rfl) (by kernel_rfl) (by kernel_rfl)
theorem k201 : FnOk Tryz.prog gl 201 f201 := fnOk_of (by kernel_rfl) (by kernel_rfl) (by kernel_rfl)
end Tab
end Go.Tidy
