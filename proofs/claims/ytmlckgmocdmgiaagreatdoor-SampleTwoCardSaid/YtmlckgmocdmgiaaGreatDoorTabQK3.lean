/- A part of the proof. -/
import Derived.Test.YtmlckgmocdmgiaaGreatDoorTabQT
import Derived.Test.YtmlckgmocdmgiaaGreatDoorPa1
import Derived.Test.YtmlckgmocdmgiaaGreatDoorProg
import Derived.KernelRfl
set_option linter.all false
namespace Go.Tidy
open Go Go.Proofs
namespace Tab
theorem k4 : FnOk Tryz.prog gl 4 f4 := fnOk_of (by kernel_rfl) (by kernel_rfl) (by kernel_rfl)
theorem k5 : FnOk Tryz.prog gl 5 f5 := fnOk_of (by kernel_rfl) (by kernel_rfl) (by kernel_rfl)
theorem k12 : FnOk Tryz.prog gl 12 f12 := fnOk_of (by kernel_rfl) (by kernel_rfl) (by kernel_rfl)
theorem k14 : FnOk Tryz.prog gl 14 f14 := fnOk_of (by kernel_rfl) (by kernel_rfl) (by kernel_rfl)
theorem k17 : FnOk Tryz.prog gl 17 f17 := fnOk_of (by kernel_rfl) (by kernel_rfl) (by kernel_rfl)
theorem k25 : FnOk Tryz.prog gl 25 f25 := fnOk_of (by kernel_rfl) (by kernel_rfl) (by kernel_rfl)
theorem k44 : FnOk Tryz.prog gl 44 f44 := fnOk_of (by kernel_rfl) (by kernel_rfl) (by kernel_rfl)
theorem k52 : FnOk Tryz.prog gl 52 f52 := fnOk_of (by kernel_rfl) (by kernel_rfl) (by kernel_rfl)
theorem k53 : FnOk Tryz.prog gl 53 f53 := fnOk_of (by kernel_rfl) (by kernel_rfl) (by kernel_rfl)
theorem k58 : FnOk Tryz.prog gl 58 f58 := fnOk_of (by kernel_rfl) (by kernel_rfl) (by kernel_rfl)
theorem k63 : FnOk Tryz.prog gl 63 f63 := fnOk_of (by kernel_rfl) (by kernel_rfl) (by kernel_rfl)
theorem k67 : FnOk Tryz.prog gl 67 f67 := fnOk_of (by kernel_rfl) (by kernel_rfl) (by kernel_rfl)
theorem k69 : FnOk Tryz.prog gl 69 f69 := fnOk_of (by kernel_rfl) (by kernel_rfl) (by kernel_rfl)
theorem k75 : FnOk Tryz.prog gl 75 f75 := fnOk_of (by kernel_rfl) (by kernel_rfl) (by kernel_rfl)
theorem k77 : FnOk Tryz.prog gl 77 f77 := fnOk_of (by kernel_rfl) (by kernel_rfl) (by kernel_rfl)
theorem k82 : FnOk Tryz.prog gl 82 f82 := fnOk_of (by kernel_rfl) (by kernel_rfl) (by kernel_rfl)
theorem k86 : FnOk Tryz.prog gl 86 f86 := fnOk_of (by kernel_rfl) (by kernel_rfl) (by kernel_rfl)
theorem k90 : FnOk Tryz.prog gl 90 f90 := fnOk_of (by kernel_rfl) (by kernel_rfl) (by kernel_rfl)
theorem k92 : FnOk Tryz.prog gl 92 f92 := fnOk_of (by kernel_rfl) (by kernel_rfl) (by kernel_rfl)
theorem k93 : FnOk Tryz.prog gl 93 f93 := fnOk_of (by kernel_rfl) (by kernel_rfl) (by kernel_rfl)
theorem k94 : FnOk Tryz.prog gl 94 f94 := fnOk_of (by kernel_rfl) (by kernel_rfl) (by kernel_rfl)
theorem k97 : FnOk Tryz.prog gl 97 f97 := fnOk_of (by kernel_rfl) (by kernel_rfl) (by kernel_rfl)
theorem k107 : FnOk Tryz.prog gl 107 f107 := fnOk_of (by kernel_rfl) (by kernel_rfl) (by kernel_rfl)
theorem k111 : FnOk Tryz.prog gl 111 f111 := fnOk_of (by kernel_rfl) (by kernel_rfl) (by kernel_rfl)
theorem k121 : FnOk Tryz.prog gl 121 f121 := fnOk_of (by kernel_rfl) (by kernel_rfl) (by kernel_rfl)
theorem k122 : FnOk Tryz.prog gl 122 f122 := fnOk_of (by kernel_rfl) (by kernel_rfl) (by kernel_rfl)
theorem k128 : FnOk Tryz.prog gl 128 f128 := fnOk_of (by kernel_rfl) (by kernel_rfl) (by kernel_rfl)
theorem k129 : FnOk Tryz.prog gl 129 f129 := fnOk_of (by kernel_rfl) (by kernel_rfl) (by kernel_rfl)
theorem k138 : FnOk Tryz.prog gl 138 f138 := fnOk_of (by kernel_rfl) (by kernel_rfl) (by kernel_rfl)
theorem k144 : FnOk Tryz.prog gl 144 f144 := fnOk_of (by kernel_rfl) (by kernel_rfl) (by kernel_rfl)
theorem k149 : FnOk Tryz.prog gl 149 f149 := fnOk_of (by kernel_rfl) (by kernel_rfl) (by kernel_rfl)
theorem k157 : FnOk Tryz.prog gl 157 f157 := fnOk_of (by kernel_rfl) (by kernel_rfl) (by kernel_rfl)
theorem k158 : FnOk Tryz.prog gl 158 f158 := fnOk_of (by kernel_rfl) (by kernel_rfl) (by kernel_rfl)
theorem k165 : FnOk Tryz.prog gl 165 f165 := fnOk_of (by kernel_rfl) (by kernel_rfl) (by kernel_rfl)
theorem k166 : FnOk Tryz.prog gl 166 f166 := fnOk_of (by kernel_rfl) (by kernel_rfl) (by kernel_rfl)
theorem k169 : FnOk Tryz.prog gl 169 f169 := fnOk_of (by kernel_rfl) (by kernel_rfl) (by kernel_rfl)
theorem k182 : FnOk Tryz.prog gl 182 f182 := fnOk_of (by kernel_rfl) (by kernel_rfl) (by kernel_rfl)
theorem k189 : FnOk Tryz.prog gl 189 f189 := fnOk_of (by kernel_rfl) (by kernel_rfl) (by kernel_rfl)
theorem k201 : FnOk Tryz.prog gl 201 f201 := fnOk_of (by kernel_rfl) (by kernel_rfl) (by kernel_rfl)
end Tab
end Go.Tidy
