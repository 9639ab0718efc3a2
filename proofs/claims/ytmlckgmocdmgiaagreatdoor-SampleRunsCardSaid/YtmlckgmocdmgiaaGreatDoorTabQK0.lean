/- A part of the proof. -/
import Derived.Test.YtmlckgmocdmgiaaGreatDoorTabQT
import Derived.Test.YtmlckgmocdmgiaaGreatDoorPa1
import Derived.Test.YtmlckgmocdmgiaaGreatDoorProg
import Derived.KernelRfl
set_option linter.all false
namespace Go.Tidy
open Go Go.Proofs
namespace Tab
theorem k3 : FnOk Tryz.prog gl 3 f3 := fnOk_of (by kernel_rfl) (by kernel_rfl) (by kernel_rfl)
theorem k11 : FnOk Tryz.prog gl 11 f11 := fnOk_of (by kernel_rfl) (by kernel_rfl) (by kernel_rfl)
theorem k18 : FnOk Tryz.prog gl 18 f18 := fnOk_of (by kernel_rfl) (by kernel_rfl) (by kernel_rfl)
theorem k25 : FnOk Tryz.prog gl 25 f25 := fnOk_of (by kernel_rfl) (by kernel_rfl) (by kernel_rfl)
theorem k28 : FnOk Tryz.prog gl 28 f28 := fnOk_of (by kernel_rfl) (by kernel_rfl) (by kernel_rfl)
theorem k29 : FnOk Tryz.prog gl 29 f29 := fnOk_of (by kernel_rfl) (by kernel_rfl) (by kernel_rfl)
theorem k35 : FnOk Tryz.prog gl 35 f35 := fnOk_of (by kernel_rfl) (by kernel_rfl) (by kernel_rfl)
theorem k38 : FnOk Tryz.prog gl 38 f38 := fnOk_of (by kernel_rfl) (by kernel_rfl) (by kernel_rfl)
theorem k43 : FnOk Tryz.prog gl 43 f43 := fnOk_of (by kernel_rfl) (by kernel_rfl) (by kernel_rfl)
theorem k61 : FnOk Tryz.prog gl 61 f61 := fnOk_of (by kernel_rfl) (by kernel_rfl) (by kernel_rfl)
theorem k62 : FnOk Tryz.prog gl 62 f62 := fnOk_of (by kernel_rfl) (by kernel_rfl) (by kernel_rfl)
theorem k64 : FnOk Tryz.prog gl 64 f64 := fnOk_of (by kernel_rfl) (by kernel_rfl) (by kernel_rfl)
theorem k67 : FnOk Tryz.prog gl 67 f67 := fnOk_of (by kernel_rfl) (by kernel_rfl) (by kernel_rfl)
theorem k71 : FnOk Tryz.prog gl 71 f71 := fnOk_of (by kernel_rfl) (by kernel_rfl) (by kernel_rfl)
theorem k72 : FnOk Tryz.prog gl 72 f72 := fnOk_of (by kernel_rfl) (by kernel_rfl) (by kernel_rfl)
theorem k73 : FnOk Tryz.prog gl 73 f73 := fnOk_of (by kernel_rfl) (by kernel_rfl) (by kernel_rfl)
theorem k75 : FnOk Tryz.prog gl 75 f75 := fnOk_of (by kernel_rfl) (by kernel_rfl) (by kernel_rfl)
theorem k78 : FnOk Tryz.prog gl 78 f78 := fnOk_of (by kernel_rfl) (by kernel_rfl) (by kernel_rfl)
theorem k97 : FnOk Tryz.prog gl 97 f97 := fnOk_of (by kernel_rfl) (by kernel_rfl) (by kernel_rfl)
theorem k102 : FnOk Tryz.prog gl 102 f102 := fnOk_of (by kernel_rfl) (by kernel_rfl) (by kernel_rfl)
theorem k103 : FnOk Tryz.prog gl 103 f103 := fnOk_of (by kernel_rfl) (by kernel_rfl) (by kernel_rfl)
theorem k104 : FnOk Tryz.prog gl 104 f104 := fnOk_of (by kernel_rfl) (by kernel_rfl) (by kernel_rfl)
theorem k119 : FnOk Tryz.prog gl 119 f119 := fnOk_of (by kernel_rfl) (by kernel_rfl) (by kernel_rfl)
theorem k122 : FnOk Tryz.prog gl 122 f122 := fnOk_of (by kernel_rfl) (by kernel_rfl) (by kernel_rfl)
theorem k130 : FnOk Tryz.prog gl 130 f130 := fnOk_of (by kernel_rfl) (by kernel_rfl) (by kernel_rfl)
theorem k135 : FnOk Tryz.prog gl 135 f135 := fnOk_of (by kernel_rfl) (by kernel_rfl) (by kernel_rfl)
theorem k138 : FnOk Tryz.prog gl 138 f138 := fnOk_of (by kernel_rfl) (by kernel_rfl) (by kernel_rfl)
theorem k142 : FnOk Tryz.prog gl 142 f142 := fnOk_of (by kernel_rfl) (by kernel_rfl) (by kernel_rfl)
theorem k149 : FnOk Tryz.prog gl 149 f149 := fnOk_of (by kernel_rfl) (by kernel_rfl) (by kernel_rfl)
theorem k150 : FnOk Tryz.prog gl 150 f150 := fnOk_of (by kernel_rfl) (by kernel_rfl) (by kernel_rfl)
theorem k157 : FnOk Tryz.prog gl 157 f157 := fnOk_of (by kernel_rfl) (by kernel_rfl) (by kernel_rfl)
theorem k169 : FnOk Tryz.prog gl 169 f169 := fnOk_of (by kernel_rfl) (by kernel_rfl) (by kernel_rfl)
theorem k172 : FnOk Tryz.prog gl 172 f172 := fnOk_of (by kernel_rfl) (by kernel_rfl) (by kernel_rfl)
theorem k173 : FnOk Tryz.prog gl 173 f173 := fnOk_of (by kernel_rfl) (by kernel_rfl) (by kernel_rfl)
theorem k186 : FnOk Tryz.prog gl 186 f186 := fnOk_of (by kernel_rfl) (by kernel_rfl) (by kernel_rfl)
theorem k190 : FnOk Tryz.prog gl 190 f190 := fnOk_of (by kernel_rfl) (by kernel_rfl) (by kernel_rfl)
theorem k200 : FnOk Tryz.prog gl 200 f200 := fnOk_of (by kernel_rfl) (by kernel_rfl) (by kernel_rfl)
theorem k201 : FnOk Tryz.prog gl 201 f201 := fnOk_of (by kernel_rfl) (by kernel_rfl) (by kernel_rfl)
end Tab
end Go.Tidy
