/- A part of the proof. -/
import Derived.Test.YtmlckgmocdmgiaaGreatDoorTabQT
import Derived.Test.YtmlckgmocdmgiaaGreatDoorPa1
import Derived.Test.YtmlckgmocdmgiaaGreatDoorProg
import Derived.KernelRfl
set_option linter.all false
namespace Go.Tidy
open Go Go.Proofs
namespace Tab
theorem k13 : FnOk Tryz.prog gl 13 f13 := fnOk_of (by kernel_rfl) (by kernel_rfl) (by kernel_rfl)
theorem k15 : FnOk Tryz.prog gl 15 f15 := fnOk_of (by kernel_rfl) (by kernel_rfl) (by kernel_rfl)
theorem k18 : FnOk Tryz.prog gl 18 f18 := fnOk_of (by kernel_rfl) (by kernel_rfl) (by kernel_rfl)
theorem k24 : FnOk Tryz.prog gl 24 f24 := fnOk_of (by kernel_rfl) (by kernel_rfl) (by kernel_rfl)
theorem k43 : FnOk Tryz.prog gl 43 f43 := fnOk_of (by kernel_rfl) (by kernel_rfl) (by kernel_rfl)
theorem k45 : FnOk Tryz.prog gl 45 f45 := fnOk_of (by kernel_rfl) (by kernel_rfl) (by kernel_rfl)
theorem k65 : FnOk Tryz.prog gl 65 f65 := fnOk_of (by kernel_rfl) (by kernel_rfl) (by kernel_rfl)
theorem k70 : FnOk Tryz.prog gl 70 f70 := fnOk_of (by kernel_rfl) (by kernel_rfl) (by kernel_rfl)
theorem k74 : FnOk Tryz.prog gl 74 f74 := fnOk_of (by kernel_rfl) (by kernel_rfl) (by kernel_rfl)
theorem k77 : FnOk Tryz.prog gl 77 f77 := fnOk_of (by kernel_rfl) (by kernel_rfl) (by kernel_rfl)
theorem k78 : FnOk Tryz.prog gl 78 f78 := fnOk_of (by kernel_rfl) (by kernel_rfl) (by kernel_rfl)
theorem k89 : FnOk Tryz.prog gl 89 f89 := fnOk_of (by kernel_rfl) (by kernel_rfl) (by kernel_rfl)
theorem k91 : FnOk Tryz.prog gl 91 f91 := fnOk_of (by kernel_rfl) (by kernel_rfl) (by kernel_rfl)
theorem k109 : FnOk Tryz.prog gl 109 f109 := fnOk_of (by kernel_rfl) (by kernel_rfl) (by kernel_rfl)
theorem k117 : FnOk Tryz.prog gl 117 f117 := fnOk_of (by kernel_rfl) (by kernel_rfl) (by kernel_rfl)
theorem k119 : FnOk Tryz.prog gl 119 f119 := fnOk_of (by kernel_rfl) (by kernel_rfl) (by kernel_rfl)
theorem k127 : FnOk Tryz.prog gl 127 f127 := fnOk_of (by kernel_rfl) (by kernel_rfl) (by kernel_rfl)
theorem k130 : FnOk Tryz.prog gl 130 f130 := fnOk_of (by kernel_rfl) (by kernel_rfl) (by kernel_rfl)
theorem k131 : FnOk Tryz.prog gl 131 f131 := fnOk_of (by kernel_rfl) (by kernel_rfl) (by kernel_rfl)
theorem k133 : FnOk Tryz.prog gl 133 f133 := fnOk_of (by kernel_rfl) (by kernel_rfl) (by kernel_rfl)
theorem k135 : FnOk Tryz.prog gl 135 f135 := fnOk_of (by kernel_rfl) (by kernel_rfl) (by kernel_rfl)
theorem k138 : FnOk Tryz.prog gl 138 f138 := fnOk_of (by kernel_rfl) (by kernel_rfl) (by kernel_rfl)
theorem k151 : FnOk Tryz.prog gl 151 f151 := fnOk_of (by kernel_rfl) (by kernel_rfl) (by kernel_rfl)
theorem k155 : FnOk Tryz.prog gl 155 f155 := fnOk_of (by kernel_rfl) (by kernel_rfl) (by kernel_rfl)
theorem k157 : FnOk Tryz.prog gl 157 f157 := fnOk_of (by kernel_rfl) (by kernel_rfl) (by kernel_rfl)
theorem k172 : FnOk Tryz.prog gl 172 f172 := fnOk_of (by kernel_rfl) (by kernel_rfl) (by kernel_rfl)
theorem k173 : FnOk Tryz.prog gl 173 f173 := fnOk_of (by kernel_rfl) (by kernel_rfl) (by kernel_rfl)
theorem k182 : FnOk Tryz.prog gl 182 f182 := fnOk_of (by kernel_rfl) (by kernel_rfl) (by kernel_rfl)
theorem k186 : FnOk Tryz.prog gl 186 f186 := fnOk_of (by kernel_rfl) (by kernel_rfl) (by kernel_rfl)
theorem k191 : FnOk Tryz.prog gl 191 f191 := fnOk_of (by kernel_rfl) (by kernel_rfl) (by kernel_rfl)
theorem k198 : FnOk Tryz.prog gl 198 f198 := fnOk_of (by kernel_rfl) (by kernel_rfl) (by kernel_rfl)
theorem k200 : FnOk Tryz.prog gl 200 f200 := fnOk_of (by kernel_rfl) (by kernel_rfl) (by kernel_rfl)
theorem k201 : FnOk Tryz.prog gl 201 f201 := fnOk_of (by kernel_rfl) (by kernel_rfl) (by kernel_rfl)
end Tab
end Go.Tidy
