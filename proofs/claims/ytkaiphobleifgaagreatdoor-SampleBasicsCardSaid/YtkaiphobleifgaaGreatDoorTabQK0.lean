/- These are the functions of the program. -/
import Derived.Test.YtkaiphobleifgaaGreatDoorTabQT
import Derived.Test.YtkaiphobleifgaaGreatDoorTd5
import Derived.Test.YtkaiphobleifgaaGreatDoorProg
import Derived.KernelRfl
set_option linter.all false
namespace Go.Tidy
open Go Go.Proofs
namespace Tab
theorem k14 : FnOk Tryz.prog gl 14 f14 := fnOk_of (by kernel_rfl) (by kernel_rfl) (by kernel_rfl)
theorem k30 : FnOk Tryz.prog gl 30 f30 := fnOk_of (by kernel_rfl) (by kernel_rfl) (by kernel_rfl)
theorem k46 : FnOk Tryz.prog gl 46 f46 := fnOk_of (by kernel_rfl) (by kernel_rfl) (by kernel_rfl)
theorem k73 : FnOk Tryz.prog gl 73 f73 := fnOk_of (by kernel_rfl) (by kernel_rfl) (by kernel_rfl)
theorem k84 : FnOk Tryz.prog gl 84 f84 := fnOk_of (by kernel_rfl) (by kernel_rfl) (by kernel_rfl)
theorem k86 : FnOk Tryz.prog gl 86 f86 := fnOk_of (by kernel_rfl) (by kernel_rfl) (by kernel_rfl)
theorem k96 : FnOk Tryz.prog gl 96 f96 := fnOk_of (by kernel_rfl) (by kernel_rfl) (by kernel_rfl)
theorem k99 : FnOk Tryz.prog gl 99 f99 := fnOk_of (by kernel_rfl) (by kernel_rfl) (by kernel_rfl)
theorem k112 : FnOk Tryz.prog gl 112 f112 := fnOk_of (by kernel_rfl) (by kernel_rfl) (by kernel_rfl)
theorem k116 : FnOk Tryz.prog gl 116 f116 := fnOk_of (by kernel_rfl) (by kernel_rfl) (by kernel_rfl)
theorem k117 : FnOk Tryz.prog gl 117 f117 := fnOk_of (by kernel_rfl) (by kernel_rfl) (by kernel_rfl)
theorem k118 : FnOk Tryz.prog gl 118 f118 := fnOk_of (by kernel_rfl) (by kernel_rfl) (by kernel_rfl)
theorem k119 : FnOk Tryz.prog gl 119 f119 := fnOk_of (by kernel_rfl) (by kernel_rfl) (by kernel_rfl)
theorem k122 : FnOk Tryz.prog gl 122 f122 := fnOk_of (by kernel_rfl) (by kernel_rfl) (by kernel_rfl)
theorem k123 : FnOk Tryz.prog gl 123 f123 := fnOk_of (by kernel_rfl) (by kernel_rfl) (by kernel_rfl)
theorem k125 : FnOk Tryz.prog gl 125 f125 := fnOk_of (by kernel_rfl) (by kernel_rfl) (by kernel_rfl)
theorem k127 : FnOk Tryz.prog gl 127 f127 := fnOk_of (by kernel_rfl) (by kernel_rfl) (by kernel_rfl)
theorem k139 : FnOk Tryz.prog gl 139 f139 := fnOk_of (by kernel_rfl) (by kernel_rfl) (by kernel_rfl)
theorem k146 : FnOk Tryz.prog gl 146 f146 := fnOk_of (by kernel_rfl) (by kernel_rfl) (by kernel_rfl)
theorem k147 : FnOk Tryz.prog gl 147 f147 := fnOk_of (by kernel_rfl) (by kernel_rfl) (by kernel_rfl)
theorem k156 : FnOk Tryz.prog gl 156 f156 := fnOk_of (by kernel_rfl) (by kernel_rfl) (by kernel_rfl)
theorem k170 : FnOk Tryz.prog gl 170 f170 := fnOk_of (by kernel_rfl) (by kernel_rfl) (by kernel_rfl)
theorem k173 : FnOk Tryz.prog gl 173 f173 := fnOk_of (by kernel_rfl) (by kernel_rfl) (by kernel_rfl)
theorem k182 : FnOk Tryz.prog gl 182 f182 := fnOk_of (by kernel_rfl) (by kernel_rfl) (by kernel_rfl)
theorem k214 : FnOk Tryz.prog gl 214 f214 := fnOk_of (by kernel_rfl) (by kernel_rfl) (by kernel_rfl)
theorem k216 : FnOk Tryz.prog gl 216 f216 := fnOk_of (by kernel_rfl) (by kernel_rfl) (by kernel_rfl)
theorem k219 : FnOk Tryz.prog gl 219 f219 := fnOk_of (by kernel_rfl) (by kernel_rfl) (by kernel_rfl)
theorem k229 : FnOk Tryz.prog gl 229 f229 := fnOk_of (by kernel_rfl) (by kernel_rfl) (by kernel_rfl)
theorem k242 : FnOk Tryz.prog gl 242 f242 := fnOk_of (by kernel_rfl) (by kernel_rfl) (by kernel_rfl)
theorem k257 : FnOk Tryz.prog gl 257 f257 := fnOk_of (by kernel_rfl) (by kernel_rfl) (by kernel_rfl)
theorem k258 : FnOk Tryz.prog gl 258 f258 := fnOk_of (by kernel_rfl) (by kernel_rfl) (by kernel_rfl)
end Tab
end Go.Tidy
