/- A part of the proof. -/
import Derived.Test.YtjibbhaeaikhpaaGreatDoorTabQT
import Derived.Test.YtjibbhaeaikhpaaGreatDoorPa1
import Derived.Test.YtjibbhaeaikhpaaGreatDoorProg
import Derived.KernelRfl
set_option linter.all false
namespace Go.Tidy
open Go Go.Proofs
namespace Tab
theorem k14:FnOk Tryz.prog gl 16 f14:=fnOk_of (by kernel_rfl) (by kernel_rfl) (by kernel_rfl)
theorem k21:FnOk Tryz.prog gl 23 f21:=fnOk_of (by kernel_rfl) (by kernel_rfl) (by kernel_rfl)
theorem k22:FnOk Tryz.prog gl 24 f22:=fnOk_of (by kernel_rfl) (by kernel_rfl) (by kernel_rfl)
theorem k41:FnOk Tryz.prog gl 43 f41:=fnOk_of (by kernel_rfl) (by kernel_rfl) (by kernel_rfl)
theorem k62:FnOk Tryz.prog gl 84 f62:=fnOk_of (by kernel_rfl) (by kernel_rfl) (by kernel_rfl)
theorem k66:FnOk Tryz.prog gl 58 f66:=fnOk_of (by kernel_rfl) (by kernel_rfl) (by kernel_rfl)
theorem k69:FnOk Tryz.prog gl 69 f69:=fnOk_of (by kernel_rfl) (by kernel_rfl) (by kernel_rfl)
theorem k71:FnOk Tryz.prog gl 87 f71:=fnOk_of (by kernel_rfl) (by kernel_rfl) (by kernel_rfl)
theorem k84:FnOk Tryz.prog gl 100 f84:=fnOk_of (by kernel_rfl) (by kernel_rfl) (by kernel_rfl)
theorem k85:FnOk Tryz.prog gl 101 f85:=fnOk_of (by kernel_rfl) (by kernel_rfl) (by kernel_rfl)
theorem k86:FnOk Tryz.prog gl 102 f86:=fnOk_of (by kernel_rfl) (by kernel_rfl) (by kernel_rfl)
theorem k108:FnOk Tryz.prog gl 124 f108:=fnOk_of (by kernel_rfl) (by kernel_rfl) (by kernel_rfl)
theorem k109:FnOk Tryz.prog gl 125 f109:=fnOk_of (by kernel_rfl) (by kernel_rfl) (by kernel_rfl)
theorem k111:FnOk Tryz.prog gl 162 f111:=fnOk_of (by kernel_rfl) (by kernel_rfl) (by kernel_rfl)
theorem k112:FnOk Tryz.prog gl 163 f112:=fnOk_of (by kernel_rfl) (by kernel_rfl) (by kernel_rfl)
theorem k116:FnOk Tryz.prog gl 127 f116:=fnOk_of (by kernel_rfl) (by kernel_rfl) (by kernel_rfl)
theorem k119:FnOk Tryz.prog gl 133 f119:=fnOk_of (by kernel_rfl) (by kernel_rfl) (by kernel_rfl)
theorem k121:FnOk Tryz.prog gl 140 f121:=fnOk_of (by kernel_rfl) (by kernel_rfl) (by kernel_rfl)
theorem k124:FnOk Tryz.prog gl 150 f124:=fnOk_of (by kernel_rfl) (by kernel_rfl) (by kernel_rfl)
theorem k127:FnOk Tryz.prog gl 141 f127:=fnOk_of (by kernel_rfl) (by kernel_rfl) (by kernel_rfl)
theorem k128:FnOk Tryz.prog gl 142 f128:=fnOk_of (by kernel_rfl) (by kernel_rfl) (by kernel_rfl)
theorem k131:FnOk Tryz.prog gl 166 f131:=fnOk_of (by kernel_rfl) (by kernel_rfl) (by kernel_rfl)
theorem k136:FnOk Tryz.prog gl 171 f136:=fnOk_of (by kernel_rfl) (by kernel_rfl) (by kernel_rfl)
theorem k149:FnOk Tryz.prog gl 183 f149:=fnOk_of (by kernel_rfl) (by kernel_rfl) (by kernel_rfl)
theorem k150:FnOk Tryz.prog gl 205 f150:=fnOk_of (by kernel_rfl) (by kernel_rfl) (by kernel_rfl)
theorem k153:FnOk Tryz.prog gl 57 f153:=fnOk_of (by kernel_rfl) (by kernel_rfl) (by kernel_rfl)
theorem k157:FnOk Tryz.prog gl 193 f157:=fnOk_of (by kernel_rfl) (by kernel_rfl) (by kernel_rfl)
theorem k158:FnOk Tryz.prog gl 194 f158:=fnOk_of (by kernel_rfl) (by kernel_rfl) (by kernel_rfl)
theorem k165:FnOk Tryz.prog gl 210 f165:=fnOk_of (by kernel_rfl) (by kernel_rfl) (by kernel_rfl)
theorem k167:FnOk Tryz.prog gl 212 f167:=fnOk_of (by kernel_rfl) (by kernel_rfl) (by kernel_rfl)
theorem k169:FnOk Tryz.prog gl 228 f169:=fnOk_of (by kernel_rfl) (by kernel_rfl) (by kernel_rfl)
theorem k192:FnOk Tryz.prog gl 233 f192:=fnOk_of (by kernel_rfl) (by kernel_rfl) (by kernel_rfl)
theorem k1020:FnOk Tryz.prog gl 67 f1020:=fnOk_of (by kernel_rfl) (by kernel_rfl) (by kernel_rfl)
end Tab
end Go.Tidy
