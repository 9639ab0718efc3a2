/- A part of the proof. -/
import Derived.Test.YtpmijenaggkpdaaGreatDoorTabQT
import Derived.Test.YtpmijenaggkpdaaGreatDoorPa1
import Derived.Test.YtpmijenaggkpdaaGreatDoorProg
import Derived.KernelRfl
set_option linter.all false
namespace Go.Tidy
open Go Go.Proofs
namespace Tab
theorem k14:FnOk Tryz.prog gl 14 f14:=fnOk_of (by kernel_rfl) (by kernel_rfl) (by kernel_rfl)
theorem k15:FnOk Tryz.prog gl 15 f15:=fnOk_of (by kernel_rfl) (by kernel_rfl) (by kernel_rfl)
theorem k18:FnOk Tryz.prog gl 18 f18:=fnOk_of (by kernel_rfl) (by kernel_rfl) (by kernel_rfl)
theorem k41:FnOk Tryz.prog gl 41 f41:=fnOk_of (by kernel_rfl) (by kernel_rfl) (by kernel_rfl)
theorem k43:FnOk Tryz.prog gl 43 f43:=fnOk_of (by kernel_rfl) (by kernel_rfl) (by kernel_rfl)
theorem k53:FnOk Tryz.prog gl 53 f53:=fnOk_of (by kernel_rfl) (by kernel_rfl) (by kernel_rfl)
theorem k83:FnOk Tryz.prog gl 83 f83:=fnOk_of (by kernel_rfl) (by kernel_rfl) (by kernel_rfl)
theorem k92:FnOk Tryz.prog gl 92 f92:=fnOk_of (by kernel_rfl) (by kernel_rfl) (by kernel_rfl)
theorem k93:FnOk Tryz.prog gl 93 f93:=fnOk_of (by kernel_rfl) (by kernel_rfl) (by kernel_rfl)
theorem k100:FnOk Tryz.prog gl 100 f100:=fnOk_of (by kernel_rfl) (by kernel_rfl) (by kernel_rfl)
theorem k109:FnOk Tryz.prog gl 109 f109:=fnOk_of (by kernel_rfl) (by kernel_rfl) (by kernel_rfl)
theorem k111:FnOk Tryz.prog gl 111 f111:=fnOk_of (by kernel_rfl) (by kernel_rfl) (by kernel_rfl)
theorem k116:FnOk Tryz.prog gl 116 f116:=fnOk_of (by kernel_rfl) (by kernel_rfl) (by kernel_rfl)
theorem k117:FnOk Tryz.prog gl 117 f117:=fnOk_of (by kernel_rfl) (by kernel_rfl) (by kernel_rfl)
theorem k118:FnOk Tryz.prog gl 118 f118:=fnOk_of (by kernel_rfl) (by kernel_rfl) (by kernel_rfl)
theorem k119:FnOk Tryz.prog gl 119 f119:=fnOk_of (by kernel_rfl) (by kernel_rfl) (by kernel_rfl)
theorem k123:FnOk Tryz.prog gl 123 f123:=fnOk_of (by kernel_rfl) (by kernel_rfl) (by kernel_rfl)
theorem k127:FnOk Tryz.prog gl 127 f127:=fnOk_of (by kernel_rfl) (by kernel_rfl) (by kernel_rfl)
theorem k128:FnOk Tryz.prog gl 128 f128:=fnOk_of (by kernel_rfl) (by kernel_rfl) (by kernel_rfl)
theorem k130:FnOk Tryz.prog gl 130 f130:=fnOk_of (by kernel_rfl) (by kernel_rfl) (by kernel_rfl)
theorem k131:FnOk Tryz.prog gl 131 f131:=fnOk_of (by kernel_rfl) (by kernel_rfl) (by kernel_rfl)
theorem k134:FnOk Tryz.prog gl 134 f134:=fnOk_of (by kernel_rfl) (by kernel_rfl) (by kernel_rfl)
theorem k135:FnOk Tryz.prog gl 135 f135:=fnOk_of (by kernel_rfl) (by kernel_rfl) (by kernel_rfl)
theorem k140:FnOk Tryz.prog gl 140 f140:=fnOk_of (by kernel_rfl) (by kernel_rfl) (by kernel_rfl)
theorem k147:FnOk Tryz.prog gl 147 f147:=fnOk_of (by kernel_rfl) (by kernel_rfl) (by kernel_rfl)
theorem k150:FnOk Tryz.prog gl 150 f150:=fnOk_of (by kernel_rfl) (by kernel_rfl) (by kernel_rfl)
theorem k153:FnOk Tryz.prog gl 153 f153:=fnOk_of (by kernel_rfl) (by kernel_rfl) (by kernel_rfl)
theorem k158:FnOk Tryz.prog gl 158 f158:=fnOk_of (by kernel_rfl) (by kernel_rfl) (by kernel_rfl)
theorem k165:FnOk Tryz.prog gl 165 f165:=fnOk_of (by kernel_rfl) (by kernel_rfl) (by kernel_rfl)
theorem k166:FnOk Tryz.prog gl 166 f166:=fnOk_of (by kernel_rfl) (by kernel_rfl) (by kernel_rfl)
theorem k167:FnOk Tryz.prog gl 167 f167:=fnOk_of (by kernel_rfl) (by kernel_rfl) (by kernel_rfl)
theorem k174:FnOk Tryz.prog gl 174 f174:=fnOk_of (by kernel_rfl) (by kernel_rfl) (by kernel_rfl)
theorem k175:FnOk Tryz.prog gl 175 f175:=fnOk_of (by kernel_rfl) (by kernel_rfl) (by kernel_rfl)
theorem k183:FnOk Tryz.prog gl 183 f183:=fnOk_of (by kernel_rfl) (by kernel_rfl) (by kernel_rfl)
theorem k187:FnOk Tryz.prog gl 187 f187:=fnOk_of (by kernel_rfl) (by kernel_rfl) (by kernel_rfl)
theorem k192:FnOk Tryz.prog gl 192 f192:=fnOk_of (by kernel_rfl) (by kernel_rfl) (by kernel_rfl)
end Tab
end Go.Tidy
