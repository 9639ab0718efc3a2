/- A part of the proof. -/
import Derived.Test.YtpmijenaggkpdaaGreatDoorTabQT
import Derived.Test.YtpmijenaggkpdaaGreatDoorPa1
import Derived.Test.YtpmijenaggkpdaaGreatDoorProg
import Derived.KernelRfl
set_option linter.all false
namespace Go.Tidy
open Go Go.Proofs
namespace Tab
theorem k5:FnOk Tryz.prog gl 5 f5:=fnOk_of (by kernel_rfl) (by kernel_rfl) (by kernel_rfl)
theorem k7:FnOk Tryz.prog gl 7 f7:=fnOk_of (by kernel_rfl) (by kernel_rfl) (by kernel_rfl)
theorem k11:FnOk Tryz.prog gl 11 f11:=fnOk_of (by kernel_rfl) (by kernel_rfl) (by kernel_rfl)
theorem k13:FnOk Tryz.prog gl 13 f13:=fnOk_of (by kernel_rfl) (by kernel_rfl) (by kernel_rfl)
theorem k16:FnOk Tryz.prog gl 16 f16:=fnOk_of (by kernel_rfl) (by kernel_rfl) (by kernel_rfl)
theorem k25:FnOk Tryz.prog gl 25 f25:=fnOk_of (by kernel_rfl) (by kernel_rfl) (by kernel_rfl)
theorem k55:FnOk Tryz.prog gl 55 f55:=fnOk_of (by kernel_rfl) (by kernel_rfl) (by kernel_rfl)
theorem k60:FnOk Tryz.prog gl 60 f60:=fnOk_of (by kernel_rfl) (by kernel_rfl) (by kernel_rfl)
theorem k62:FnOk Tryz.prog gl 62 f62:=fnOk_of (by kernel_rfl) (by kernel_rfl) (by kernel_rfl)
theorem k65:FnOk Tryz.prog gl 65 f65:=fnOk_of (by kernel_rfl) (by kernel_rfl) (by kernel_rfl)
theorem k70:FnOk Tryz.prog gl 70 f70:=fnOk_of (by kernel_rfl) (by kernel_rfl) (by kernel_rfl)
theorem k78:FnOk Tryz.prog gl 78 f78:=fnOk_of (by kernel_rfl) (by kernel_rfl) (by kernel_rfl)
theorem k85:FnOk Tryz.prog gl 85 f85:=fnOk_of (by kernel_rfl) (by kernel_rfl) (by kernel_rfl)
theorem k87:FnOk Tryz.prog gl 87 f87:=fnOk_of (by kernel_rfl) (by kernel_rfl) (by kernel_rfl)
theorem k88:FnOk Tryz.prog gl 88 f88:=fnOk_of (by kernel_rfl) (by kernel_rfl) (by kernel_rfl)
theorem k89:FnOk Tryz.prog gl 89 f89:=fnOk_of (by kernel_rfl) (by kernel_rfl) (by kernel_rfl)
theorem k91:FnOk Tryz.prog gl 91 f91:=fnOk_of (by kernel_rfl) (by kernel_rfl) (by kernel_rfl)
theorem k99:FnOk Tryz.prog gl 99 f99:=fnOk_of (by kernel_rfl) (by kernel_rfl) (by kernel_rfl)
theorem k104:FnOk Tryz.prog gl 104 f104:=fnOk_of (by kernel_rfl) (by kernel_rfl) (by kernel_rfl)
theorem k105:FnOk Tryz.prog gl 105 f105:=fnOk_of (by kernel_rfl) (by kernel_rfl) (by kernel_rfl)
theorem k112:FnOk Tryz.prog gl 112 f112:=fnOk_of (by kernel_rfl) (by kernel_rfl) (by kernel_rfl)
theorem k123:FnOk Tryz.prog gl 123 f123:=fnOk_of (by kernel_rfl) (by kernel_rfl) (by kernel_rfl)
theorem k124:FnOk Tryz.prog gl 124 f124:=fnOk_of (by kernel_rfl) (by kernel_rfl) (by kernel_rfl)
theorem k127:FnOk Tryz.prog gl 127 f127:=fnOk_of (by kernel_rfl) (by kernel_rfl) (by kernel_rfl)
theorem k131:FnOk Tryz.prog gl 131 f131:=fnOk_of (by kernel_rfl) (by kernel_rfl) (by kernel_rfl)
theorem k145:FnOk Tryz.prog gl 145 f145:=fnOk_of (by kernel_rfl) (by kernel_rfl) (by kernel_rfl)
theorem k146:FnOk Tryz.prog gl 146 f146:=fnOk_of (by kernel_rfl) (by kernel_rfl) (by kernel_rfl)
theorem k147:FnOk Tryz.prog gl 147 f147:=fnOk_of (by kernel_rfl) (by kernel_rfl) (by kernel_rfl)
theorem k149:FnOk Tryz.prog gl 149 f149:=fnOk_of (by kernel_rfl) (by kernel_rfl) (by kernel_rfl)
theorem k152:FnOk Tryz.prog gl 152 f152:=fnOk_of (by kernel_rfl) (by kernel_rfl) (by kernel_rfl)
theorem k153:FnOk Tryz.prog gl 153 f153:=fnOk_of (by kernel_rfl) (by kernel_rfl) (by kernel_rfl)
theorem k165:FnOk Tryz.prog gl 165 f165:=fnOk_of (by kernel_rfl) (by kernel_rfl) (by kernel_rfl)
theorem k166:FnOk Tryz.prog gl 166 f166:=fnOk_of (by kernel_rfl) (by kernel_rfl) (by kernel_rfl)
theorem k168:FnOk Tryz.prog gl 168 f168:=fnOk_of (by kernel_rfl) (by kernel_rfl) (by kernel_rfl)
theorem k174:FnOk Tryz.prog gl 174 f174:=fnOk_of (by kernel_rfl) (by kernel_rfl) (by kernel_rfl)
theorem k177:FnOk Tryz.prog gl 177 f177:=fnOk_of (by kernel_rfl) (by kernel_rfl) (by kernel_rfl)
theorem k187:FnOk Tryz.prog gl 187 f187:=fnOk_of (by kernel_rfl) (by kernel_rfl) (by kernel_rfl)
theorem k191:FnOk Tryz.prog gl 191 f191:=fnOk_of (by kernel_rfl) (by kernel_rfl) (by kernel_rfl)
end Tab
end Go.Tidy
