/- A part of the proof. -/
import Derived.Test.YtcgodmeccmkcaaaGreatDoorTabQT
import Derived.Test.YtcgodmeccmkcaaaGreatDoorPa1
import Derived.Test.YtcgodmeccmkcaaaGreatDoorProg
import Derived.KernelRfl
set_option linter.all false
namespace Go.Tidy
open Go Go.Proofs
namespace Tab
theorem k2:FnOk Tryz.prog gl 2 f2:=fnOk_of (by kernel_rfl) (by kernel_rfl) (by kernel_rfl)
theorem k13:FnOk Tryz.prog gl 84 f13:=fnOk_of (by kernel_rfl) (by kernel_rfl) (by kernel_rfl)
theorem k72:FnOk Tryz.prog gl 79 f72:=fnOk_of (by kernel_rfl) (by kernel_rfl) (by kernel_rfl)
theorem k122:FnOk Tryz.prog gl 129 f122:=fnOk_of (by kernel_rfl) (by kernel_rfl) (by kernel_rfl)
theorem k123:FnOk Tryz.prog gl 130 f123:=fnOk_of (by kernel_rfl) (by kernel_rfl) (by kernel_rfl)
theorem k124:FnOk Tryz.prog gl 131 f124:=fnOk_of (by kernel_rfl) (by kernel_rfl) (by kernel_rfl)
theorem k126:FnOk Tryz.prog gl 132 f126:=fnOk_of (by kernel_rfl) (by kernel_rfl) (by kernel_rfl)
theorem k165:FnOk Tryz.prog gl 154 f165:=fnOk_of (by kernel_rfl) (by kernel_rfl) (by kernel_rfl)
theorem k1113:FnOk Tryz.prog gl 12 f1113:=fnOk_of (by kernel_rfl) (by kernel_rfl) (by kernel_rfl)
theorem k1132:FnOk Tryz.prog gl 32 f1132:=fnOk_of (by kernel_rfl) (by kernel_rfl) (by kernel_rfl)
theorem k1173:FnOk Tryz.prog gl 64 f1173:=fnOk_of (by kernel_rfl) (by kernel_rfl) (by kernel_rfl)
theorem k1174:FnOk Tryz.prog gl 65 f1174:=fnOk_of (by kernel_rfl) (by kernel_rfl) (by kernel_rfl)
theorem k1182:FnOk Tryz.prog gl 77 f1182:=fnOk_of (by kernel_rfl) (by kernel_rfl) (by kernel_rfl)
theorem k1183:FnOk Tryz.prog gl 80 f1183:=fnOk_of (by kernel_rfl) (by kernel_rfl) (by kernel_rfl)
theorem k1190:FnOk Tryz.prog gl 90 f1190:=fnOk_of (by kernel_rfl) (by kernel_rfl) (by kernel_rfl)
theorem k1191:FnOk Tryz.prog gl 91 f1191:=fnOk_of (by kernel_rfl) (by kernel_rfl) (by kernel_rfl)
theorem k1199:FnOk Tryz.prog gl 99 f1199:=fnOk_of (by kernel_rfl) (by kernel_rfl) (by kernel_rfl)
theorem k1212:FnOk Tryz.prog gl 128 f1212:=fnOk_of (by kernel_rfl) (by kernel_rfl) (by kernel_rfl)
theorem k1220:FnOk Tryz.prog gl 125 f1220:=fnOk_of (by kernel_rfl) (by kernel_rfl) (by kernel_rfl)
theorem k1224:FnOk Tryz.prog gl 134 f1224:=fnOk_of (by kernel_rfl) (by kernel_rfl) (by kernel_rfl)
theorem k1227:FnOk Tryz.prog gl 138 f1227:=fnOk_of (by kernel_rfl) (by kernel_rfl) (by kernel_rfl)
theorem k1233:FnOk Tryz.prog gl 166 f1233:=fnOk_of (by kernel_rfl) (by kernel_rfl) (by kernel_rfl)
theorem k1235:FnOk Tryz.prog gl 176 f1235:=fnOk_of (by kernel_rfl) (by kernel_rfl) (by kernel_rfl)
end Tab
end Go.Tidy
