/- A part of the proof. -/
import Derived.Test.YtcgodmeccmkcaaaGreatDoorTabQT
import Derived.Test.YtcgodmeccmkcaaaGreatDoorPa1
import Derived.Test.YtcgodmeccmkcaaaGreatDoorProg
import Derived.KernelRfl
set_option linter.all false
namespace Go.Tidy
open Go Go.Proofs
namespace Tab
theorem k18:FnOk Tryz.prog gl 61 f18:=fnOk_of (by kernel_rfl) (by kernel_rfl) (by kernel_rfl)
theorem k155:FnOk Tryz.prog gl 151 f155:=fnOk_of (by kernel_rfl) (by kernel_rfl) (by kernel_rfl)
theorem k174:FnOk Tryz.prog gl 165 f174:=fnOk_of (by kernel_rfl) (by kernel_rfl) (by kernel_rfl)
theorem k189:FnOk Tryz.prog gl 170 f189:=fnOk_of (by kernel_rfl) (by kernel_rfl) (by kernel_rfl)
theorem k190:FnOk Tryz.prog gl 171 f190:=fnOk_of (by kernel_rfl) (by kernel_rfl) (by kernel_rfl)
theorem k1112:FnOk Tryz.prog gl 11 f1112:=fnOk_of (by kernel_rfl) (by kernel_rfl) (by kernel_rfl)
theorem k1118:FnOk Tryz.prog gl 17 f1118:=fnOk_of (by kernel_rfl) (by kernel_rfl) (by kernel_rfl)
theorem k1122:FnOk Tryz.prog gl 22 f1122:=fnOk_of (by kernel_rfl) (by kernel_rfl) (by kernel_rfl)
theorem k1124:FnOk Tryz.prog gl 24 f1124:=fnOk_of (by kernel_rfl) (by kernel_rfl) (by kernel_rfl)
theorem k1126:FnOk Tryz.prog gl 26 f1126:=fnOk_of (by kernel_rfl) (by kernel_rfl) (by kernel_rfl)
theorem k1150:FnOk Tryz.prog gl 53 f1150:=fnOk_of (by kernel_rfl) (by kernel_rfl) (by kernel_rfl)
theorem k1152:FnOk Tryz.prog gl 55 f1152:=fnOk_of (by kernel_rfl) (by kernel_rfl) (by kernel_rfl)
theorem k1169:FnOk Tryz.prog gl 59 f1169:=fnOk_of (by kernel_rfl) (by kernel_rfl) (by kernel_rfl)
theorem k1174:FnOk Tryz.prog gl 65 f1174:=fnOk_of (by kernel_rfl) (by kernel_rfl) (by kernel_rfl)
theorem k1182:FnOk Tryz.prog gl 77 f1182:=fnOk_of (by kernel_rfl) (by kernel_rfl) (by kernel_rfl)
theorem k1191:FnOk Tryz.prog gl 91 f1191:=fnOk_of (by kernel_rfl) (by kernel_rfl) (by kernel_rfl)
theorem k1192:FnOk Tryz.prog gl 92 f1192:=fnOk_of (by kernel_rfl) (by kernel_rfl) (by kernel_rfl)
theorem k1199:FnOk Tryz.prog gl 99 f1199:=fnOk_of (by kernel_rfl) (by kernel_rfl) (by kernel_rfl)
theorem k1200:FnOk Tryz.prog gl 100 f1200:=fnOk_of (by kernel_rfl) (by kernel_rfl) (by kernel_rfl)
theorem k1210:FnOk Tryz.prog gl 122 f1210:=fnOk_of (by kernel_rfl) (by kernel_rfl) (by kernel_rfl)
theorem k1211:FnOk Tryz.prog gl 123 f1211:=fnOk_of (by kernel_rfl) (by kernel_rfl) (by kernel_rfl)
theorem k1217:FnOk Tryz.prog gl 119 f1217:=fnOk_of (by kernel_rfl) (by kernel_rfl) (by kernel_rfl)
theorem k1223:FnOk Tryz.prog gl 133 f1223:=fnOk_of (by kernel_rfl) (by kernel_rfl) (by kernel_rfl)
theorem k1224:FnOk Tryz.prog gl 134 f1224:=fnOk_of (by kernel_rfl) (by kernel_rfl) (by kernel_rfl)
theorem k1225:FnOk Tryz.prog gl 135 f1225:=fnOk_of (by kernel_rfl) (by kernel_rfl) (by kernel_rfl)
theorem k1226:FnOk Tryz.prog gl 137 f1226:=fnOk_of (by kernel_rfl) (by kernel_rfl) (by kernel_rfl)
theorem k1232:FnOk Tryz.prog gl 153 f1232:=fnOk_of (by kernel_rfl) (by kernel_rfl) (by kernel_rfl)
end Tab
end Go.Tidy
