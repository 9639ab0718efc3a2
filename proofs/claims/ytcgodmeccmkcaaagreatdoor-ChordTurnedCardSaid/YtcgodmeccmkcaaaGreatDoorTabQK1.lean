/- A part of the proof. -/
import Derived.Test.YtcgodmeccmkcaaaGreatDoorTabQT
import Derived.Test.YtcgodmeccmkcaaaGreatDoorPa1
import Derived.Test.YtcgodmeccmkcaaaGreatDoorProg
import Derived.KernelRfl
set_option linter.all false
namespace Go.Tidy
open Go Go.Proofs
namespace Tab
theorem k13:FnOk Tryz.prog gl 84 f13:=fnOk_of (by kernel_rfl) (by kernel_rfl) (by kernel_rfl)
theorem k14:FnOk Tryz.prog gl 18 f14:=fnOk_of (by kernel_rfl) (by kernel_rfl) (by kernel_rfl)
theorem k18:FnOk Tryz.prog gl 61 f18:=fnOk_of (by kernel_rfl) (by kernel_rfl) (by kernel_rfl)
theorem k32:FnOk Tryz.prog gl 85 f32:=fnOk_of (by kernel_rfl) (by kernel_rfl) (by kernel_rfl)
theorem k126:FnOk Tryz.prog gl 132 f126:=fnOk_of (by kernel_rfl) (by kernel_rfl) (by kernel_rfl)
theorem k1108:FnOk Tryz.prog gl 10 f1108:=fnOk_of (by kernel_rfl) (by kernel_rfl) (by kernel_rfl)
theorem k1116:FnOk Tryz.prog gl 15 f1116:=fnOk_of (by kernel_rfl) (by kernel_rfl) (by kernel_rfl)
theorem k1125:FnOk Tryz.prog gl 25 f1125:=fnOk_of (by kernel_rfl) (by kernel_rfl) (by kernel_rfl)
theorem k1127:FnOk Tryz.prog gl 27 f1127:=fnOk_of (by kernel_rfl) (by kernel_rfl) (by kernel_rfl)
theorem k1132:FnOk Tryz.prog gl 32 f1132:=fnOk_of (by kernel_rfl) (by kernel_rfl) (by kernel_rfl)
theorem k1150:FnOk Tryz.prog gl 53 f1150:=fnOk_of (by kernel_rfl) (by kernel_rfl) (by kernel_rfl)
theorem k1152:FnOk Tryz.prog gl 55 f1152:=fnOk_of (by kernel_rfl) (by kernel_rfl) (by kernel_rfl)
theorem k1153:FnOk Tryz.prog gl 78 f1153:=fnOk_of (by kernel_rfl) (by kernel_rfl) (by kernel_rfl)
theorem k1154:FnOk Tryz.prog gl 87 f1154:=fnOk_of (by kernel_rfl) (by kernel_rfl) (by kernel_rfl)
theorem k1157:FnOk Tryz.prog gl 58 f1157:=fnOk_of (by kernel_rfl) (by kernel_rfl) (by kernel_rfl)
theorem k1177:FnOk Tryz.prog gl 72 f1177:=fnOk_of (by kernel_rfl) (by kernel_rfl) (by kernel_rfl)
theorem k1180:FnOk Tryz.prog gl 75 f1180:=fnOk_of (by kernel_rfl) (by kernel_rfl) (by kernel_rfl)
theorem k1193:FnOk Tryz.prog gl 93 f1193:=fnOk_of (by kernel_rfl) (by kernel_rfl) (by kernel_rfl)
theorem k1209:FnOk Tryz.prog gl 112 f1209:=fnOk_of (by kernel_rfl) (by kernel_rfl) (by kernel_rfl)
theorem k1210:FnOk Tryz.prog gl 122 f1210:=fnOk_of (by kernel_rfl) (by kernel_rfl) (by kernel_rfl)
theorem k1217:FnOk Tryz.prog gl 119 f1217:=fnOk_of (by kernel_rfl) (by kernel_rfl) (by kernel_rfl)
theorem k1221:FnOk Tryz.prog gl 126 f1221:=fnOk_of (by kernel_rfl) (by kernel_rfl) (by kernel_rfl)
theorem k1225:FnOk Tryz.prog gl 135 f1225:=fnOk_of (by kernel_rfl) (by kernel_rfl) (by kernel_rfl)
theorem k1226:FnOk Tryz.prog gl 137 f1226:=fnOk_of (by kernel_rfl) (by kernel_rfl) (by kernel_rfl)
theorem k1228:FnOk Tryz.prog gl 139 f1228:=fnOk_of (by kernel_rfl) (by kernel_rfl) (by kernel_rfl)
theorem k1230:FnOk Tryz.prog gl 148 f1230:=fnOk_of (by kernel_rfl) (by kernel_rfl) (by kernel_rfl)
end Tab
end Go.Tidy
