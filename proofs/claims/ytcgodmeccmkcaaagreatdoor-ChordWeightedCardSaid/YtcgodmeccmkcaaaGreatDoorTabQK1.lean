/- A part of the proof. -/
import Derived.Test.YtcgodmeccmkcaaaGreatDoorTabQT
import Derived.Test.YtcgodmeccmkcaaaGreatDoorPa1
import Derived.Test.YtcgodmeccmkcaaaGreatDoorProg
import Derived.KernelRfl
set_option linter.all false
namespace Go.Tidy
open Go Go.Proofs
namespace Tab
theorem k71:FnOk Tryz.prog gl 69 f71:=fnOk_of (by kernel_rfl) (by kernel_rfl) (by kernel_rfl)
theorem k154:FnOk Tryz.prog gl 150 f154:=fnOk_of (by kernel_rfl) (by kernel_rfl) (by kernel_rfl)
theorem k189:FnOk Tryz.prog gl 170 f189:=fnOk_of (by kernel_rfl) (by kernel_rfl) (by kernel_rfl)
theorem k1071:FnOk Tryz.prog gl 146 f1071:=fnOk_of (by kernel_rfl) (by kernel_rfl) (by kernel_rfl)
theorem k1117:FnOk Tryz.prog gl 16 f1117:=fnOk_of (by kernel_rfl) (by kernel_rfl) (by kernel_rfl)
theorem k1118:FnOk Tryz.prog gl 17 f1118:=fnOk_of (by kernel_rfl) (by kernel_rfl) (by kernel_rfl)
theorem k1121:FnOk Tryz.prog gl 21 f1121:=fnOk_of (by kernel_rfl) (by kernel_rfl) (by kernel_rfl)
theorem k1123:FnOk Tryz.prog gl 23 f1123:=fnOk_of (by kernel_rfl) (by kernel_rfl) (by kernel_rfl)
theorem k1126:FnOk Tryz.prog gl 26 f1126:=fnOk_of (by kernel_rfl) (by kernel_rfl) (by kernel_rfl)
theorem k1142:FnOk Tryz.prog gl 42 f1142:=fnOk_of (by kernel_rfl) (by kernel_rfl) (by kernel_rfl)
theorem k1150:FnOk Tryz.prog gl 53 f1150:=fnOk_of (by kernel_rfl) (by kernel_rfl) (by kernel_rfl)
theorem k1159:FnOk Tryz.prog gl 66 f1159:=fnOk_of (by kernel_rfl) (by kernel_rfl) (by kernel_rfl)
theorem k1169:FnOk Tryz.prog gl 59 f1169:=fnOk_of (by kernel_rfl) (by kernel_rfl) (by kernel_rfl)
theorem k1173:FnOk Tryz.prog gl 64 f1173:=fnOk_of (by kernel_rfl) (by kernel_rfl) (by kernel_rfl)
theorem k1174:FnOk Tryz.prog gl 65 f1174:=fnOk_of (by kernel_rfl) (by kernel_rfl) (by kernel_rfl)
theorem k1175:FnOk Tryz.prog gl 67 f1175:=fnOk_of (by kernel_rfl) (by kernel_rfl) (by kernel_rfl)
theorem k1180:FnOk Tryz.prog gl 75 f1180:=fnOk_of (by kernel_rfl) (by kernel_rfl) (by kernel_rfl)
theorem k1186:FnOk Tryz.prog gl 83 f1186:=fnOk_of (by kernel_rfl) (by kernel_rfl) (by kernel_rfl)
theorem k1187:FnOk Tryz.prog gl 86 f1187:=fnOk_of (by kernel_rfl) (by kernel_rfl) (by kernel_rfl)
theorem k1195:FnOk Tryz.prog gl 95 f1195:=fnOk_of (by kernel_rfl) (by kernel_rfl) (by kernel_rfl)
theorem k1197:FnOk Tryz.prog gl 97 f1197:=fnOk_of (by kernel_rfl) (by kernel_rfl) (by kernel_rfl)
theorem k1199:FnOk Tryz.prog gl 99 f1199:=fnOk_of (by kernel_rfl) (by kernel_rfl) (by kernel_rfl)
theorem k1211:FnOk Tryz.prog gl 123 f1211:=fnOk_of (by kernel_rfl) (by kernel_rfl) (by kernel_rfl)
theorem k1212:FnOk Tryz.prog gl 128 f1212:=fnOk_of (by kernel_rfl) (by kernel_rfl) (by kernel_rfl)
theorem k1216:FnOk Tryz.prog gl 118 f1216:=fnOk_of (by kernel_rfl) (by kernel_rfl) (by kernel_rfl)
theorem k1225:FnOk Tryz.prog gl 135 f1225:=fnOk_of (by kernel_rfl) (by kernel_rfl) (by kernel_rfl)
theorem k1235:FnOk Tryz.prog gl 176 f1235:=fnOk_of (by kernel_rfl) (by kernel_rfl) (by kernel_rfl)
end Tab
end Go.Tidy
