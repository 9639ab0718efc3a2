/- A part of the proof. -/
import Derived.Test.YtcgodmeccmkcaaaGreatDoorTabQT
import Derived.Test.YtcgodmeccmkcaaaGreatDoorPa1
import Derived.Test.YtcgodmeccmkcaaaGreatDoorProg
import Derived.KernelRfl
set_option linter.all false
namespace Go.Tidy
open Go Go.Proofs
namespace Tab
theorem k13:FnOk Tryz.prog gl 84 f13:=fnOk_of (by kernel_rfl) (by kernel_rfl) (by kernel_rfl)
theorem k32:FnOk Tryz.prog gl 85 f32:=fnOk_of (by kernel_rfl) (by kernel_rfl) (by kernel_rfl)
theorem k154:FnOk Tryz.prog gl 150 f154:=fnOk_of (by kernel_rfl) (by kernel_rfl) (by kernel_rfl)
theorem k156:FnOk Tryz.prog gl 152 f156:=fnOk_of (by kernel_rfl) (by kernel_rfl) (by kernel_rfl)
theorem k1113:FnOk Tryz.prog gl 12 f1113:=fnOk_of (by kernel_rfl) (by kernel_rfl) (by kernel_rfl)
theorem k1123:FnOk Tryz.prog gl 23 f1123:=fnOk_of (by kernel_rfl) (by kernel_rfl) (by kernel_rfl)
theorem k1125:FnOk Tryz.prog gl 25 f1125:=fnOk_of (by kernel_rfl) (by kernel_rfl) (by kernel_rfl)
theorem k1127:FnOk Tryz.prog gl 27 f1127:=fnOk_of (by kernel_rfl) (by kernel_rfl) (by kernel_rfl)
theorem k1128:FnOk Tryz.prog gl 28 f1128:=fnOk_of (by kernel_rfl) (by kernel_rfl) (by kernel_rfl)
theorem k1131:FnOk Tryz.prog gl 31 f1131:=fnOk_of (by kernel_rfl) (by kernel_rfl) (by kernel_rfl)
theorem k1132:FnOk Tryz.prog gl 32 f1132:=fnOk_of (by kernel_rfl) (by kernel_rfl) (by kernel_rfl)
theorem k1141:FnOk Tryz.prog gl 41 f1141:=fnOk_of (by kernel_rfl) (by kernel_rfl) (by kernel_rfl)
theorem k1173:FnOk Tryz.prog gl 64 f1173:=fnOk_of (by kernel_rfl) (by kernel_rfl) (by kernel_rfl)
theorem k1177:FnOk Tryz.prog gl 72 f1177:=fnOk_of (by kernel_rfl) (by kernel_rfl) (by kernel_rfl)
theorem k1178:FnOk Tryz.prog gl 73 f1178:=fnOk_of (by kernel_rfl) (by kernel_rfl) (by kernel_rfl)
theorem k1179:FnOk Tryz.prog gl 74 f1179:=fnOk_of (by kernel_rfl) (by kernel_rfl) (by kernel_rfl)
theorem k1180:FnOk Tryz.prog gl 75 f1180:=fnOk_of (by kernel_rfl) (by kernel_rfl) (by kernel_rfl)
theorem k1183:FnOk Tryz.prog gl 80 f1183:=fnOk_of (by kernel_rfl) (by kernel_rfl) (by kernel_rfl)
theorem k1186:FnOk Tryz.prog gl 83 f1186:=fnOk_of (by kernel_rfl) (by kernel_rfl) (by kernel_rfl)
theorem k1189:FnOk Tryz.prog gl 89 f1189:=fnOk_of (by kernel_rfl) (by kernel_rfl) (by kernel_rfl)
theorem k1195:FnOk Tryz.prog gl 95 f1195:=fnOk_of (by kernel_rfl) (by kernel_rfl) (by kernel_rfl)
theorem k1198:FnOk Tryz.prog gl 98 f1198:=fnOk_of (by kernel_rfl) (by kernel_rfl) (by kernel_rfl)
theorem k1218:FnOk Tryz.prog gl 120 f1218:=fnOk_of (by kernel_rfl) (by kernel_rfl) (by kernel_rfl)
theorem k1229:FnOk Tryz.prog gl 147 f1229:=fnOk_of (by kernel_rfl) (by kernel_rfl) (by kernel_rfl)
end Tab
end Go.Tidy
