/- A part of the proof. -/
import Derived.Test.YtcgodmeccmkcaaaGreatDoorTabQT
import Derived.Test.YtcgodmeccmkcaaaGreatDoorPa1
import Derived.Test.YtcgodmeccmkcaaaGreatDoorProg
import Derived.KernelRfl
set_option linter.all false
namespace Go.Tidy
open Go Go.Proofs
namespace Tab
theorem k13:FnOk Tryz.prog gl 84 f13:=fnOk_of (by kernel_rfl) (by kernel_rfl) (by kernel_rfl)
theorem k18:FnOk Tryz.prog gl 61 f18:=fnOk_of (by kernel_rfl) (by kernel_rfl) (by kernel_rfl)
theorem k32:FnOk Tryz.prog gl 85 f32:=fnOk_of (by kernel_rfl) (by kernel_rfl) (by kernel_rfl)
theorem k156:FnOk Tryz.prog gl 152 f156:=fnOk_of (by kernel_rfl) (by kernel_rfl) (by kernel_rfl)
theorem k1102:FnOk Tryz.prog gl 5 f1102:=fnOk_of (by kernel_rfl) (by kernel_rfl) (by kernel_rfl)
theorem k1112:FnOk Tryz.prog gl 11 f1112:=fnOk_of (by kernel_rfl) (by kernel_rfl) (by kernel_rfl)
theorem k1125:FnOk Tryz.prog gl 25 f1125:=fnOk_of (by kernel_rfl) (by kernel_rfl) (by kernel_rfl)
theorem k1127:FnOk Tryz.prog gl 27 f1127:=fnOk_of (by kernel_rfl) (by kernel_rfl) (by kernel_rfl)
theorem k1131:FnOk Tryz.prog gl 31 f1131:=fnOk_of (by kernel_rfl) (by kernel_rfl) (by kernel_rfl)
theorem k1132:FnOk Tryz.prog gl 32 f1132:=fnOk_of (by kernel_rfl) (by kernel_rfl) (by kernel_rfl)
theorem k1135:FnOk Tryz.prog gl 35 f1135:=fnOk_of (by kernel_rfl) (by kernel_rfl) (by kernel_rfl)
theorem k1153:FnOk Tryz.prog gl 78 f1153:=fnOk_of (by kernel_rfl) (by kernel_rfl) (by kernel_rfl)
theorem k1154:FnOk Tryz.prog gl 87 f1154:=fnOk_of (by kernel_rfl) (by kernel_rfl) (by kernel_rfl)
theorem k1172:FnOk Tryz.prog gl 63 f1172:=fnOk_of (by kernel_rfl) (by kernel_rfl) (by kernel_rfl)
theorem k1177:FnOk Tryz.prog gl 72 f1177:=fnOk_of (by kernel_rfl) (by kernel_rfl) (by kernel_rfl)
theorem k1178:FnOk Tryz.prog gl 73 f1178:=fnOk_of (by kernel_rfl) (by kernel_rfl) (by kernel_rfl)
theorem k1179:FnOk Tryz.prog gl 74 f1179:=fnOk_of (by kernel_rfl) (by kernel_rfl) (by kernel_rfl)
theorem k1182:FnOk Tryz.prog gl 77 f1182:=fnOk_of (by kernel_rfl) (by kernel_rfl) (by kernel_rfl)
theorem k1183:FnOk Tryz.prog gl 80 f1183:=fnOk_of (by kernel_rfl) (by kernel_rfl) (by kernel_rfl)
theorem k1188:FnOk Tryz.prog gl 88 f1188:=fnOk_of (by kernel_rfl) (by kernel_rfl) (by kernel_rfl)
theorem k1193:FnOk Tryz.prog gl 93 f1193:=fnOk_of (by kernel_rfl) (by kernel_rfl) (by kernel_rfl)
theorem k1204:FnOk Tryz.prog gl 104 f1204:=fnOk_of (by kernel_rfl) (by kernel_rfl) (by kernel_rfl)
theorem k1217:FnOk Tryz.prog gl 119 f1217:=fnOk_of (by kernel_rfl) (by kernel_rfl) (by kernel_rfl)
theorem k1218:FnOk Tryz.prog gl 120 f1218:=fnOk_of (by kernel_rfl) (by kernel_rfl) (by kernel_rfl)
theorem k1221:FnOk Tryz.prog gl 126 f1221:=fnOk_of (by kernel_rfl) (by kernel_rfl) (by kernel_rfl)
theorem k1229:FnOk Tryz.prog gl 147 f1229:=fnOk_of (by kernel_rfl) (by kernel_rfl) (by kernel_rfl)
theorem k1231:FnOk Tryz.prog gl 149 f1231:=fnOk_of (by kernel_rfl) (by kernel_rfl) (by kernel_rfl)
end Tab
end Go.Tidy
