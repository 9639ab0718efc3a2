/- A part of the proof. -/
import Derived.Test.YtcgodmeccmkcaaaGreatDoorTabQT
import Derived.Test.YtcgodmeccmkcaaaGreatDoorPa1
import Derived.Test.YtcgodmeccmkcaaaGreatDoorProg
import Derived.KernelRfl
set_option linter.all false
namespace Go.Tidy
open Go Go.Proofs
namespace Tab
theorem k14:FnOk Tryz.prog gl 18 f14:=fnOk_of (by kernel_rfl) (by kernel_rfl) (by kernel_rfl)
theorem k32:FnOk Tryz.prog gl 85 f32:=fnOk_of (by kernel_rfl) (by kernel_rfl) (by kernel_rfl)
theorem k59:FnOk Tryz.prog gl 68 f59:=fnOk_of (by kernel_rfl) (by kernel_rfl) (by kernel_rfl)
theorem k71:FnOk Tryz.prog gl 69 f71:=fnOk_of (by kernel_rfl) (by kernel_rfl) (by kernel_rfl)
theorem k173:FnOk Tryz.prog gl 164 f173:=fnOk_of (by kernel_rfl) (by kernel_rfl) (by kernel_rfl)
theorem k189:FnOk Tryz.prog gl 170 f189:=fnOk_of (by kernel_rfl) (by kernel_rfl) (by kernel_rfl)
theorem k1064:FnOk Tryz.prog gl 124 f1064:=fnOk_of (by kernel_rfl) (by kernel_rfl) (by kernel_rfl)
theorem k1115:FnOk Tryz.prog gl 14 f1115:=fnOk_of (by kernel_rfl) (by kernel_rfl) (by kernel_rfl)
theorem k1117:FnOk Tryz.prog gl 16 f1117:=fnOk_of (by kernel_rfl) (by kernel_rfl) (by kernel_rfl)
theorem k1127:FnOk Tryz.prog gl 27 f1127:=fnOk_of (by kernel_rfl) (by kernel_rfl) (by kernel_rfl)
theorem k1131:FnOk Tryz.prog gl 31 f1131:=fnOk_of (by kernel_rfl) (by kernel_rfl) (by kernel_rfl)
theorem k1153:FnOk Tryz.prog gl 78 f1153:=fnOk_of (by kernel_rfl) (by kernel_rfl) (by kernel_rfl)
theorem k1159:FnOk Tryz.prog gl 66 f1159:=fnOk_of (by kernel_rfl) (by kernel_rfl) (by kernel_rfl)
theorem k1175:FnOk Tryz.prog gl 67 f1175:=fnOk_of (by kernel_rfl) (by kernel_rfl) (by kernel_rfl)
theorem k1186:FnOk Tryz.prog gl 83 f1186:=fnOk_of (by kernel_rfl) (by kernel_rfl) (by kernel_rfl)
theorem k1192:FnOk Tryz.prog gl 92 f1192:=fnOk_of (by kernel_rfl) (by kernel_rfl) (by kernel_rfl)
theorem k1202:FnOk Tryz.prog gl 102 f1202:=fnOk_of (by kernel_rfl) (by kernel_rfl) (by kernel_rfl)
theorem k1204:FnOk Tryz.prog gl 104 f1204:=fnOk_of (by kernel_rfl) (by kernel_rfl) (by kernel_rfl)
theorem k1211:FnOk Tryz.prog gl 123 f1211:=fnOk_of (by kernel_rfl) (by kernel_rfl) (by kernel_rfl)
theorem k1216:FnOk Tryz.prog gl 118 f1216:=fnOk_of (by kernel_rfl) (by kernel_rfl) (by kernel_rfl)
theorem k1221:FnOk Tryz.prog gl 126 f1221:=fnOk_of (by kernel_rfl) (by kernel_rfl) (by kernel_rfl)
theorem k1222:FnOk Tryz.prog gl 127 f1222:=fnOk_of (by kernel_rfl) (by kernel_rfl) (by kernel_rfl)
theorem k1226:FnOk Tryz.prog gl 137 f1226:=fnOk_of (by kernel_rfl) (by kernel_rfl) (by kernel_rfl)
theorem k1228:FnOk Tryz.prog gl 139 f1228:=fnOk_of (by kernel_rfl) (by kernel_rfl) (by kernel_rfl)
theorem k1231:FnOk Tryz.prog gl 149 f1231:=fnOk_of (by kernel_rfl) (by kernel_rfl) (by kernel_rfl)
end Tab
end Go.Tidy
