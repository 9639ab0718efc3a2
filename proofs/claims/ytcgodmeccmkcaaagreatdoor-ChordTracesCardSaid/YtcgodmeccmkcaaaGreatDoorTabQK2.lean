/- A part of the proof. -/
import Derived.Test.YtcgodmeccmkcaaaGreatDoorTabQT
import Derived.Test.YtcgodmeccmkcaaaGreatDoorPa1
import Derived.Test.YtcgodmeccmkcaaaGreatDoorProg
import Derived.KernelRfl
set_option linter.all false
namespace Go.Tidy
open Go Go.Proofs
namespace Tab
theorem k77:FnOk Tryz.prog gl 70 f77:=fnOk_of (by kernel_rfl) (by kernel_rfl) (by kernel_rfl)
theorem k122:FnOk Tryz.prog gl 129 f122:=fnOk_of (by kernel_rfl) (by kernel_rfl) (by kernel_rfl)
theorem k156:FnOk Tryz.prog gl 152 f156:=fnOk_of (by kernel_rfl) (by kernel_rfl) (by kernel_rfl)
theorem k173:FnOk Tryz.prog gl 164 f173:=fnOk_of (by kernel_rfl) (by kernel_rfl) (by kernel_rfl)
theorem k189:FnOk Tryz.prog gl 170 f189:=fnOk_of (by kernel_rfl) (by kernel_rfl) (by kernel_rfl)
theorem k1064:FnOk Tryz.prog gl 124 f1064:=fnOk_of (by kernel_rfl) (by kernel_rfl) (by kernel_rfl)
theorem k1071:FnOk Tryz.prog gl 146 f1071:=fnOk_of (by kernel_rfl) (by kernel_rfl) (by kernel_rfl)
theorem k1115:FnOk Tryz.prog gl 14 f1115:=fnOk_of (by kernel_rfl) (by kernel_rfl) (by kernel_rfl)
theorem k1119:FnOk Tryz.prog gl 19 f1119:=fnOk_of (by kernel_rfl) (by kernel_rfl) (by kernel_rfl)
theorem k1121:FnOk Tryz.prog gl 21 f1121:=fnOk_of (by kernel_rfl) (by kernel_rfl) (by kernel_rfl)
theorem k1123:FnOk Tryz.prog gl 23 f1123:=fnOk_of (by kernel_rfl) (by kernel_rfl) (by kernel_rfl)
theorem k1135:FnOk Tryz.prog gl 35 f1135:=fnOk_of (by kernel_rfl) (by kernel_rfl) (by kernel_rfl)
theorem k1171:FnOk Tryz.prog gl 62 f1171:=fnOk_of (by kernel_rfl) (by kernel_rfl) (by kernel_rfl)
theorem k1173:FnOk Tryz.prog gl 64 f1173:=fnOk_of (by kernel_rfl) (by kernel_rfl) (by kernel_rfl)
theorem k1175:FnOk Tryz.prog gl 67 f1175:=fnOk_of (by kernel_rfl) (by kernel_rfl) (by kernel_rfl)
theorem k1177:FnOk Tryz.prog gl 72 f1177:=fnOk_of (by kernel_rfl) (by kernel_rfl) (by kernel_rfl)
theorem k1181:FnOk Tryz.prog gl 76 f1181:=fnOk_of (by kernel_rfl) (by kernel_rfl) (by kernel_rfl)
theorem k1183:FnOk Tryz.prog gl 80 f1183:=fnOk_of (by kernel_rfl) (by kernel_rfl) (by kernel_rfl)
theorem k1186:FnOk Tryz.prog gl 83 f1186:=fnOk_of (by kernel_rfl) (by kernel_rfl) (by kernel_rfl)
theorem k1192:FnOk Tryz.prog gl 92 f1192:=fnOk_of (by kernel_rfl) (by kernel_rfl) (by kernel_rfl)
theorem k1194:FnOk Tryz.prog gl 94 f1194:=fnOk_of (by kernel_rfl) (by kernel_rfl) (by kernel_rfl)
theorem k1195:FnOk Tryz.prog gl 95 f1195:=fnOk_of (by kernel_rfl) (by kernel_rfl) (by kernel_rfl)
theorem k1200:FnOk Tryz.prog gl 100 f1200:=fnOk_of (by kernel_rfl) (by kernel_rfl) (by kernel_rfl)
theorem k1204:FnOk Tryz.prog gl 104 f1204:=fnOk_of (by kernel_rfl) (by kernel_rfl) (by kernel_rfl)
theorem k1216:FnOk Tryz.prog gl 118 f1216:=fnOk_of (by kernel_rfl) (by kernel_rfl) (by kernel_rfl)
theorem k1222:FnOk Tryz.prog gl 127 f1222:=fnOk_of (by kernel_rfl) (by kernel_rfl) (by kernel_rfl)
theorem k1228:FnOk Tryz.prog gl 139 f1228:=fnOk_of (by kernel_rfl) (by kernel_rfl) (by kernel_rfl)
end Tab
end Go.Tidy
