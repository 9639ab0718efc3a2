/- A part of the proof. -/
import Derived.Test.YtcgodmeccmkcaaaGreatDoorTabQT
import Derived.Test.YtcgodmeccmkcaaaGreatDoorPa1
import Derived.Test.YtcgodmeccmkcaaaGreatDoorProg
import Derived.KernelRfl
set_option linter.all false
namespace Go.Tidy
open Go Go.Proofs
namespace Tab
theorem k14:FnOk Tryz.prog gl 18 f14:=fnOk_of (by kernel_rfl) (by kernel_rfl) (by kernel_rfl)
theorem k18:FnOk Tryz.prog gl 61 f18:=fnOk_of (by kernel_rfl) (by kernel_rfl) (by kernel_rfl)
theorem k77:FnOk Tryz.prog gl 70 f77:=fnOk_of (by kernel_rfl) (by kernel_rfl) (by kernel_rfl)
theorem k155:FnOk Tryz.prog gl 151 f155:=fnOk_of (by kernel_rfl) (by kernel_rfl) (by kernel_rfl)
theorem k174:FnOk Tryz.prog gl 165 f174:=fnOk_of (by kernel_rfl) (by kernel_rfl) (by kernel_rfl)
theorem k1071:FnOk Tryz.prog gl 146 f1071:=fnOk_of (by kernel_rfl) (by kernel_rfl) (by kernel_rfl)
theorem k1112:FnOk Tryz.prog gl 11 f1112:=fnOk_of (by kernel_rfl) (by kernel_rfl) (by kernel_rfl)
theorem k1117:FnOk Tryz.prog gl 16 f1117:=fnOk_of (by kernel_rfl) (by kernel_rfl) (by kernel_rfl)
theorem k1118:FnOk Tryz.prog gl 17 f1118:=fnOk_of (by kernel_rfl) (by kernel_rfl) (by kernel_rfl)
theorem k1122:FnOk Tryz.prog gl 22 f1122:=fnOk_of (by kernel_rfl) (by kernel_rfl) (by kernel_rfl)
theorem k1123:FnOk Tryz.prog gl 23 f1123:=fnOk_of (by kernel_rfl) (by kernel_rfl) (by kernel_rfl)
theorem k1125:FnOk Tryz.prog gl 25 f1125:=fnOk_of (by kernel_rfl) (by kernel_rfl) (by kernel_rfl)
theorem k1128:FnOk Tryz.prog gl 28 f1128:=fnOk_of (by kernel_rfl) (by kernel_rfl) (by kernel_rfl)
theorem k1136:FnOk Tryz.prog gl 36 f1136:=fnOk_of (by kernel_rfl) (by kernel_rfl) (by kernel_rfl)
theorem k1137:FnOk Tryz.prog gl 37 f1137:=fnOk_of (by kernel_rfl) (by kernel_rfl) (by kernel_rfl)
theorem k1171:FnOk Tryz.prog gl 62 f1171:=fnOk_of (by kernel_rfl) (by kernel_rfl) (by kernel_rfl)
theorem k1176:FnOk Tryz.prog gl 71 f1176:=fnOk_of (by kernel_rfl) (by kernel_rfl) (by kernel_rfl)
theorem k1177:FnOk Tryz.prog gl 72 f1177:=fnOk_of (by kernel_rfl) (by kernel_rfl) (by kernel_rfl)
theorem k1180:FnOk Tryz.prog gl 75 f1180:=fnOk_of (by kernel_rfl) (by kernel_rfl) (by kernel_rfl)
theorem k1186:FnOk Tryz.prog gl 83 f1186:=fnOk_of (by kernel_rfl) (by kernel_rfl) (by kernel_rfl)
theorem k1191:FnOk Tryz.prog gl 91 f1191:=fnOk_of (by kernel_rfl) (by kernel_rfl) (by kernel_rfl)
theorem k1197:FnOk Tryz.prog gl 97 f1197:=fnOk_of (by kernel_rfl) (by kernel_rfl) (by kernel_rfl)
theorem k1201:FnOk Tryz.prog gl 101 f1201:=fnOk_of (by kernel_rfl) (by kernel_rfl) (by kernel_rfl)
theorem k1220:FnOk Tryz.prog gl 125 f1220:=fnOk_of (by kernel_rfl) (by kernel_rfl) (by kernel_rfl)
theorem k1224:FnOk Tryz.prog gl 134 f1224:=fnOk_of (by kernel_rfl) (by kernel_rfl) (by kernel_rfl)
theorem k1227:FnOk Tryz.prog gl 138 f1227:=fnOk_of (by kernel_rfl) (by kernel_rfl) (by kernel_rfl)
theorem k1230:FnOk Tryz.prog gl 148 f1230:=fnOk_of (by kernel_rfl) (by kernel_rfl) (by kernel_rfl)
theorem k1235:FnOk Tryz.prog gl 176 f1235:=fnOk_of (by kernel_rfl) (by kernel_rfl) (by kernel_rfl)
end Tab
end Go.Tidy
