/- A part of the proof. -/
import Derived.Test.YtngjiljminopnaaGreatDoorTabQT
import Derived.Test.YtngjiljminopnaaGreatDoorPa1
import Derived.Test.YtngjiljminopnaaGreatDoorProg
import Derived.KernelRfl
set_option linter.all false
namespace Go.Tidy
open Go Go.Proofs
namespace Tab
theorem k2:FnOk Tryz.prog gl 2 f2:=fnOk_of (by kernel_rfl) (by kernel_rfl) (by kernel_rfl)
theorem k14:FnOk Tryz.prog gl 86 f14:=fnOk_of (by kernel_rfl) (by kernel_rfl) (by kernel_rfl)
theorem k32:FnOk Tryz.prog gl 94 f32:=fnOk_of (by kernel_rfl) (by kernel_rfl) (by kernel_rfl)
theorem k122:FnOk Tryz.prog gl 135 f122:=fnOk_of (by kernel_rfl) (by kernel_rfl) (by kernel_rfl)
theorem k126:FnOk Tryz.prog gl 138 f126:=fnOk_of (by kernel_rfl) (by kernel_rfl) (by kernel_rfl)
theorem k174:FnOk Tryz.prog gl 187 f174:=fnOk_of (by kernel_rfl) (by kernel_rfl) (by kernel_rfl)
theorem k189:FnOk Tryz.prog gl 197 f189:=fnOk_of (by kernel_rfl) (by kernel_rfl) (by kernel_rfl)
theorem k1064:FnOk Tryz.prog gl 83 f1064:=fnOk_of (by kernel_rfl) (by kernel_rfl) (by kernel_rfl)
theorem k1112:FnOk Tryz.prog gl 23 f1112:=fnOk_of (by kernel_rfl) (by kernel_rfl) (by kernel_rfl)
theorem k1117:FnOk Tryz.prog gl 28 f1117:=fnOk_of (by kernel_rfl) (by kernel_rfl) (by kernel_rfl)
theorem k1123:FnOk Tryz.prog gl 90 f1123:=fnOk_of (by kernel_rfl) (by kernel_rfl) (by kernel_rfl)
theorem k1132:FnOk Tryz.prog gl 63 f1132:=fnOk_of (by kernel_rfl) (by kernel_rfl) (by kernel_rfl)
theorem k1158:FnOk Tryz.prog gl 24 f1158:=fnOk_of (by kernel_rfl) (by kernel_rfl) (by kernel_rfl)
theorem k1163:FnOk Tryz.prog gl 30 f1163:=fnOk_of (by kernel_rfl) (by kernel_rfl) (by kernel_rfl)
theorem k1173:FnOk Tryz.prog gl 13 f1173:=fnOk_of (by kernel_rfl) (by kernel_rfl) (by kernel_rfl)
theorem k1174:FnOk Tryz.prog gl 10 f1174:=fnOk_of (by kernel_rfl) (by kernel_rfl) (by kernel_rfl)
theorem k1182:FnOk Tryz.prog gl 124 f1182:=fnOk_of (by kernel_rfl) (by kernel_rfl) (by kernel_rfl)
theorem k1187:FnOk Tryz.prog gl 95 f1187:=fnOk_of (by kernel_rfl) (by kernel_rfl) (by kernel_rfl)
theorem k1190:FnOk Tryz.prog gl 98 f1190:=fnOk_of (by kernel_rfl) (by kernel_rfl) (by kernel_rfl)
theorem k1212:FnOk Tryz.prog gl 93 f1212:=fnOk_of (by kernel_rfl) (by kernel_rfl) (by kernel_rfl)
theorem k1214:FnOk Tryz.prog gl 97 f1214:=fnOk_of (by kernel_rfl) (by kernel_rfl) (by kernel_rfl)
theorem k1215:FnOk Tryz.prog gl 87 f1215:=fnOk_of (by kernel_rfl) (by kernel_rfl) (by kernel_rfl)
theorem k1220:FnOk Tryz.prog gl 84 f1220:=fnOk_of (by kernel_rfl) (by kernel_rfl) (by kernel_rfl)
theorem k1223:FnOk Tryz.prog gl 145 f1223:=fnOk_of (by kernel_rfl) (by kernel_rfl) (by kernel_rfl)
theorem k1224:FnOk Tryz.prog gl 164 f1224:=fnOk_of (by kernel_rfl) (by kernel_rfl) (by kernel_rfl)
theorem k1230:FnOk Tryz.prog gl 139 f1230:=fnOk_of (by kernel_rfl) (by kernel_rfl) (by kernel_rfl)
theorem k1232:FnOk Tryz.prog gl 173 f1232:=fnOk_of (by kernel_rfl) (by kernel_rfl) (by kernel_rfl)
theorem k1235:FnOk Tryz.prog gl 203 f1235:=fnOk_of (by kernel_rfl) (by kernel_rfl) (by kernel_rfl)
end Tab
end Go.Tidy
