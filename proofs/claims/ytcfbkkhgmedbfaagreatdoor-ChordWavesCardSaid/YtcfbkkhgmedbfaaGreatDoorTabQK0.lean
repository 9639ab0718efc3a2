/- A part of the proof. -/
import Derived.Test.YtcfbkkhgmedbfaaGreatDoorTabQT
import Derived.Test.YtcfbkkhgmedbfaaGreatDoorPa1
import Derived.Test.YtcfbkkhgmedbfaaGreatDoorProg
import Derived.KernelRfl
set_option linter.all false
namespace Go.Tidy
open Go Go.Proofs
namespace Tab
theorem k2:FnOk Tryz.prog gl 2 f2:=fnOk_of (by kernel_rfl) (by kernel_rfl) (by kernel_rfl)
theorem k14:FnOk Tryz.prog gl 72 f14:=fnOk_of (by kernel_rfl) (by kernel_rfl) (by kernel_rfl)
theorem k123:FnOk Tryz.prog gl 119 f123:=fnOk_of (by kernel_rfl) (by kernel_rfl) (by kernel_rfl)
theorem k140:FnOk Tryz.prog gl 145 f140:=fnOk_of (by kernel_rfl) (by kernel_rfl) (by kernel_rfl)
theorem k165:FnOk Tryz.prog gl 163 f165:=fnOk_of (by kernel_rfl) (by kernel_rfl) (by kernel_rfl)
theorem k173:FnOk Tryz.prog gl 169 f173:=fnOk_of (by kernel_rfl) (by kernel_rfl) (by kernel_rfl)
theorem k1064:FnOk Tryz.prog gl 69 f1064:=fnOk_of (by kernel_rfl) (by kernel_rfl) (by kernel_rfl)
theorem k1113:FnOk Tryz.prog gl 6 f1113:=fnOk_of (by kernel_rfl) (by kernel_rfl) (by kernel_rfl)
theorem k1131:FnOk Tryz.prog gl 47 f1131:=fnOk_of (by kernel_rfl) (by kernel_rfl) (by kernel_rfl)
theorem k1141:FnOk Tryz.prog gl 51 f1141:=fnOk_of (by kernel_rfl) (by kernel_rfl) (by kernel_rfl)
theorem k1142:FnOk Tryz.prog gl 52 f1142:=fnOk_of (by kernel_rfl) (by kernel_rfl) (by kernel_rfl)
theorem k1170:FnOk Tryz.prog gl 49 f1170:=fnOk_of (by kernel_rfl) (by kernel_rfl) (by kernel_rfl)
theorem k1172:FnOk Tryz.prog gl 9 f1172:=fnOk_of (by kernel_rfl) (by kernel_rfl) (by kernel_rfl)
theorem k1181:FnOk Tryz.prog gl 101 f1181:=fnOk_of (by kernel_rfl) (by kernel_rfl) (by kernel_rfl)
theorem k1191:FnOk Tryz.prog gl 112 f1191:=fnOk_of (by kernel_rfl) (by kernel_rfl) (by kernel_rfl)
theorem k1196:FnOk Tryz.prog gl 109 f1196:=fnOk_of (by kernel_rfl) (by kernel_rfl) (by kernel_rfl)
theorem k1215:FnOk Tryz.prog gl 73 f1215:=fnOk_of (by kernel_rfl) (by kernel_rfl) (by kernel_rfl)
theorem k1217:FnOk Tryz.prog gl 61 f1217:=fnOk_of (by kernel_rfl) (by kernel_rfl) (by kernel_rfl)
theorem k1219:FnOk Tryz.prog gl 63 f1219:=fnOk_of (by kernel_rfl) (by kernel_rfl) (by kernel_rfl)
theorem k1220:FnOk Tryz.prog gl 70 f1220:=fnOk_of (by kernel_rfl) (by kernel_rfl) (by kernel_rfl)
theorem k1223:FnOk Tryz.prog gl 128 f1223:=fnOk_of (by kernel_rfl) (by kernel_rfl) (by kernel_rfl)
theorem k1224:FnOk Tryz.prog gl 146 f1224:=fnOk_of (by kernel_rfl) (by kernel_rfl) (by kernel_rfl)
end Tab
end Go.Tidy
