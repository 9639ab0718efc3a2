/- A part of the proof. -/
import Derived.Test.YtcfbkkhgmedbfaaGreatDoorTabQT
import Derived.Test.YtcfbkkhgmedbfaaGreatDoorPa1
import Derived.Test.YtcfbkkhgmedbfaaGreatDoorProg
import Derived.KernelRfl
set_option linter.all false
namespace Go.Tidy
open Go Go.Proofs
namespace Tab
theorem k18:FnOk Tryz.prog gl 22 f18:=fnOk_of (by kernel_rfl) (by kernel_rfl) (by kernel_rfl)
theorem k72:FnOk Tryz.prog gl 75 f72:=fnOk_of (by kernel_rfl) (by kernel_rfl) (by kernel_rfl)
theorem k77:FnOk Tryz.prog gl 76 f77:=fnOk_of (by kernel_rfl) (by kernel_rfl) (by kernel_rfl)
theorem k156:FnOk Tryz.prog gl 155 f156:=fnOk_of (by kernel_rfl) (by kernel_rfl) (by kernel_rfl)
theorem k174:FnOk Tryz.prog gl 170 f174:=fnOk_of (by kernel_rfl) (by kernel_rfl) (by kernel_rfl)
theorem k189:FnOk Tryz.prog gl 180 f189:=fnOk_of (by kernel_rfl) (by kernel_rfl) (by kernel_rfl)
theorem k1118:FnOk Tryz.prog gl 13 f1118:=fnOk_of (by kernel_rfl) (by kernel_rfl) (by kernel_rfl)
theorem k1121:FnOk Tryz.prog gl 59 f1121:=fnOk_of (by kernel_rfl) (by kernel_rfl) (by kernel_rfl)
theorem k1135:FnOk Tryz.prog gl 50 f1135:=fnOk_of (by kernel_rfl) (by kernel_rfl) (by kernel_rfl)
theorem k1159:FnOk Tryz.prog gl 26 f1159:=fnOk_of (by kernel_rfl) (by kernel_rfl) (by kernel_rfl)
theorem k1164:FnOk Tryz.prog gl 16 f1164:=fnOk_of (by kernel_rfl) (by kernel_rfl) (by kernel_rfl)
theorem k1171:FnOk Tryz.prog gl 8 f1171:=fnOk_of (by kernel_rfl) (by kernel_rfl) (by kernel_rfl)
theorem k1173:FnOk Tryz.prog gl 10 f1173:=fnOk_of (by kernel_rfl) (by kernel_rfl) (by kernel_rfl)
theorem k1182:FnOk Tryz.prog gl 102 f1182:=fnOk_of (by kernel_rfl) (by kernel_rfl) (by kernel_rfl)
theorem k1183:FnOk Tryz.prog gl 78 f1183:=fnOk_of (by kernel_rfl) (by kernel_rfl) (by kernel_rfl)
theorem k1195:FnOk Tryz.prog gl 56 f1195:=fnOk_of (by kernel_rfl) (by kernel_rfl) (by kernel_rfl)
theorem k1198:FnOk Tryz.prog gl 110 f1198:=fnOk_of (by kernel_rfl) (by kernel_rfl) (by kernel_rfl)
theorem k1204:FnOk Tryz.prog gl 117 f1204:=fnOk_of (by kernel_rfl) (by kernel_rfl) (by kernel_rfl)
theorem k1210:FnOk Tryz.prog gl 64 f1210:=fnOk_of (by kernel_rfl) (by kernel_rfl) (by kernel_rfl)
theorem k1211:FnOk Tryz.prog gl 66 f1211:=fnOk_of (by kernel_rfl) (by kernel_rfl) (by kernel_rfl)
theorem k1221:FnOk Tryz.prog gl 54 f1221:=fnOk_of (by kernel_rfl) (by kernel_rfl) (by kernel_rfl)
theorem k1225:FnOk Tryz.prog gl 147 f1225:=fnOk_of (by kernel_rfl) (by kernel_rfl) (by kernel_rfl)
theorem k1226:FnOk Tryz.prog gl 126 f1226:=fnOk_of (by kernel_rfl) (by kernel_rfl) (by kernel_rfl)
theorem k1230:FnOk Tryz.prog gl 122 f1230:=fnOk_of (by kernel_rfl) (by kernel_rfl) (by kernel_rfl)
theorem k1232:FnOk Tryz.prog gl 156 f1232:=fnOk_of (by kernel_rfl) (by kernel_rfl) (by kernel_rfl)
theorem k1233:FnOk Tryz.prog gl 171 f1233:=fnOk_of (by kernel_rfl) (by kernel_rfl) (by kernel_rfl)
end Tab
end Go.Tidy
