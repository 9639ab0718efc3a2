/- A part of the proof. -/
import Derived.Test.YtpbdcpgdbpkglaaGreatDoorTabQT
import Derived.Test.YtpbdcpgdbpkglaaGreatDoorPa1
import Derived.Test.YtpbdcpgdbpkglaaGreatDoorProg
import Derived.KernelRfl
set_option linter.all false
namespace Go.Tidy
open Go Go.Proofs
namespace Tab
theorem k13:FnOk Tryz.prog gl 23 f13:=fnOk_of (by kernel_rfl) (by kernel_rfl) (by kernel_rfl)
theorem k32:FnOk Tryz.prog gl 26 f32:=fnOk_of (by kernel_rfl) (by kernel_rfl) (by kernel_rfl)
theorem k58:FnOk Tryz.prog gl 32 f58:=fnOk_of (by kernel_rfl) (by kernel_rfl) (by kernel_rfl)
theorem k76:FnOk Tryz.prog gl 172 f76:=fnOk_of (by kernel_rfl) (by kernel_rfl) (by kernel_rfl)
theorem k78:FnOk Tryz.prog gl 161 f78:=fnOk_of (by kernel_rfl) (by kernel_rfl) (by kernel_rfl)
theorem k92:FnOk Tryz.prog gl 94 f92:=fnOk_of (by kernel_rfl) (by kernel_rfl) (by kernel_rfl)
theorem k99:FnOk Tryz.prog gl 164 f99:=fnOk_of (by kernel_rfl) (by kernel_rfl) (by kernel_rfl)
theorem k103:FnOk Tryz.prog gl 87 f103:=fnOk_of (by kernel_rfl) (by kernel_rfl) (by kernel_rfl)
theorem k122:FnOk Tryz.prog gl 141 f122:=fnOk_of (by kernel_rfl) (by kernel_rfl) (by kernel_rfl)
theorem k131:FnOk Tryz.prog gl 174 f131:=fnOk_of (by kernel_rfl) (by kernel_rfl) (by kernel_rfl)
theorem k148:FnOk Tryz.prog gl 151 f148:=fnOk_of (by kernel_rfl) (by kernel_rfl) (by kernel_rfl)
theorem k173:FnOk Tryz.prog gl 183 f173:=fnOk_of (by kernel_rfl) (by kernel_rfl) (by kernel_rfl)
theorem k177:FnOk Tryz.prog gl 189 f177:=fnOk_of (by kernel_rfl) (by kernel_rfl) (by kernel_rfl)
theorem k199:FnOk Tryz.prog gl 211 f199:=fnOk_of (by kernel_rfl) (by kernel_rfl) (by kernel_rfl)
theorem k1184:FnOk Tryz.prog gl 89 f1184:=fnOk_of (by kernel_rfl) (by kernel_rfl) (by kernel_rfl)
theorem k1255:FnOk Tryz.prog gl 16 f1255:=fnOk_of (by kernel_rfl) (by kernel_rfl) (by kernel_rfl)
theorem k1263:FnOk Tryz.prog gl 25 f1263:=fnOk_of (by kernel_rfl) (by kernel_rfl) (by kernel_rfl)
theorem k1279:FnOk Tryz.prog gl 45 f1279:=fnOk_of (by kernel_rfl) (by kernel_rfl) (by kernel_rfl)
theorem k1300:FnOk Tryz.prog gl 68 f1300:=fnOk_of (by kernel_rfl) (by kernel_rfl) (by kernel_rfl)
theorem k1302:FnOk Tryz.prog gl 70 f1302:=fnOk_of (by kernel_rfl) (by kernel_rfl) (by kernel_rfl)
theorem k1313:FnOk Tryz.prog gl 85 f1313:=fnOk_of (by kernel_rfl) (by kernel_rfl) (by kernel_rfl)
theorem k1321:FnOk Tryz.prog gl 104 f1321:=fnOk_of (by kernel_rfl) (by kernel_rfl) (by kernel_rfl)
theorem k1325:FnOk Tryz.prog gl 109 f1325:=fnOk_of (by kernel_rfl) (by kernel_rfl) (by kernel_rfl)
theorem k1328:FnOk Tryz.prog gl 112 f1328:=fnOk_of (by kernel_rfl) (by kernel_rfl) (by kernel_rfl)
theorem k1332:FnOk Tryz.prog gl 116 f1332:=fnOk_of (by kernel_rfl) (by kernel_rfl) (by kernel_rfl)
theorem k1338:FnOk Tryz.prog gl 123 f1338:=fnOk_of (by kernel_rfl) (by kernel_rfl) (by kernel_rfl)
theorem k1347:FnOk Tryz.prog gl 135 f1347:=fnOk_of (by kernel_rfl) (by kernel_rfl) (by kernel_rfl)
theorem k1349:FnOk Tryz.prog gl 137 f1349:=fnOk_of (by kernel_rfl) (by kernel_rfl) (by kernel_rfl)
theorem k1355:FnOk Tryz.prog gl 156 f1355:=fnOk_of (by kernel_rfl) (by kernel_rfl) (by kernel_rfl)
theorem k1360:FnOk Tryz.prog gl 179 f1360:=fnOk_of (by kernel_rfl) (by kernel_rfl) (by kernel_rfl)
theorem k1362:FnOk Tryz.prog gl 181 f1362:=fnOk_of (by kernel_rfl) (by kernel_rfl) (by kernel_rfl)
end Tab
end Go.Tidy
