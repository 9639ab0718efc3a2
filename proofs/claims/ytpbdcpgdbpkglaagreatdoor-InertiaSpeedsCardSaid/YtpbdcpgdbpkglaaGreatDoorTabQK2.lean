/- A part of the proof. -/
import Derived.Test.YtpbdcpgdbpkglaaGreatDoorTabQT
import Derived.Test.YtpbdcpgdbpkglaaGreatDoorPa1
import Derived.Test.YtpbdcpgdbpkglaaGreatDoorProg
import Derived.KernelRfl
set_option linter.all false
namespace Go.Tidy
open Go Go.Proofs
namespace Tab
theorem k13:FnOk Tryz.prog gl 23 f13:=fnOk_of (by kernel_rfl) (by kernel_rfl) (by kernel_rfl)
theorem k14:FnOk Tryz.prog gl 37 f14:=fnOk_of (by kernel_rfl) (by kernel_rfl) (by kernel_rfl)
theorem k32:FnOk Tryz.prog gl 26 f32:=fnOk_of (by kernel_rfl) (by kernel_rfl) (by kernel_rfl)
theorem k59:FnOk Tryz.prog gl 40 f59:=fnOk_of (by kernel_rfl) (by kernel_rfl) (by kernel_rfl)
theorem k64:FnOk Tryz.prog gl 139 f64:=fnOk_of (by kernel_rfl) (by kernel_rfl) (by kernel_rfl)
theorem k86:FnOk Tryz.prog gl 93 f86:=fnOk_of (by kernel_rfl) (by kernel_rfl) (by kernel_rfl)
theorem k122:FnOk Tryz.prog gl 141 f122:=fnOk_of (by kernel_rfl) (by kernel_rfl) (by kernel_rfl)
theorem k123:FnOk Tryz.prog gl 142 f123:=fnOk_of (by kernel_rfl) (by kernel_rfl) (by kernel_rfl)
theorem k126:FnOk Tryz.prog gl 144 f126:=fnOk_of (by kernel_rfl) (by kernel_rfl) (by kernel_rfl)
theorem k131:FnOk Tryz.prog gl 174 f131:=fnOk_of (by kernel_rfl) (by kernel_rfl) (by kernel_rfl)
theorem k132:FnOk Tryz.prog gl 175 f132:=fnOk_of (by kernel_rfl) (by kernel_rfl) (by kernel_rfl)
theorem k144:FnOk Tryz.prog gl 102 f144:=fnOk_of (by kernel_rfl) (by kernel_rfl) (by kernel_rfl)
theorem k173:FnOk Tryz.prog gl 183 f173:=fnOk_of (by kernel_rfl) (by kernel_rfl) (by kernel_rfl)
theorem k199:FnOk Tryz.prog gl 211 f199:=fnOk_of (by kernel_rfl) (by kernel_rfl) (by kernel_rfl)
theorem k1247:FnOk Tryz.prog gl 8 f1247:=fnOk_of (by kernel_rfl) (by kernel_rfl) (by kernel_rfl)
theorem k1256:FnOk Tryz.prog gl 17 f1256:=fnOk_of (by kernel_rfl) (by kernel_rfl) (by kernel_rfl)
theorem k1261:FnOk Tryz.prog gl 22 f1261:=fnOk_of (by kernel_rfl) (by kernel_rfl) (by kernel_rfl)
theorem k1275:FnOk Tryz.prog gl 41 f1275:=fnOk_of (by kernel_rfl) (by kernel_rfl) (by kernel_rfl)
theorem k1279:FnOk Tryz.prog gl 45 f1279:=fnOk_of (by kernel_rfl) (by kernel_rfl) (by kernel_rfl)
theorem k1291:FnOk Tryz.prog gl 58 f1291:=fnOk_of (by kernel_rfl) (by kernel_rfl) (by kernel_rfl)
theorem k1298:FnOk Tryz.prog gl 66 f1298:=fnOk_of (by kernel_rfl) (by kernel_rfl) (by kernel_rfl)
theorem k1300:FnOk Tryz.prog gl 68 f1300:=fnOk_of (by kernel_rfl) (by kernel_rfl) (by kernel_rfl)
theorem k1302:FnOk Tryz.prog gl 70 f1302:=fnOk_of (by kernel_rfl) (by kernel_rfl) (by kernel_rfl)
theorem k1312:FnOk Tryz.prog gl 84 f1312:=fnOk_of (by kernel_rfl) (by kernel_rfl) (by kernel_rfl)
theorem k1316:FnOk Tryz.prog gl 90 f1316:=fnOk_of (by kernel_rfl) (by kernel_rfl) (by kernel_rfl)
theorem k1317:FnOk Tryz.prog gl 92 f1317:=fnOk_of (by kernel_rfl) (by kernel_rfl) (by kernel_rfl)
theorem k1318:FnOk Tryz.prog gl 95 f1318:=fnOk_of (by kernel_rfl) (by kernel_rfl) (by kernel_rfl)
theorem k1323:FnOk Tryz.prog gl 106 f1323:=fnOk_of (by kernel_rfl) (by kernel_rfl) (by kernel_rfl)
theorem k1326:FnOk Tryz.prog gl 110 f1326:=fnOk_of (by kernel_rfl) (by kernel_rfl) (by kernel_rfl)
theorem k1336:FnOk Tryz.prog gl 120 f1336:=fnOk_of (by kernel_rfl) (by kernel_rfl) (by kernel_rfl)
theorem k1338:FnOk Tryz.prog gl 123 f1338:=fnOk_of (by kernel_rfl) (by kernel_rfl) (by kernel_rfl)
theorem k1342:FnOk Tryz.prog gl 128 f1342:=fnOk_of (by kernel_rfl) (by kernel_rfl) (by kernel_rfl)
theorem k1344:FnOk Tryz.prog gl 130 f1344:=fnOk_of (by kernel_rfl) (by kernel_rfl) (by kernel_rfl)
theorem k1345:FnOk Tryz.prog gl 133 f1345:=fnOk_of (by kernel_rfl) (by kernel_rfl) (by kernel_rfl)
theorem k1346:FnOk Tryz.prog gl 134 f1346:=fnOk_of (by kernel_rfl) (by kernel_rfl) (by kernel_rfl)
theorem k1358:FnOk Tryz.prog gl 166 f1358:=fnOk_of (by kernel_rfl) (by kernel_rfl) (by kernel_rfl)
end Tab
end Go.Tidy
