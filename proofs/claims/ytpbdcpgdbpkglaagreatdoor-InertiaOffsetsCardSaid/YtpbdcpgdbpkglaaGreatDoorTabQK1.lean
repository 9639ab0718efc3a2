/- A part of the proof. -/
import Derived.Test.YtpbdcpgdbpkglaaGreatDoorTabQT
import Derived.Test.YtpbdcpgdbpkglaaGreatDoorPa1
import Derived.Test.YtpbdcpgdbpkglaaGreatDoorProg
import Derived.KernelRfl
set_option linter.all false
namespace Go.Tidy
open Go Go.Proofs
namespace Tab
theorem k21:FnOk Tryz.prog gl 100 f21:=fnOk_of (by kernel_rfl) (by kernel_rfl) (by kernel_rfl)
theorem k58:FnOk Tryz.prog gl 32 f58:=fnOk_of (by kernel_rfl) (by kernel_rfl) (by kernel_rfl)
theorem k77:FnOk Tryz.prog gl 91 f77:=fnOk_of (by kernel_rfl) (by kernel_rfl) (by kernel_rfl)
theorem k111:FnOk Tryz.prog gl 82 f111:=fnOk_of (by kernel_rfl) (by kernel_rfl) (by kernel_rfl)
theorem k130:FnOk Tryz.prog gl 173 f130:=fnOk_of (by kernel_rfl) (by kernel_rfl) (by kernel_rfl)
theorem k133:FnOk Tryz.prog gl 176 f133:=fnOk_of (by kernel_rfl) (by kernel_rfl) (by kernel_rfl)
theorem k173:FnOk Tryz.prog gl 183 f173:=fnOk_of (by kernel_rfl) (by kernel_rfl) (by kernel_rfl)
theorem k183:FnOk Tryz.prog gl 195 f183:=fnOk_of (by kernel_rfl) (by kernel_rfl) (by kernel_rfl)
theorem k1206:FnOk Tryz.prog gl 148 f1206:=fnOk_of (by kernel_rfl) (by kernel_rfl) (by kernel_rfl)
theorem k1250:FnOk Tryz.prog gl 11 f1250:=fnOk_of (by kernel_rfl) (by kernel_rfl) (by kernel_rfl)
theorem k1259:FnOk Tryz.prog gl 20 f1259:=fnOk_of (by kernel_rfl) (by kernel_rfl) (by kernel_rfl)
theorem k1277:FnOk Tryz.prog gl 43 f1277:=fnOk_of (by kernel_rfl) (by kernel_rfl) (by kernel_rfl)
theorem k1278:FnOk Tryz.prog gl 44 f1278:=fnOk_of (by kernel_rfl) (by kernel_rfl) (by kernel_rfl)
theorem k1279:FnOk Tryz.prog gl 45 f1279:=fnOk_of (by kernel_rfl) (by kernel_rfl) (by kernel_rfl)
theorem k1301:FnOk Tryz.prog gl 69 f1301:=fnOk_of (by kernel_rfl) (by kernel_rfl) (by kernel_rfl)
theorem k1302:FnOk Tryz.prog gl 70 f1302:=fnOk_of (by kernel_rfl) (by kernel_rfl) (by kernel_rfl)
theorem k1308:FnOk Tryz.prog gl 78 f1308:=fnOk_of (by kernel_rfl) (by kernel_rfl) (by kernel_rfl)
theorem k1310:FnOk Tryz.prog gl 80 f1310:=fnOk_of (by kernel_rfl) (by kernel_rfl) (by kernel_rfl)
theorem k1320:FnOk Tryz.prog gl 103 f1320:=fnOk_of (by kernel_rfl) (by kernel_rfl) (by kernel_rfl)
theorem k1321:FnOk Tryz.prog gl 104 f1321:=fnOk_of (by kernel_rfl) (by kernel_rfl) (by kernel_rfl)
theorem k1323:FnOk Tryz.prog gl 106 f1323:=fnOk_of (by kernel_rfl) (by kernel_rfl) (by kernel_rfl)
theorem k1326:FnOk Tryz.prog gl 110 f1326:=fnOk_of (by kernel_rfl) (by kernel_rfl) (by kernel_rfl)
theorem k1330:FnOk Tryz.prog gl 114 f1330:=fnOk_of (by kernel_rfl) (by kernel_rfl) (by kernel_rfl)
theorem k1331:FnOk Tryz.prog gl 115 f1331:=fnOk_of (by kernel_rfl) (by kernel_rfl) (by kernel_rfl)
theorem k1332:FnOk Tryz.prog gl 116 f1332:=fnOk_of (by kernel_rfl) (by kernel_rfl) (by kernel_rfl)
theorem k1336:FnOk Tryz.prog gl 120 f1336:=fnOk_of (by kernel_rfl) (by kernel_rfl) (by kernel_rfl)
theorem k1342:FnOk Tryz.prog gl 128 f1342:=fnOk_of (by kernel_rfl) (by kernel_rfl) (by kernel_rfl)
theorem k1347:FnOk Tryz.prog gl 135 f1347:=fnOk_of (by kernel_rfl) (by kernel_rfl) (by kernel_rfl)
theorem k1348:FnOk Tryz.prog gl 136 f1348:=fnOk_of (by kernel_rfl) (by kernel_rfl) (by kernel_rfl)
theorem k1355:FnOk Tryz.prog gl 156 f1355:=fnOk_of (by kernel_rfl) (by kernel_rfl) (by kernel_rfl)
theorem k1358:FnOk Tryz.prog gl 166 f1358:=fnOk_of (by kernel_rfl) (by kernel_rfl) (by kernel_rfl)
theorem k1362:FnOk Tryz.prog gl 181 f1362:=fnOk_of (by kernel_rfl) (by kernel_rfl) (by kernel_rfl)
end Tab
end Go.Tidy
