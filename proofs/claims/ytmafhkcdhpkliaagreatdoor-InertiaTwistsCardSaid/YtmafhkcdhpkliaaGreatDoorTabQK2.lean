/- A part of the proof. -/
import Derived.Test.YtmafhkcdhpkliaaGreatDoorTabQT
import Derived.Test.YtmafhkcdhpkliaaGreatDoorPa1
import Derived.Test.YtmafhkcdhpkliaaGreatDoorProg
import Derived.KernelRfl
set_option linter.all false
namespace Go.Tidy
open Go Go.Proofs
namespace Tab
theorem k2:FnOk Tryz.prog gl 2 f2:=fnOk_of (by kernel_rfl) (by kernel_rfl) (by kernel_rfl)
theorem k13:FnOk Tryz.prog gl 17 f13:=fnOk_of (by kernel_rfl) (by kernel_rfl) (by kernel_rfl)
theorem k19:FnOk Tryz.prog gl 96 f19:=fnOk_of (by kernel_rfl) (by kernel_rfl) (by kernel_rfl)
theorem k32:FnOk Tryz.prog gl 25 f32:=fnOk_of (by kernel_rfl) (by kernel_rfl) (by kernel_rfl)
theorem k59:FnOk Tryz.prog gl 23 f59:=fnOk_of (by kernel_rfl) (by kernel_rfl) (by kernel_rfl)
theorem k64:FnOk Tryz.prog gl 106 f64:=fnOk_of (by kernel_rfl) (by kernel_rfl) (by kernel_rfl)
theorem k73:FnOk Tryz.prog gl 233 f73:=fnOk_of (by kernel_rfl) (by kernel_rfl) (by kernel_rfl)
theorem k86:FnOk Tryz.prog gl 79 f86:=fnOk_of (by kernel_rfl) (by kernel_rfl) (by kernel_rfl)
theorem k111:FnOk Tryz.prog gl 110 f111:=fnOk_of (by kernel_rfl) (by kernel_rfl) (by kernel_rfl)
theorem k122:FnOk Tryz.prog gl 111 f122:=fnOk_of (by kernel_rfl) (by kernel_rfl) (by kernel_rfl)
theorem k124:FnOk Tryz.prog gl 113 f124:=fnOk_of (by kernel_rfl) (by kernel_rfl) (by kernel_rfl)
theorem k132:FnOk Tryz.prog gl 207 f132:=fnOk_of (by kernel_rfl) (by kernel_rfl) (by kernel_rfl)
theorem k156:FnOk Tryz.prog gl 176 f156:=fnOk_of (by kernel_rfl) (by kernel_rfl) (by kernel_rfl)
theorem k168:FnOk Tryz.prog gl 203 f168:=fnOk_of (by kernel_rfl) (by kernel_rfl) (by kernel_rfl)
theorem k187:FnOk Tryz.prog gl 245 f187:=fnOk_of (by kernel_rfl) (by kernel_rfl) (by kernel_rfl)
theorem k1259:FnOk Tryz.prog gl 59 f1259:=fnOk_of (by kernel_rfl) (by kernel_rfl) (by kernel_rfl)
theorem k1268:FnOk Tryz.prog gl 104 f1268:=fnOk_of (by kernel_rfl) (by kernel_rfl) (by kernel_rfl)
theorem k1274:FnOk Tryz.prog gl 21 f1274:=fnOk_of (by kernel_rfl) (by kernel_rfl) (by kernel_rfl)
theorem k1275:FnOk Tryz.prog gl 24 f1275:=fnOk_of (by kernel_rfl) (by kernel_rfl) (by kernel_rfl)
theorem k1286:FnOk Tryz.prog gl 30 f1286:=fnOk_of (by kernel_rfl) (by kernel_rfl) (by kernel_rfl)
theorem k1292:FnOk Tryz.prog gl 62 f1292:=fnOk_of (by kernel_rfl) (by kernel_rfl) (by kernel_rfl)
theorem k1300:FnOk Tryz.prog gl 137 f1300:=fnOk_of (by kernel_rfl) (by kernel_rfl) (by kernel_rfl)
theorem k1302:FnOk Tryz.prog gl 50 f1302:=fnOk_of (by kernel_rfl) (by kernel_rfl) (by kernel_rfl)
theorem k1314:FnOk Tryz.prog gl 151 f1314:=fnOk_of (by kernel_rfl) (by kernel_rfl) (by kernel_rfl)
theorem k1317:FnOk Tryz.prog gl 152 f1317:=fnOk_of (by kernel_rfl) (by kernel_rfl) (by kernel_rfl)
theorem k1323:FnOk Tryz.prog gl 78 f1323:=fnOk_of (by kernel_rfl) (by kernel_rfl) (by kernel_rfl)
theorem k1325:FnOk Tryz.prog gl 88 f1325:=fnOk_of (by kernel_rfl) (by kernel_rfl) (by kernel_rfl)
theorem k1326:FnOk Tryz.prog gl 89 f1326:=fnOk_of (by kernel_rfl) (by kernel_rfl) (by kernel_rfl)
theorem k1331:FnOk Tryz.prog gl 144 f1331:=fnOk_of (by kernel_rfl) (by kernel_rfl) (by kernel_rfl)
theorem k1337:FnOk Tryz.prog gl 95 f1337:=fnOk_of (by kernel_rfl) (by kernel_rfl) (by kernel_rfl)
theorem k1343:FnOk Tryz.prog gl 139 f1343:=fnOk_of (by kernel_rfl) (by kernel_rfl) (by kernel_rfl)
theorem k1346:FnOk Tryz.prog gl 126 f1346:=fnOk_of (by kernel_rfl) (by kernel_rfl) (by kernel_rfl)
theorem k1350:FnOk Tryz.prog gl 105 f1350:=fnOk_of (by kernel_rfl) (by kernel_rfl) (by kernel_rfl)
theorem k1357:FnOk Tryz.prog gl 169 f1357:=fnOk_of (by kernel_rfl) (by kernel_rfl) (by kernel_rfl)
theorem k1360:FnOk Tryz.prog gl 209 f1360:=fnOk_of (by kernel_rfl) (by kernel_rfl) (by kernel_rfl)
end Tab
end Go.Tidy
