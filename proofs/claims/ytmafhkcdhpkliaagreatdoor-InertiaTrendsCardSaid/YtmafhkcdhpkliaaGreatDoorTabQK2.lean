/- A part of the proof. -/
import Derived.Test.YtmafhkcdhpkliaaGreatDoorTabQT
import Derived.Test.YtmafhkcdhpkliaaGreatDoorPa1
import Derived.Test.YtmafhkcdhpkliaaGreatDoorProg
import Derived.KernelRfl
set_option linter.all false
namespace Go.Tidy
open Go Go.Proofs
namespace Tab
theorem k14:FnOk Tryz.prog gl 19 f14:=fnOk_of (by kernel_rfl) (by kernel_rfl) (by kernel_rfl)
theorem k22:FnOk Tryz.prog gl 81 f22:=fnOk_of (by kernel_rfl) (by kernel_rfl) (by kernel_rfl)
theorem k58:FnOk Tryz.prog gl 22 f58:=fnOk_of (by kernel_rfl) (by kernel_rfl) (by kernel_rfl)
theorem k64:FnOk Tryz.prog gl 106 f64:=fnOk_of (by kernel_rfl) (by kernel_rfl) (by kernel_rfl)
theorem k80:FnOk Tryz.prog gl 157 f80:=fnOk_of (by kernel_rfl) (by kernel_rfl) (by kernel_rfl)
theorem k81:FnOk Tryz.prog gl 158 f81:=fnOk_of (by kernel_rfl) (by kernel_rfl) (by kernel_rfl)
theorem k95:FnOk Tryz.prog gl 54 f95:=fnOk_of (by kernel_rfl) (by kernel_rfl) (by kernel_rfl)
theorem k123:FnOk Tryz.prog gl 112 f123:=fnOk_of (by kernel_rfl) (by kernel_rfl) (by kernel_rfl)
theorem k124:FnOk Tryz.prog gl 113 f124:=fnOk_of (by kernel_rfl) (by kernel_rfl) (by kernel_rfl)
theorem k131:FnOk Tryz.prog gl 206 f131:=fnOk_of (by kernel_rfl) (by kernel_rfl) (by kernel_rfl)
theorem k147:FnOk Tryz.prog gl 161 f147:=fnOk_of (by kernel_rfl) (by kernel_rfl) (by kernel_rfl)
theorem k148:FnOk Tryz.prog gl 168 f148:=fnOk_of (by kernel_rfl) (by kernel_rfl) (by kernel_rfl)
theorem k155:FnOk Tryz.prog gl 175 f155:=fnOk_of (by kernel_rfl) (by kernel_rfl) (by kernel_rfl)
theorem k173:FnOk Tryz.prog gl 213 f173:=fnOk_of (by kernel_rfl) (by kernel_rfl) (by kernel_rfl)
theorem k177:FnOk Tryz.prog gl 235 f177:=fnOk_of (by kernel_rfl) (by kernel_rfl) (by kernel_rfl)
theorem k1206:FnOk Tryz.prog gl 164 f1206:=fnOk_of (by kernel_rfl) (by kernel_rfl) (by kernel_rfl)
theorem k1254:FnOk Tryz.prog gl 27 f1254:=fnOk_of (by kernel_rfl) (by kernel_rfl) (by kernel_rfl)
theorem k1259:FnOk Tryz.prog gl 59 f1259:=fnOk_of (by kernel_rfl) (by kernel_rfl) (by kernel_rfl)
theorem k1275:FnOk Tryz.prog gl 24 f1275:=fnOk_of (by kernel_rfl) (by kernel_rfl) (by kernel_rfl)
theorem k1278:FnOk Tryz.prog gl 65 f1278:=fnOk_of (by kernel_rfl) (by kernel_rfl) (by kernel_rfl)
theorem k1287:FnOk Tryz.prog gl 31 f1287:=fnOk_of (by kernel_rfl) (by kernel_rfl) (by kernel_rfl)
theorem k1301:FnOk Tryz.prog gl 51 f1301:=fnOk_of (by kernel_rfl) (by kernel_rfl) (by kernel_rfl)
theorem k1303:FnOk Tryz.prog gl 52 f1303:=fnOk_of (by kernel_rfl) (by kernel_rfl) (by kernel_rfl)
theorem k1308:FnOk Tryz.prog gl 36 f1308:=fnOk_of (by kernel_rfl) (by kernel_rfl) (by kernel_rfl)
theorem k1309:FnOk Tryz.prog gl 37 f1309:=fnOk_of (by kernel_rfl) (by kernel_rfl) (by kernel_rfl)
theorem k1318:FnOk Tryz.prog gl 99 f1318:=fnOk_of (by kernel_rfl) (by kernel_rfl) (by kernel_rfl)
theorem k1321:FnOk Tryz.prog gl 76 f1321:=fnOk_of (by kernel_rfl) (by kernel_rfl) (by kernel_rfl)
theorem k1326:FnOk Tryz.prog gl 89 f1326:=fnOk_of (by kernel_rfl) (by kernel_rfl) (by kernel_rfl)
theorem k1332:FnOk Tryz.prog gl 123 f1332:=fnOk_of (by kernel_rfl) (by kernel_rfl) (by kernel_rfl)
theorem k1336:FnOk Tryz.prog gl 93 f1336:=fnOk_of (by kernel_rfl) (by kernel_rfl) (by kernel_rfl)
theorem k1338:FnOk Tryz.prog gl 97 f1338:=fnOk_of (by kernel_rfl) (by kernel_rfl) (by kernel_rfl)
theorem k1341:FnOk Tryz.prog gl 138 f1341:=fnOk_of (by kernel_rfl) (by kernel_rfl) (by kernel_rfl)
theorem k1343:FnOk Tryz.prog gl 139 f1343:=fnOk_of (by kernel_rfl) (by kernel_rfl) (by kernel_rfl)
theorem k1345:FnOk Tryz.prog gl 189 f1345:=fnOk_of (by kernel_rfl) (by kernel_rfl) (by kernel_rfl)
theorem k1350:FnOk Tryz.prog gl 105 f1350:=fnOk_of (by kernel_rfl) (by kernel_rfl) (by kernel_rfl)
theorem k1358:FnOk Tryz.prog gl 172 f1358:=fnOk_of (by kernel_rfl) (by kernel_rfl) (by kernel_rfl)
end Tab
end Go.Tidy
