/- A part of the proof. -/
import Derived.Test.YtmafhkcdhpkliaaDoorTabQT
import Derived.Test.YtmafhkcdhpkliaaDoorPa1
import Derived.Test.YtmafhkcdhpkliaaDoorProg
import Derived.KernelRfl
set_option linter.all false
namespace Go.Tidy
open Go Go.Proofs
namespace Tab
theorem k32:FnOk Tryd.prog gl 49 f32:=fnOk_of (by kernel_rfl) (by kernel_rfl) (by kernel_rfl)
theorem k73:FnOk Tryd.prog gl 86 f73:=fnOk_of (by kernel_rfl) (by kernel_rfl) (by kernel_rfl)
theorem k77:FnOk Tryd.prog gl 34 f77:=fnOk_of (by kernel_rfl) (by kernel_rfl) (by kernel_rfl)
theorem k80:FnOk Tryd.prog gl 84 f80:=fnOk_of (by kernel_rfl) (by kernel_rfl) (by kernel_rfl)
theorem k95:FnOk Tryd.prog gl 14 f95:=fnOk_of (by kernel_rfl) (by kernel_rfl) (by kernel_rfl)
theorem k100:FnOk Tryd.prog gl 78 f100:=fnOk_of (by kernel_rfl) (by kernel_rfl) (by kernel_rfl)
theorem k1122:FnOk Tryd.prog gl 5 f1122:=fnOk_of (by kernel_rfl) (by kernel_rfl) (by kernel_rfl)
theorem k1126:FnOk Tryd.prog gl 8 f1126:=fnOk_of (by kernel_rfl) (by kernel_rfl) (by kernel_rfl)
theorem k1131:FnOk Tryd.prog gl 12 f1131:=fnOk_of (by kernel_rfl) (by kernel_rfl) (by kernel_rfl)
theorem k1146:FnOk Tryd.prog gl 22 f1146:=fnOk_of (by kernel_rfl) (by kernel_rfl) (by kernel_rfl)
theorem k1182:FnOk Tryd.prog gl 67 f1182:=fnOk_of (by kernel_rfl) (by kernel_rfl) (by kernel_rfl)
theorem k1184:FnOk Tryd.prog gl 47 f1184:=fnOk_of (by kernel_rfl) (by kernel_rfl) (by kernel_rfl)
theorem k1191:FnOk Tryd.prog gl 37 f1191:=fnOk_of (by kernel_rfl) (by kernel_rfl) (by kernel_rfl)
theorem k1194:FnOk Tryd.prog gl 32 f1194:=fnOk_of (by kernel_rfl) (by kernel_rfl) (by kernel_rfl)
theorem k1223:FnOk Tryd.prog gl 71 f1223:=fnOk_of (by kernel_rfl) (by kernel_rfl) (by kernel_rfl)
theorem k1226:FnOk Tryd.prog gl 66 f1226:=fnOk_of (by kernel_rfl) (by kernel_rfl) (by kernel_rfl)
theorem k1233:FnOk Tryd.prog gl 89 f1233:=fnOk_of (by kernel_rfl) (by kernel_rfl) (by kernel_rfl)
theorem k1235:FnOk Tryd.prog gl 95 f1235:=fnOk_of (by kernel_rfl) (by kernel_rfl) (by kernel_rfl)
theorem k1279:FnOk Tryd.prog gl 17 f1279:=fnOk_of (by kernel_rfl) (by kernel_rfl) (by kernel_rfl)
theorem k1331:FnOk Tryd.prog gl 45 f1331:=fnOk_of (by kernel_rfl) (by kernel_rfl) (by kernel_rfl)
theorem k1332:FnOk Tryd.prog gl 57 f1332:=fnOk_of (by kernel_rfl) (by kernel_rfl) (by kernel_rfl)
theorem k1343:FnOk Tryd.prog gl 58 f1343:=fnOk_of (by kernel_rfl) (by kernel_rfl) (by kernel_rfl)
theorem k1378:FnOk Tryd.prog gl 6 f1378:=fnOk_of (by kernel_rfl) (by kernel_rfl) (by kernel_rfl)
end Tab
end Go.Tidy
