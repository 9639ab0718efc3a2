/- A part of the proof. -/
import Derived.Test.YtmafhkcdhpkliaaGreatDoorTabQT
import Derived.Test.YtmafhkcdhpkliaaGreatDoorPa1
import Derived.Test.YtmafhkcdhpkliaaGreatDoorProg
import Derived.KernelRfl
set_option linter.all false
namespace Go.Tidy
open Go Go.Proofs
namespace Tab
theorem k58:FnOk Tryz.prog gl 22 f58:=fnOk_of (by kernel_rfl) (by kernel_rfl) (by kernel_rfl)
theorem k72:FnOk Tryz.prog gl 84 f72:=fnOk_of (by kernel_rfl) (by kernel_rfl) (by kernel_rfl)
theorem k82:FnOk Tryz.prog gl 156 f82:=fnOk_of (by kernel_rfl) (by kernel_rfl) (by kernel_rfl)
theorem k99:FnOk Tryz.prog gl 170 f99:=fnOk_of (by kernel_rfl) (by kernel_rfl) (by kernel_rfl)
theorem k103:FnOk Tryz.prog gl 141 f103:=fnOk_of (by kernel_rfl) (by kernel_rfl) (by kernel_rfl)
theorem k115:FnOk Tryz.prog gl 171 f115:=fnOk_of (by kernel_rfl) (by kernel_rfl) (by kernel_rfl)
theorem k123:FnOk Tryz.prog gl 112 f123:=fnOk_of (by kernel_rfl) (by kernel_rfl) (by kernel_rfl)
theorem k131:FnOk Tryz.prog gl 206 f131:=fnOk_of (by kernel_rfl) (by kernel_rfl) (by kernel_rfl)
theorem k147:FnOk Tryz.prog gl 161 f147:=fnOk_of (by kernel_rfl) (by kernel_rfl) (by kernel_rfl)
theorem k169:FnOk Tryz.prog gl 204 f169:=fnOk_of (by kernel_rfl) (by kernel_rfl) (by kernel_rfl)
theorem k173:FnOk Tryz.prog gl 213 f173:=fnOk_of (by kernel_rfl) (by kernel_rfl) (by kernel_rfl)
theorem k189:FnOk Tryz.prog gl 250 f189:=fnOk_of (by kernel_rfl) (by kernel_rfl) (by kernel_rfl)
theorem k199:FnOk Tryz.prog gl 270 f199:=fnOk_of (by kernel_rfl) (by kernel_rfl) (by kernel_rfl)
theorem k1206:FnOk Tryz.prog gl 164 f1206:=fnOk_of (by kernel_rfl) (by kernel_rfl) (by kernel_rfl)
theorem k1255:FnOk Tryz.prog gl 14 f1255:=fnOk_of (by kernel_rfl) (by kernel_rfl) (by kernel_rfl)
theorem k1260:FnOk Tryz.prog gl 71 f1260:=fnOk_of (by kernel_rfl) (by kernel_rfl) (by kernel_rfl)
theorem k1278:FnOk Tryz.prog gl 65 f1278:=fnOk_of (by kernel_rfl) (by kernel_rfl) (by kernel_rfl)
theorem k1279:FnOk Tryz.prog gl 72 f1279:=fnOk_of (by kernel_rfl) (by kernel_rfl) (by kernel_rfl)
theorem k1285:FnOk Tryz.prog gl 28 f1285:=fnOk_of (by kernel_rfl) (by kernel_rfl) (by kernel_rfl)
theorem k1311:FnOk Tryz.prog gl 90 f1311:=fnOk_of (by kernel_rfl) (by kernel_rfl) (by kernel_rfl)
theorem k1316:FnOk Tryz.prog gl 125 f1316:=fnOk_of (by kernel_rfl) (by kernel_rfl) (by kernel_rfl)
theorem k1320:FnOk Tryz.prog gl 75 f1320:=fnOk_of (by kernel_rfl) (by kernel_rfl) (by kernel_rfl)
theorem k1329:FnOk Tryz.prog gl 129 f1329:=fnOk_of (by kernel_rfl) (by kernel_rfl) (by kernel_rfl)
theorem k1332:FnOk Tryz.prog gl 123 f1332:=fnOk_of (by kernel_rfl) (by kernel_rfl) (by kernel_rfl)
theorem k1341:FnOk Tryz.prog gl 138 f1341:=fnOk_of (by kernel_rfl) (by kernel_rfl) (by kernel_rfl)
theorem k1351:FnOk Tryz.prog gl 109 f1351:=fnOk_of (by kernel_rfl) (by kernel_rfl) (by kernel_rfl)
theorem k1352:FnOk Tryz.prog gl 160 f1352:=fnOk_of (by kernel_rfl) (by kernel_rfl) (by kernel_rfl)
theorem k1356:FnOk Tryz.prog gl 159 f1356:=fnOk_of (by kernel_rfl) (by kernel_rfl) (by kernel_rfl)
theorem k1361:FnOk Tryz.prog gl 210 f1361:=fnOk_of (by kernel_rfl) (by kernel_rfl) (by kernel_rfl)
end Tab
end Go.Tidy
