/- A part of the proof. -/
import Derived.Test.YtpbdcpgdbpkglaaGreatDoorTabQT
import Derived.Test.YtpbdcpgdbpkglaaGreatDoorPa1
import Derived.Test.YtpbdcpgdbpkglaaGreatDoorProg
import Derived.KernelRfl
set_option linter.all false
namespace Go.Tidy
open Go Go.Proofs
namespace Tab
theorem k19:FnOk Tryz.prog gl 122 f19:=fnOk_of (by kernel_rfl) (by kernel_rfl) (by kernel_rfl)
theorem k22:FnOk Tryz.prog gl 64 f22:=fnOk_of (by kernel_rfl) (by kernel_rfl) (by kernel_rfl)
theorem k64:FnOk Tryz.prog gl 139 f64:=fnOk_of (by kernel_rfl) (by kernel_rfl) (by kernel_rfl)
theorem k72:FnOk Tryz.prog gl 101 f72:=fnOk_of (by kernel_rfl) (by kernel_rfl) (by kernel_rfl)
theorem k73:FnOk Tryz.prog gl 152 f73:=fnOk_of (by kernel_rfl) (by kernel_rfl) (by kernel_rfl)
theorem k78:FnOk Tryz.prog gl 161 f78:=fnOk_of (by kernel_rfl) (by kernel_rfl) (by kernel_rfl)
theorem k91:FnOk Tryz.prog gl 160 f91:=fnOk_of (by kernel_rfl) (by kernel_rfl) (by kernel_rfl)
theorem k99:FnOk Tryz.prog gl 164 f99:=fnOk_of (by kernel_rfl) (by kernel_rfl) (by kernel_rfl)
theorem k103:FnOk Tryz.prog gl 87 f103:=fnOk_of (by kernel_rfl) (by kernel_rfl) (by kernel_rfl)
theorem k123:FnOk Tryz.prog gl 142 f123:=fnOk_of (by kernel_rfl) (by kernel_rfl) (by kernel_rfl)
theorem k124:FnOk Tryz.prog gl 143 f124:=fnOk_of (by kernel_rfl) (by kernel_rfl) (by kernel_rfl)
theorem k140:FnOk Tryz.prog gl 107 f140:=fnOk_of (by kernel_rfl) (by kernel_rfl) (by kernel_rfl)
theorem k147:FnOk Tryz.prog gl 146 f147:=fnOk_of (by kernel_rfl) (by kernel_rfl) (by kernel_rfl)
theorem k155:FnOk Tryz.prog gl 169 f155:=fnOk_of (by kernel_rfl) (by kernel_rfl) (by kernel_rfl)
theorem k165:FnOk Tryz.prog gl 158 f165:=fnOk_of (by kernel_rfl) (by kernel_rfl) (by kernel_rfl)
theorem k174:FnOk Tryz.prog gl 184 f174:=fnOk_of (by kernel_rfl) (by kernel_rfl) (by kernel_rfl)
theorem k177:FnOk Tryz.prog gl 189 f177:=fnOk_of (by kernel_rfl) (by kernel_rfl) (by kernel_rfl)
theorem k187:FnOk Tryz.prog gl 199 f187:=fnOk_of (by kernel_rfl) (by kernel_rfl) (by kernel_rfl)
theorem k1258:FnOk Tryz.prog gl 19 f1258:=fnOk_of (by kernel_rfl) (by kernel_rfl) (by kernel_rfl)
theorem k1261:FnOk Tryz.prog gl 22 f1261:=fnOk_of (by kernel_rfl) (by kernel_rfl) (by kernel_rfl)
theorem k1267:FnOk Tryz.prog gl 30 f1267:=fnOk_of (by kernel_rfl) (by kernel_rfl) (by kernel_rfl)
theorem k1285:FnOk Tryz.prog gl 52 f1285:=fnOk_of (by kernel_rfl) (by kernel_rfl) (by kernel_rfl)
theorem k1295:FnOk Tryz.prog gl 62 f1295:=fnOk_of (by kernel_rfl) (by kernel_rfl) (by kernel_rfl)
theorem k1307:FnOk Tryz.prog gl 76 f1307:=fnOk_of (by kernel_rfl) (by kernel_rfl) (by kernel_rfl)
theorem k1311:FnOk Tryz.prog gl 83 f1311:=fnOk_of (by kernel_rfl) (by kernel_rfl) (by kernel_rfl)
theorem k1313:FnOk Tryz.prog gl 85 f1313:=fnOk_of (by kernel_rfl) (by kernel_rfl) (by kernel_rfl)
theorem k1316:FnOk Tryz.prog gl 90 f1316:=fnOk_of (by kernel_rfl) (by kernel_rfl) (by kernel_rfl)
theorem k1317:FnOk Tryz.prog gl 92 f1317:=fnOk_of (by kernel_rfl) (by kernel_rfl) (by kernel_rfl)
theorem k1325:FnOk Tryz.prog gl 109 f1325:=fnOk_of (by kernel_rfl) (by kernel_rfl) (by kernel_rfl)
theorem k1351:FnOk Tryz.prog gl 140 f1351:=fnOk_of (by kernel_rfl) (by kernel_rfl) (by kernel_rfl)
theorem k1352:FnOk Tryz.prog gl 145 f1352:=fnOk_of (by kernel_rfl) (by kernel_rfl) (by kernel_rfl)
theorem k1354:FnOk Tryz.prog gl 149 f1354:=fnOk_of (by kernel_rfl) (by kernel_rfl) (by kernel_rfl)
theorem k1360:FnOk Tryz.prog gl 179 f1360:=fnOk_of (by kernel_rfl) (by kernel_rfl) (by kernel_rfl)
theorem k1361:FnOk Tryz.prog gl 180 f1361:=fnOk_of (by kernel_rfl) (by kernel_rfl) (by kernel_rfl)
end Tab
end Go.Tidy
