/- A part of the proof. -/
import Derived.Test.YtjibbhaeaikhpaaGreatDoorTabQT
import Derived.Test.YtjibbhaeaikhpaaGreatDoorPa1
import Derived.Test.YtjibbhaeaikhpaaGreatDoorProg
import Derived.KernelRfl
set_option linter.all false
namespace Go.Tidy
open Go Go.Proofs
namespace Tab
theorem k2:FnOk Tryz.prog gl 2 f2:=fnOk_of (by kernel_rfl) (by kernel_rfl) (by kernel_rfl)
theorem k3:FnOk Tryz.prog gl 3 f3:=fnOk_of (by kernel_rfl) (by kernel_rfl) (by kernel_rfl)
theorem k11:FnOk Tryz.prog gl 13 f11:=fnOk_of (by kernel_rfl) (by kernel_rfl) (by kernel_rfl)
theorem k13:FnOk Tryz.prog gl 15 f13:=fnOk_of (by kernel_rfl) (by kernel_rfl) (by kernel_rfl)
theorem k14:FnOk Tryz.prog gl 16 f14:=fnOk_of (by kernel_rfl) (by kernel_rfl) (by kernel_rfl)
theorem k29:FnOk Tryz.prog gl 31 f29:=fnOk_of (by kernel_rfl) (by kernel_rfl) (by kernel_rfl)
theorem k41:FnOk Tryz.prog gl 43 f41:=fnOk_of (by kernel_rfl) (by kernel_rfl) (by kernel_rfl)
theorem k59:FnOk Tryz.prog gl 68 f59:=fnOk_of (by kernel_rfl) (by kernel_rfl) (by kernel_rfl)
theorem k60:FnOk Tryz.prog gl 81 f60:=fnOk_of (by kernel_rfl) (by kernel_rfl) (by kernel_rfl)
theorem k62:FnOk Tryz.prog gl 84 f62:=fnOk_of (by kernel_rfl) (by kernel_rfl) (by kernel_rfl)
theorem k63:FnOk Tryz.prog gl 85 f63:=fnOk_of (by kernel_rfl) (by kernel_rfl) (by kernel_rfl)
theorem k65:FnOk Tryz.prog gl 56 f65:=fnOk_of (by kernel_rfl) (by kernel_rfl) (by kernel_rfl)
theorem k66:FnOk Tryz.prog gl 58 f66:=fnOk_of (by kernel_rfl) (by kernel_rfl) (by kernel_rfl)
theorem k68:FnOk Tryz.prog gl 73 f68:=fnOk_of (by kernel_rfl) (by kernel_rfl) (by kernel_rfl)
theorem k73:FnOk Tryz.prog gl 89 f73:=fnOk_of (by kernel_rfl) (by kernel_rfl) (by kernel_rfl)
theorem k81:FnOk Tryz.prog gl 97 f81:=fnOk_of (by kernel_rfl) (by kernel_rfl) (by kernel_rfl)
theorem k84:FnOk Tryz.prog gl 100 f84:=fnOk_of (by kernel_rfl) (by kernel_rfl) (by kernel_rfl)
theorem k85:FnOk Tryz.prog gl 101 f85:=fnOk_of (by kernel_rfl) (by kernel_rfl) (by kernel_rfl)
theorem k102:FnOk Tryz.prog gl 118 f102:=fnOk_of (by kernel_rfl) (by kernel_rfl) (by kernel_rfl)
theorem k104:FnOk Tryz.prog gl 120 f104:=fnOk_of (by kernel_rfl) (by kernel_rfl) (by kernel_rfl)
theorem k120:FnOk Tryz.prog gl 139 f120:=fnOk_of (by kernel_rfl) (by kernel_rfl) (by kernel_rfl)
theorem k121:FnOk Tryz.prog gl 140 f121:=fnOk_of (by kernel_rfl) (by kernel_rfl) (by kernel_rfl)
theorem k136:FnOk Tryz.prog gl 171 f136:=fnOk_of (by kernel_rfl) (by kernel_rfl) (by kernel_rfl)
theorem k140:FnOk Tryz.prog gl 175 f140:=fnOk_of (by kernel_rfl) (by kernel_rfl) (by kernel_rfl)
theorem k141:FnOk Tryz.prog gl 134 f141:=fnOk_of (by kernel_rfl) (by kernel_rfl) (by kernel_rfl)
theorem k145:FnOk Tryz.prog gl 179 f145:=fnOk_of (by kernel_rfl) (by kernel_rfl) (by kernel_rfl)
theorem k150:FnOk Tryz.prog gl 205 f150:=fnOk_of (by kernel_rfl) (by kernel_rfl) (by kernel_rfl)
theorem k157:FnOk Tryz.prog gl 193 f157:=fnOk_of (by kernel_rfl) (by kernel_rfl) (by kernel_rfl)
theorem k175:FnOk Tryz.prog gl 213 f175:=fnOk_of (by kernel_rfl) (by kernel_rfl) (by kernel_rfl)
theorem k187:FnOk Tryz.prog gl 251 f187:=fnOk_of (by kernel_rfl) (by kernel_rfl) (by kernel_rfl)
theorem k189:FnOk Tryz.prog gl 230 f189:=fnOk_of (by kernel_rfl) (by kernel_rfl) (by kernel_rfl)
theorem k199:FnOk Tryz.prog gl 266 f199:=fnOk_of (by kernel_rfl) (by kernel_rfl) (by kernel_rfl)
theorem k1016:FnOk Tryz.prog gl 62 f1016:=fnOk_of (by kernel_rfl) (by kernel_rfl) (by kernel_rfl)
theorem k1018:FnOk Tryz.prog gl 64 f1018:=fnOk_of (by kernel_rfl) (by kernel_rfl) (by kernel_rfl)
end Tab
end Go.Tidy
