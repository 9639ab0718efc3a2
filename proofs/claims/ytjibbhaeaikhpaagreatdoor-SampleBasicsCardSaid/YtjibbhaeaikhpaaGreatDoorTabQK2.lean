/- A part of the proof. -/
import Derived.Test.YtjibbhaeaikhpaaGreatDoorTabQT
import Derived.Test.YtjibbhaeaikhpaaGreatDoorPa1
import Derived.Test.YtjibbhaeaikhpaaGreatDoorProg
import Derived.KernelRfl
set_option linter.all false
namespace Go.Tidy
open Go Go.Proofs
namespace Tab
theorem k2:FnOk Tryz.prog gl 2 f2:=fnOk_of (by kernel_rfl) (by kernel_rfl) (by kernel_rfl)
theorem k3:FnOk Tryz.prog gl 3 f3:=fnOk_of (by kernel_rfl) (by kernel_rfl) (by kernel_rfl)
theorem k4:FnOk Tryz.prog gl 4 f4:=fnOk_of (by kernel_rfl) (by kernel_rfl) (by kernel_rfl)
theorem k5:FnOk Tryz.prog gl 5 f5:=fnOk_of (by kernel_rfl) (by kernel_rfl) (by kernel_rfl)
theorem k15:FnOk Tryz.prog gl 17 f15:=fnOk_of (by kernel_rfl) (by kernel_rfl) (by kernel_rfl)
theorem k16:FnOk Tryz.prog gl 18 f16:=fnOk_of (by kernel_rfl) (by kernel_rfl) (by kernel_rfl)
theorem k28:FnOk Tryz.prog gl 30 f28:=fnOk_of (by kernel_rfl) (by kernel_rfl) (by kernel_rfl)
theorem k32:FnOk Tryz.prog gl 34 f32:=fnOk_of (by kernel_rfl) (by kernel_rfl) (by kernel_rfl)
theorem k58:FnOk Tryz.prog gl 159 f58:=fnOk_of (by kernel_rfl) (by kernel_rfl) (by kernel_rfl)
theorem k60:FnOk Tryz.prog gl 81 f60:=fnOk_of (by kernel_rfl) (by kernel_rfl) (by kernel_rfl)
theorem k61:FnOk Tryz.prog gl 82 f61:=fnOk_of (by kernel_rfl) (by kernel_rfl) (by kernel_rfl)
theorem k65:FnOk Tryz.prog gl 56 f65:=fnOk_of (by kernel_rfl) (by kernel_rfl) (by kernel_rfl)
theorem k68:FnOk Tryz.prog gl 73 f68:=fnOk_of (by kernel_rfl) (by kernel_rfl) (by kernel_rfl)
theorem k72:FnOk Tryz.prog gl 88 f72:=fnOk_of (by kernel_rfl) (by kernel_rfl) (by kernel_rfl)
theorem k73:FnOk Tryz.prog gl 89 f73:=fnOk_of (by kernel_rfl) (by kernel_rfl) (by kernel_rfl)
theorem k79:FnOk Tryz.prog gl 95 f79:=fnOk_of (by kernel_rfl) (by kernel_rfl) (by kernel_rfl)
theorem k82:FnOk Tryz.prog gl 98 f82:=fnOk_of (by kernel_rfl) (by kernel_rfl) (by kernel_rfl)
theorem k100:FnOk Tryz.prog gl 116 f100:=fnOk_of (by kernel_rfl) (by kernel_rfl) (by kernel_rfl)
theorem k101:FnOk Tryz.prog gl 117 f101:=fnOk_of (by kernel_rfl) (by kernel_rfl) (by kernel_rfl)
theorem k102:FnOk Tryz.prog gl 118 f102:=fnOk_of (by kernel_rfl) (by kernel_rfl) (by kernel_rfl)
theorem k104:FnOk Tryz.prog gl 120 f104:=fnOk_of (by kernel_rfl) (by kernel_rfl) (by kernel_rfl)
theorem k113:FnOk Tryz.prog gl 164 f113:=fnOk_of (by kernel_rfl) (by kernel_rfl) (by kernel_rfl)
theorem k116:FnOk Tryz.prog gl 127 f116:=fnOk_of (by kernel_rfl) (by kernel_rfl) (by kernel_rfl)
theorem k132:FnOk Tryz.prog gl 167 f132:=fnOk_of (by kernel_rfl) (by kernel_rfl) (by kernel_rfl)
theorem k135:FnOk Tryz.prog gl 170 f135:=fnOk_of (by kernel_rfl) (by kernel_rfl) (by kernel_rfl)
theorem k136:FnOk Tryz.prog gl 171 f136:=fnOk_of (by kernel_rfl) (by kernel_rfl) (by kernel_rfl)
theorem k151:FnOk Tryz.prog gl 185 f151:=fnOk_of (by kernel_rfl) (by kernel_rfl) (by kernel_rfl)
theorem k154:FnOk Tryz.prog gl 190 f154:=fnOk_of (by kernel_rfl) (by kernel_rfl) (by kernel_rfl)
theorem k157:FnOk Tryz.prog gl 193 f157:=fnOk_of (by kernel_rfl) (by kernel_rfl) (by kernel_rfl)
theorem k158:FnOk Tryz.prog gl 194 f158:=fnOk_of (by kernel_rfl) (by kernel_rfl) (by kernel_rfl)
theorem k165:FnOk Tryz.prog gl 210 f165:=fnOk_of (by kernel_rfl) (by kernel_rfl) (by kernel_rfl)
theorem k167:FnOk Tryz.prog gl 212 f167:=fnOk_of (by kernel_rfl) (by kernel_rfl) (by kernel_rfl)
theorem k169:FnOk Tryz.prog gl 228 f169:=fnOk_of (by kernel_rfl) (by kernel_rfl) (by kernel_rfl)
theorem k174:FnOk Tryz.prog gl 216 f174:=fnOk_of (by kernel_rfl) (by kernel_rfl) (by kernel_rfl)
theorem k187:FnOk Tryz.prog gl 251 f187:=fnOk_of (by kernel_rfl) (by kernel_rfl) (by kernel_rfl)
end Tab
end Go.Tidy
