/- A part of the proof. -/
import Derived.Test.YtjibbhaeaikhpaaGreatDoorTabQT
import Derived.Test.YtjibbhaeaikhpaaGreatDoorPa1
import Derived.Test.YtjibbhaeaikhpaaGreatDoorProg
import Derived.KernelRfl
set_option linter.all false
namespace Go.Tidy
open Go Go.Proofs
namespace Tab
theorem k3:FnOk Tryz.prog gl 3 f3:=fnOk_of (by kernel_rfl) (by kernel_rfl) (by kernel_rfl)
theorem k6:FnOk Tryz.prog gl 6 f6:=fnOk_of (by kernel_rfl) (by kernel_rfl) (by kernel_rfl)
theorem k11:FnOk Tryz.prog gl 13 f11:=fnOk_of (by kernel_rfl) (by kernel_rfl) (by kernel_rfl)
theorem k16:FnOk Tryz.prog gl 18 f16:=fnOk_of (by kernel_rfl) (by kernel_rfl) (by kernel_rfl)
theorem k26:FnOk Tryz.prog gl 28 f26:=fnOk_of (by kernel_rfl) (by kernel_rfl) (by kernel_rfl)
theorem k28:FnOk Tryz.prog gl 30 f28:=fnOk_of (by kernel_rfl) (by kernel_rfl) (by kernel_rfl)
theorem k30:FnOk Tryz.prog gl 32 f30:=fnOk_of (by kernel_rfl) (by kernel_rfl) (by kernel_rfl)
theorem k32:FnOk Tryz.prog gl 34 f32:=fnOk_of (by kernel_rfl) (by kernel_rfl) (by kernel_rfl)
theorem k49:FnOk Tryz.prog gl 51 f49:=fnOk_of (by kernel_rfl) (by kernel_rfl) (by kernel_rfl)
theorem k57:FnOk Tryz.prog gl 77 f57:=fnOk_of (by kernel_rfl) (by kernel_rfl) (by kernel_rfl)
theorem k58:FnOk Tryz.prog gl 159 f58:=fnOk_of (by kernel_rfl) (by kernel_rfl) (by kernel_rfl)
theorem k60:FnOk Tryz.prog gl 81 f60:=fnOk_of (by kernel_rfl) (by kernel_rfl) (by kernel_rfl)
theorem k61:FnOk Tryz.prog gl 82 f61:=fnOk_of (by kernel_rfl) (by kernel_rfl) (by kernel_rfl)
theorem k64:FnOk Tryz.prog gl 79 f64:=fnOk_of (by kernel_rfl) (by kernel_rfl) (by kernel_rfl)
theorem k74:FnOk Tryz.prog gl 90 f74:=fnOk_of (by kernel_rfl) (by kernel_rfl) (by kernel_rfl)
theorem k78:FnOk Tryz.prog gl 94 f78:=fnOk_of (by kernel_rfl) (by kernel_rfl) (by kernel_rfl)
theorem k102:FnOk Tryz.prog gl 118 f102:=fnOk_of (by kernel_rfl) (by kernel_rfl) (by kernel_rfl)
theorem k103:FnOk Tryz.prog gl 119 f103:=fnOk_of (by kernel_rfl) (by kernel_rfl) (by kernel_rfl)
theorem k104:FnOk Tryz.prog gl 120 f104:=fnOk_of (by kernel_rfl) (by kernel_rfl) (by kernel_rfl)
theorem k105:FnOk Tryz.prog gl 121 f105:=fnOk_of (by kernel_rfl) (by kernel_rfl) (by kernel_rfl)
theorem k111:FnOk Tryz.prog gl 162 f111:=fnOk_of (by kernel_rfl) (by kernel_rfl) (by kernel_rfl)
theorem k116:FnOk Tryz.prog gl 127 f116:=fnOk_of (by kernel_rfl) (by kernel_rfl) (by kernel_rfl)
theorem k118:FnOk Tryz.prog gl 132 f118:=fnOk_of (by kernel_rfl) (by kernel_rfl) (by kernel_rfl)
theorem k124:FnOk Tryz.prog gl 150 f124:=fnOk_of (by kernel_rfl) (by kernel_rfl) (by kernel_rfl)
theorem k132:FnOk Tryz.prog gl 167 f132:=fnOk_of (by kernel_rfl) (by kernel_rfl) (by kernel_rfl)
theorem k135:FnOk Tryz.prog gl 170 f135:=fnOk_of (by kernel_rfl) (by kernel_rfl) (by kernel_rfl)
theorem k144:FnOk Tryz.prog gl 178 f144:=fnOk_of (by kernel_rfl) (by kernel_rfl) (by kernel_rfl)
theorem k152:FnOk Tryz.prog gl 187 f152:=fnOk_of (by kernel_rfl) (by kernel_rfl) (by kernel_rfl)
theorem k154:FnOk Tryz.prog gl 190 f154:=fnOk_of (by kernel_rfl) (by kernel_rfl) (by kernel_rfl)
theorem k156:FnOk Tryz.prog gl 192 f156:=fnOk_of (by kernel_rfl) (by kernel_rfl) (by kernel_rfl)
theorem k167:FnOk Tryz.prog gl 212 f167:=fnOk_of (by kernel_rfl) (by kernel_rfl) (by kernel_rfl)
theorem k190:FnOk Tryz.prog gl 231 f190:=fnOk_of (by kernel_rfl) (by kernel_rfl) (by kernel_rfl)
end Tab
end Go.Tidy
