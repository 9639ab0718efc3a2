/- A part of the proof. -/
import Derived.Test.YtjibbhaeaikhpaaGreatDoorTabQT
import Derived.Test.YtjibbhaeaikhpaaGreatDoorPa1
import Derived.Test.YtjibbhaeaikhpaaGreatDoorProg
import Derived.KernelRfl
set_option linter.all false
namespace Go.Tidy
open Go Go.Proofs
namespace Tab
theorem k11:FnOk Tryz.prog gl 13 f11:=fnOk_of (by kernel_rfl) (by kernel_rfl) (by kernel_rfl)
theorem k12:FnOk Tryz.prog gl 14 f12:=fnOk_of (by kernel_rfl) (by kernel_rfl) (by kernel_rfl)
theorem k18:FnOk Tryz.prog gl 20 f18:=fnOk_of (by kernel_rfl) (by kernel_rfl) (by kernel_rfl)
theorem k21:FnOk Tryz.prog gl 23 f21:=fnOk_of (by kernel_rfl) (by kernel_rfl) (by kernel_rfl)
theorem k26:FnOk Tryz.prog gl 28 f26:=fnOk_of (by kernel_rfl) (by kernel_rfl) (by kernel_rfl)
theorem k44:FnOk Tryz.prog gl 46 f44:=fnOk_of (by kernel_rfl) (by kernel_rfl) (by kernel_rfl)
theorem k62:FnOk Tryz.prog gl 84 f62:=fnOk_of (by kernel_rfl) (by kernel_rfl) (by kernel_rfl)
theorem k67:FnOk Tryz.prog gl 65 f67:=fnOk_of (by kernel_rfl) (by kernel_rfl) (by kernel_rfl)
theorem k71:FnOk Tryz.prog gl 87 f71:=fnOk_of (by kernel_rfl) (by kernel_rfl) (by kernel_rfl)
theorem k75:FnOk Tryz.prog gl 91 f75:=fnOk_of (by kernel_rfl) (by kernel_rfl) (by kernel_rfl)
theorem k76:FnOk Tryz.prog gl 92 f76:=fnOk_of (by kernel_rfl) (by kernel_rfl) (by kernel_rfl)
theorem k78:FnOk Tryz.prog gl 94 f78:=fnOk_of (by kernel_rfl) (by kernel_rfl) (by kernel_rfl)
theorem k84:FnOk Tryz.prog gl 100 f84:=fnOk_of (by kernel_rfl) (by kernel_rfl) (by kernel_rfl)
theorem k90:FnOk Tryz.prog gl 106 f90:=fnOk_of (by kernel_rfl) (by kernel_rfl) (by kernel_rfl)
theorem k99:FnOk Tryz.prog gl 115 f99:=fnOk_of (by kernel_rfl) (by kernel_rfl) (by kernel_rfl)
theorem k108:FnOk Tryz.prog gl 124 f108:=fnOk_of (by kernel_rfl) (by kernel_rfl) (by kernel_rfl)
theorem k109:FnOk Tryz.prog gl 125 f109:=fnOk_of (by kernel_rfl) (by kernel_rfl) (by kernel_rfl)
theorem k117:FnOk Tryz.prog gl 128 f117:=fnOk_of (by kernel_rfl) (by kernel_rfl) (by kernel_rfl)
theorem k120:FnOk Tryz.prog gl 139 f120:=fnOk_of (by kernel_rfl) (by kernel_rfl) (by kernel_rfl)
theorem k126:FnOk Tryz.prog gl 152 f126:=fnOk_of (by kernel_rfl) (by kernel_rfl) (by kernel_rfl)
theorem k134:FnOk Tryz.prog gl 169 f134:=fnOk_of (by kernel_rfl) (by kernel_rfl) (by kernel_rfl)
theorem k137:FnOk Tryz.prog gl 172 f137:=fnOk_of (by kernel_rfl) (by kernel_rfl) (by kernel_rfl)
theorem k138:FnOk Tryz.prog gl 173 f138:=fnOk_of (by kernel_rfl) (by kernel_rfl) (by kernel_rfl)
theorem k140:FnOk Tryz.prog gl 175 f140:=fnOk_of (by kernel_rfl) (by kernel_rfl) (by kernel_rfl)
theorem k150:FnOk Tryz.prog gl 205 f150:=fnOk_of (by kernel_rfl) (by kernel_rfl) (by kernel_rfl)
theorem k153:FnOk Tryz.prog gl 57 f153:=fnOk_of (by kernel_rfl) (by kernel_rfl) (by kernel_rfl)
theorem k171:FnOk Tryz.prog gl 130 f171:=fnOk_of (by kernel_rfl) (by kernel_rfl) (by kernel_rfl)
theorem k177:FnOk Tryz.prog gl 241 f177:=fnOk_of (by kernel_rfl) (by kernel_rfl) (by kernel_rfl)
theorem k189:FnOk Tryz.prog gl 230 f189:=fnOk_of (by kernel_rfl) (by kernel_rfl) (by kernel_rfl)
theorem k190:FnOk Tryz.prog gl 231 f190:=fnOk_of (by kernel_rfl) (by kernel_rfl) (by kernel_rfl)
theorem k191:FnOk Tryz.prog gl 232 f191:=fnOk_of (by kernel_rfl) (by kernel_rfl) (by kernel_rfl)
theorem k199:FnOk Tryz.prog gl 266 f199:=fnOk_of (by kernel_rfl) (by kernel_rfl) (by kernel_rfl)
end Tab
end Go.Tidy
