/- A part of the proof. -/
import Derived.Test.YtjibbhaeaikhpaaGreatDoorTabQT
import Derived.Test.YtjibbhaeaikhpaaGreatDoorPa1
import Derived.Test.YtjibbhaeaikhpaaGreatDoorProg
import Derived.KernelRfl
set_option linter.all false
namespace Go.Tidy
open Go Go.Proofs
namespace Tab
theorem k4:FnOk Tryz.prog gl 4 f4:=fnOk_of (by kernel_rfl) (by kernel_rfl) (by kernel_rfl)
theorem k5:FnOk Tryz.prog gl 5 f5:=fnOk_of (by kernel_rfl) (by kernel_rfl) (by kernel_rfl)
theorem k12:FnOk Tryz.prog gl 14 f12:=fnOk_of (by kernel_rfl) (by kernel_rfl) (by kernel_rfl)
theorem k13:FnOk Tryz.prog gl 15 f13:=fnOk_of (by kernel_rfl) (by kernel_rfl) (by kernel_rfl)
theorem k19:FnOk Tryz.prog gl 21 f19:=fnOk_of (by kernel_rfl) (by kernel_rfl) (by kernel_rfl)
theorem k30:FnOk Tryz.prog gl 32 f30:=fnOk_of (by kernel_rfl) (by kernel_rfl) (by kernel_rfl)
theorem k32:FnOk Tryz.prog gl 34 f32:=fnOk_of (by kernel_rfl) (by kernel_rfl) (by kernel_rfl)
theorem k46:FnOk Tryz.prog gl 48 f46:=fnOk_of (by kernel_rfl) (by kernel_rfl) (by kernel_rfl)
theorem k48:FnOk Tryz.prog gl 50 f48:=fnOk_of (by kernel_rfl) (by kernel_rfl) (by kernel_rfl)
theorem k58:FnOk Tryz.prog gl 159 f58:=fnOk_of (by kernel_rfl) (by kernel_rfl) (by kernel_rfl)
theorem k65:FnOk Tryz.prog gl 56 f65:=fnOk_of (by kernel_rfl) (by kernel_rfl) (by kernel_rfl)
theorem k74:FnOk Tryz.prog gl 90 f74:=fnOk_of (by kernel_rfl) (by kernel_rfl) (by kernel_rfl)
theorem k83:FnOk Tryz.prog gl 99 f83:=fnOk_of (by kernel_rfl) (by kernel_rfl) (by kernel_rfl)
theorem k84:FnOk Tryz.prog gl 100 f84:=fnOk_of (by kernel_rfl) (by kernel_rfl) (by kernel_rfl)
theorem k86:FnOk Tryz.prog gl 102 f86:=fnOk_of (by kernel_rfl) (by kernel_rfl) (by kernel_rfl)
theorem k87:FnOk Tryz.prog gl 103 f87:=fnOk_of (by kernel_rfl) (by kernel_rfl) (by kernel_rfl)
theorem k90:FnOk Tryz.prog gl 106 f90:=fnOk_of (by kernel_rfl) (by kernel_rfl) (by kernel_rfl)
theorem k94:FnOk Tryz.prog gl 110 f94:=fnOk_of (by kernel_rfl) (by kernel_rfl) (by kernel_rfl)
theorem k97:FnOk Tryz.prog gl 113 f97:=fnOk_of (by kernel_rfl) (by kernel_rfl) (by kernel_rfl)
theorem k99:FnOk Tryz.prog gl 115 f99:=fnOk_of (by kernel_rfl) (by kernel_rfl) (by kernel_rfl)
theorem k100:FnOk Tryz.prog gl 116 f100:=fnOk_of (by kernel_rfl) (by kernel_rfl) (by kernel_rfl)
theorem k101:FnOk Tryz.prog gl 117 f101:=fnOk_of (by kernel_rfl) (by kernel_rfl) (by kernel_rfl)
theorem k102:FnOk Tryz.prog gl 118 f102:=fnOk_of (by kernel_rfl) (by kernel_rfl) (by kernel_rfl)
theorem k108:FnOk Tryz.prog gl 124 f108:=fnOk_of (by kernel_rfl) (by kernel_rfl) (by kernel_rfl)
theorem k111:FnOk Tryz.prog gl 162 f111:=fnOk_of (by kernel_rfl) (by kernel_rfl) (by kernel_rfl)
theorem k112:FnOk Tryz.prog gl 163 f112:=fnOk_of (by kernel_rfl) (by kernel_rfl) (by kernel_rfl)
theorem k123:FnOk Tryz.prog gl 149 f123:=fnOk_of (by kernel_rfl) (by kernel_rfl) (by kernel_rfl)
theorem k126:FnOk Tryz.prog gl 152 f126:=fnOk_of (by kernel_rfl) (by kernel_rfl) (by kernel_rfl)
theorem k131:FnOk Tryz.prog gl 166 f131:=fnOk_of (by kernel_rfl) (by kernel_rfl) (by kernel_rfl)
theorem k133:FnOk Tryz.prog gl 168 f133:=fnOk_of (by kernel_rfl) (by kernel_rfl) (by kernel_rfl)
theorem k134:FnOk Tryz.prog gl 169 f134:=fnOk_of (by kernel_rfl) (by kernel_rfl) (by kernel_rfl)
theorem k139:FnOk Tryz.prog gl 174 f139:=fnOk_of (by kernel_rfl) (by kernel_rfl) (by kernel_rfl)
theorem k142:FnOk Tryz.prog gl 176 f142:=fnOk_of (by kernel_rfl) (by kernel_rfl) (by kernel_rfl)
theorem k151:FnOk Tryz.prog gl 185 f151:=fnOk_of (by kernel_rfl) (by kernel_rfl) (by kernel_rfl)
theorem k152:FnOk Tryz.prog gl 187 f152:=fnOk_of (by kernel_rfl) (by kernel_rfl) (by kernel_rfl)
theorem k156:FnOk Tryz.prog gl 192 f156:=fnOk_of (by kernel_rfl) (by kernel_rfl) (by kernel_rfl)
theorem k165:FnOk Tryz.prog gl 210 f165:=fnOk_of (by kernel_rfl) (by kernel_rfl) (by kernel_rfl)
theorem k166:FnOk Tryz.prog gl 211 f166:=fnOk_of (by kernel_rfl) (by kernel_rfl) (by kernel_rfl)
theorem k173:FnOk Tryz.prog gl 215 f173:=fnOk_of (by kernel_rfl) (by kernel_rfl) (by kernel_rfl)
theorem k175:FnOk Tryz.prog gl 213 f175:=fnOk_of (by kernel_rfl) (by kernel_rfl) (by kernel_rfl)
end Tab
end Go.Tidy
