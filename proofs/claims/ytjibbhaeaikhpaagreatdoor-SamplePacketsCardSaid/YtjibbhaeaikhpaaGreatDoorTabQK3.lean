/- A part of the proof. -/
import Derived.Test.YtjibbhaeaikhpaaGreatDoorTabQT
import Derived.Test.YtjibbhaeaikhpaaGreatDoorPa1
import Derived.Test.YtjibbhaeaikhpaaGreatDoorProg
import Derived.KernelRfl
set_option linter.all false
namespace Go.Tidy
open Go Go.Proofs
namespace Tab
theorem k16:FnOk Tryz.prog gl 18 f16:=fnOk_of (by kernel_rfl) (by kernel_rfl) (by kernel_rfl)
theorem k26:FnOk Tryz.prog gl 28 f26:=fnOk_of (by kernel_rfl) (by kernel_rfl) (by kernel_rfl)
theorem k27:FnOk Tryz.prog gl 29 f27:=fnOk_of (by kernel_rfl) (by kernel_rfl) (by kernel_rfl)
theorem k30:FnOk Tryz.prog gl 32 f30:=fnOk_of (by kernel_rfl) (by kernel_rfl) (by kernel_rfl)
theorem k45:FnOk Tryz.prog gl 47 f45:=fnOk_of (by kernel_rfl) (by kernel_rfl) (by kernel_rfl)
theorem k53:FnOk Tryz.prog gl 83 f53:=fnOk_of (by kernel_rfl) (by kernel_rfl) (by kernel_rfl)
theorem k57:FnOk Tryz.prog gl 77 f57:=fnOk_of (by kernel_rfl) (by kernel_rfl) (by kernel_rfl)
theorem k58:FnOk Tryz.prog gl 159 f58:=fnOk_of (by kernel_rfl) (by kernel_rfl) (by kernel_rfl)
theorem k70:FnOk Tryz.prog gl 86 f70:=fnOk_of (by kernel_rfl) (by kernel_rfl) (by kernel_rfl)
theorem k71:FnOk Tryz.prog gl 87 f71:=fnOk_of (by kernel_rfl) (by kernel_rfl) (by kernel_rfl)
theorem k72:FnOk Tryz.prog gl 88 f72:=fnOk_of (by kernel_rfl) (by kernel_rfl) (by kernel_rfl)
theorem k77:FnOk Tryz.prog gl 93 f77:=fnOk_of (by kernel_rfl) (by kernel_rfl) (by kernel_rfl)
theorem k78:FnOk Tryz.prog gl 94 f78:=fnOk_of (by kernel_rfl) (by kernel_rfl) (by kernel_rfl)
theorem k80:FnOk Tryz.prog gl 96 f80:=fnOk_of (by kernel_rfl) (by kernel_rfl) (by kernel_rfl)
theorem k82:FnOk Tryz.prog gl 98 f82:=fnOk_of (by kernel_rfl) (by kernel_rfl) (by kernel_rfl)
theorem k86:FnOk Tryz.prog gl 102 f86:=fnOk_of (by kernel_rfl) (by kernel_rfl) (by kernel_rfl)
theorem k90:FnOk Tryz.prog gl 106 f90:=fnOk_of (by kernel_rfl) (by kernel_rfl) (by kernel_rfl)
theorem k100:FnOk Tryz.prog gl 116 f100:=fnOk_of (by kernel_rfl) (by kernel_rfl) (by kernel_rfl)
theorem k105:FnOk Tryz.prog gl 121 f105:=fnOk_of (by kernel_rfl) (by kernel_rfl) (by kernel_rfl)
theorem k111:FnOk Tryz.prog gl 162 f111:=fnOk_of (by kernel_rfl) (by kernel_rfl) (by kernel_rfl)
theorem k113:FnOk Tryz.prog gl 164 f113:=fnOk_of (by kernel_rfl) (by kernel_rfl) (by kernel_rfl)
theorem k119:FnOk Tryz.prog gl 133 f119:=fnOk_of (by kernel_rfl) (by kernel_rfl) (by kernel_rfl)
theorem k123:FnOk Tryz.prog gl 149 f123:=fnOk_of (by kernel_rfl) (by kernel_rfl) (by kernel_rfl)
theorem k124:FnOk Tryz.prog gl 150 f124:=fnOk_of (by kernel_rfl) (by kernel_rfl) (by kernel_rfl)
theorem k128:FnOk Tryz.prog gl 142 f128:=fnOk_of (by kernel_rfl) (by kernel_rfl) (by kernel_rfl)
theorem k134:FnOk Tryz.prog gl 169 f134:=fnOk_of (by kernel_rfl) (by kernel_rfl) (by kernel_rfl)
theorem k139:FnOk Tryz.prog gl 174 f139:=fnOk_of (by kernel_rfl) (by kernel_rfl) (by kernel_rfl)
theorem k147:FnOk Tryz.prog gl 181 f147:=fnOk_of (by kernel_rfl) (by kernel_rfl) (by kernel_rfl)
theorem k152:FnOk Tryz.prog gl 187 f152:=fnOk_of (by kernel_rfl) (by kernel_rfl) (by kernel_rfl)
theorem k154:FnOk Tryz.prog gl 190 f154:=fnOk_of (by kernel_rfl) (by kernel_rfl) (by kernel_rfl)
theorem k155:FnOk Tryz.prog gl 191 f155:=fnOk_of (by kernel_rfl) (by kernel_rfl) (by kernel_rfl)
theorem k156:FnOk Tryz.prog gl 192 f156:=fnOk_of (by kernel_rfl) (by kernel_rfl) (by kernel_rfl)
theorem k168:FnOk Tryz.prog gl 227 f168:=fnOk_of (by kernel_rfl) (by kernel_rfl) (by kernel_rfl)
theorem k174:FnOk Tryz.prog gl 216 f174:=fnOk_of (by kernel_rfl) (by kernel_rfl) (by kernel_rfl)
theorem k191:FnOk Tryz.prog gl 232 f191:=fnOk_of (by kernel_rfl) (by kernel_rfl) (by kernel_rfl)
theorem k1014:FnOk Tryz.prog gl 60 f1014:=fnOk_of (by kernel_rfl) (by kernel_rfl) (by kernel_rfl)
end Tab
end Go.Tidy
