/- A part of the proof. -/
import Derived.Test.YtjibbhaeaikhpaaGreatDoorTabQT
import Derived.Test.YtjibbhaeaikhpaaGreatDoorPa1
import Derived.Test.YtjibbhaeaikhpaaGreatDoorProg
import Derived.KernelRfl
set_option linter.all false
namespace Go.Tidy
open Go Go.Proofs
namespace Tab
theorem k4:FnOk Tryz.prog gl 4 f4:=fnOk_of (by kernel_rfl) (by kernel_rfl) (by kernel_rfl)
theorem k5:FnOk Tryz.prog gl 5 f5:=fnOk_of (by kernel_rfl) (by kernel_rfl) (by kernel_rfl)
theorem k14:FnOk Tryz.prog gl 16 f14:=fnOk_of (by kernel_rfl) (by kernel_rfl) (by kernel_rfl)
theorem k18:FnOk Tryz.prog gl 20 f18:=fnOk_of (by kernel_rfl) (by kernel_rfl) (by kernel_rfl)
theorem k21:FnOk Tryz.prog gl 23 f21:=fnOk_of (by kernel_rfl) (by kernel_rfl) (by kernel_rfl)
theorem k27:FnOk Tryz.prog gl 29 f27:=fnOk_of (by kernel_rfl) (by kernel_rfl) (by kernel_rfl)
theorem k53:FnOk Tryz.prog gl 83 f53:=fnOk_of (by kernel_rfl) (by kernel_rfl) (by kernel_rfl)
theorem k62:FnOk Tryz.prog gl 84 f62:=fnOk_of (by kernel_rfl) (by kernel_rfl) (by kernel_rfl)
theorem k63:FnOk Tryz.prog gl 85 f63:=fnOk_of (by kernel_rfl) (by kernel_rfl) (by kernel_rfl)
theorem k67:FnOk Tryz.prog gl 65 f67:=fnOk_of (by kernel_rfl) (by kernel_rfl) (by kernel_rfl)
theorem k68:FnOk Tryz.prog gl 73 f68:=fnOk_of (by kernel_rfl) (by kernel_rfl) (by kernel_rfl)
theorem k69:FnOk Tryz.prog gl 69 f69:=fnOk_of (by kernel_rfl) (by kernel_rfl) (by kernel_rfl)
theorem k70:FnOk Tryz.prog gl 86 f70:=fnOk_of (by kernel_rfl) (by kernel_rfl) (by kernel_rfl)
theorem k82:FnOk Tryz.prog gl 98 f82:=fnOk_of (by kernel_rfl) (by kernel_rfl) (by kernel_rfl)
theorem k84:FnOk Tryz.prog gl 100 f84:=fnOk_of (by kernel_rfl) (by kernel_rfl) (by kernel_rfl)
theorem k88:FnOk Tryz.prog gl 104 f88:=fnOk_of (by kernel_rfl) (by kernel_rfl) (by kernel_rfl)
theorem k99:FnOk Tryz.prog gl 115 f99:=fnOk_of (by kernel_rfl) (by kernel_rfl) (by kernel_rfl)
theorem k101:FnOk Tryz.prog gl 117 f101:=fnOk_of (by kernel_rfl) (by kernel_rfl) (by kernel_rfl)
theorem k109:FnOk Tryz.prog gl 125 f109:=fnOk_of (by kernel_rfl) (by kernel_rfl) (by kernel_rfl)
theorem k117:FnOk Tryz.prog gl 128 f117:=fnOk_of (by kernel_rfl) (by kernel_rfl) (by kernel_rfl)
theorem k121:FnOk Tryz.prog gl 140 f121:=fnOk_of (by kernel_rfl) (by kernel_rfl) (by kernel_rfl)
theorem k125:FnOk Tryz.prog gl 151 f125:=fnOk_of (by kernel_rfl) (by kernel_rfl) (by kernel_rfl)
theorem k127:FnOk Tryz.prog gl 141 f127:=fnOk_of (by kernel_rfl) (by kernel_rfl) (by kernel_rfl)
theorem k128:FnOk Tryz.prog gl 142 f128:=fnOk_of (by kernel_rfl) (by kernel_rfl) (by kernel_rfl)
theorem k131:FnOk Tryz.prog gl 166 f131:=fnOk_of (by kernel_rfl) (by kernel_rfl) (by kernel_rfl)
theorem k137:FnOk Tryz.prog gl 172 f137:=fnOk_of (by kernel_rfl) (by kernel_rfl) (by kernel_rfl)
theorem k139:FnOk Tryz.prog gl 174 f139:=fnOk_of (by kernel_rfl) (by kernel_rfl) (by kernel_rfl)
theorem k150:FnOk Tryz.prog gl 205 f150:=fnOk_of (by kernel_rfl) (by kernel_rfl) (by kernel_rfl)
theorem k158:FnOk Tryz.prog gl 194 f158:=fnOk_of (by kernel_rfl) (by kernel_rfl) (by kernel_rfl)
theorem k173:FnOk Tryz.prog gl 215 f173:=fnOk_of (by kernel_rfl) (by kernel_rfl) (by kernel_rfl)
theorem k174:FnOk Tryz.prog gl 216 f174:=fnOk_of (by kernel_rfl) (by kernel_rfl) (by kernel_rfl)
theorem k177:FnOk Tryz.prog gl 241 f177:=fnOk_of (by kernel_rfl) (by kernel_rfl) (by kernel_rfl)
theorem k1013:FnOk Tryz.prog gl 59 f1013:=fnOk_of (by kernel_rfl) (by kernel_rfl) (by kernel_rfl)
theorem k1014:FnOk Tryz.prog gl 60 f1014:=fnOk_of (by kernel_rfl) (by kernel_rfl) (by kernel_rfl)
end Tab
end Go.Tidy
