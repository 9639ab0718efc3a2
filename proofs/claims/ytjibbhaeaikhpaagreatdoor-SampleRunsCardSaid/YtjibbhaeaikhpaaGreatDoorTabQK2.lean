/- A part of the proof. -/
import Derived.Test.YtjibbhaeaikhpaaGreatDoorTabQT
import Derived.Test.YtjibbhaeaikhpaaGreatDoorPa1
import Derived.Test.YtjibbhaeaikhpaaGreatDoorProg
import Derived.KernelRfl
set_option linter.all false
namespace Go.Tidy
open Go Go.Proofs
namespace Tab
theorem k3:FnOk Tryz.prog gl 3 f3:=fnOk_of (by kernel_rfl) (by kernel_rfl) (by kernel_rfl)
theorem k4:FnOk Tryz.prog gl 4 f4:=fnOk_of (by kernel_rfl) (by kernel_rfl) (by kernel_rfl)
theorem k5:FnOk Tryz.prog gl 5 f5:=fnOk_of (by kernel_rfl) (by kernel_rfl) (by kernel_rfl)
theorem k12:FnOk Tryz.prog gl 14 f12:=fnOk_of (by kernel_rfl) (by kernel_rfl) (by kernel_rfl)
theorem k18:FnOk Tryz.prog gl 20 f18:=fnOk_of (by kernel_rfl) (by kernel_rfl) (by kernel_rfl)
theorem k21:FnOk Tryz.prog gl 23 f21:=fnOk_of (by kernel_rfl) (by kernel_rfl) (by kernel_rfl)
theorem k25:FnOk Tryz.prog gl 27 f25:=fnOk_of (by kernel_rfl) (by kernel_rfl) (by kernel_rfl)
theorem k31:FnOk Tryz.prog gl 33 f31:=fnOk_of (by kernel_rfl) (by kernel_rfl) (by kernel_rfl)
theorem k37:FnOk Tryz.prog gl 39 f37:=fnOk_of (by kernel_rfl) (by kernel_rfl) (by kernel_rfl)
theorem k41:FnOk Tryz.prog gl 43 f41:=fnOk_of (by kernel_rfl) (by kernel_rfl) (by kernel_rfl)
theorem k42:FnOk Tryz.prog gl 44 f42:=fnOk_of (by kernel_rfl) (by kernel_rfl) (by kernel_rfl)
theorem k44:FnOk Tryz.prog gl 46 f44:=fnOk_of (by kernel_rfl) (by kernel_rfl) (by kernel_rfl)
theorem k60:FnOk Tryz.prog gl 81 f60:=fnOk_of (by kernel_rfl) (by kernel_rfl) (by kernel_rfl)
theorem k61:FnOk Tryz.prog gl 82 f61:=fnOk_of (by kernel_rfl) (by kernel_rfl) (by kernel_rfl)
theorem k71:FnOk Tryz.prog gl 87 f71:=fnOk_of (by kernel_rfl) (by kernel_rfl) (by kernel_rfl)
theorem k72:FnOk Tryz.prog gl 88 f72:=fnOk_of (by kernel_rfl) (by kernel_rfl) (by kernel_rfl)
theorem k77:FnOk Tryz.prog gl 93 f77:=fnOk_of (by kernel_rfl) (by kernel_rfl) (by kernel_rfl)
theorem k81:FnOk Tryz.prog gl 97 f81:=fnOk_of (by kernel_rfl) (by kernel_rfl) (by kernel_rfl)
theorem k88:FnOk Tryz.prog gl 104 f88:=fnOk_of (by kernel_rfl) (by kernel_rfl) (by kernel_rfl)
theorem k93:FnOk Tryz.prog gl 109 f93:=fnOk_of (by kernel_rfl) (by kernel_rfl) (by kernel_rfl)
theorem k96:FnOk Tryz.prog gl 112 f96:=fnOk_of (by kernel_rfl) (by kernel_rfl) (by kernel_rfl)
theorem k99:FnOk Tryz.prog gl 115 f99:=fnOk_of (by kernel_rfl) (by kernel_rfl) (by kernel_rfl)
theorem k100:FnOk Tryz.prog gl 116 f100:=fnOk_of (by kernel_rfl) (by kernel_rfl) (by kernel_rfl)
theorem k101:FnOk Tryz.prog gl 117 f101:=fnOk_of (by kernel_rfl) (by kernel_rfl) (by kernel_rfl)
theorem k104:FnOk Tryz.prog gl 120 f104:=fnOk_of (by kernel_rfl) (by kernel_rfl) (by kernel_rfl)
theorem k105:FnOk Tryz.prog gl 121 f105:=fnOk_of (by kernel_rfl) (by kernel_rfl) (by kernel_rfl)
theorem k115:FnOk Tryz.prog gl 160 f115:=fnOk_of (by kernel_rfl) (by kernel_rfl) (by kernel_rfl)
theorem k121:FnOk Tryz.prog gl 140 f121:=fnOk_of (by kernel_rfl) (by kernel_rfl) (by kernel_rfl)
theorem k137:FnOk Tryz.prog gl 172 f137:=fnOk_of (by kernel_rfl) (by kernel_rfl) (by kernel_rfl)
theorem k141:FnOk Tryz.prog gl 134 f141:=fnOk_of (by kernel_rfl) (by kernel_rfl) (by kernel_rfl)
theorem k143:FnOk Tryz.prog gl 177 f143:=fnOk_of (by kernel_rfl) (by kernel_rfl) (by kernel_rfl)
theorem k149:FnOk Tryz.prog gl 183 f149:=fnOk_of (by kernel_rfl) (by kernel_rfl) (by kernel_rfl)
theorem k151:FnOk Tryz.prog gl 185 f151:=fnOk_of (by kernel_rfl) (by kernel_rfl) (by kernel_rfl)
theorem k154:FnOk Tryz.prog gl 190 f154:=fnOk_of (by kernel_rfl) (by kernel_rfl) (by kernel_rfl)
theorem k165:FnOk Tryz.prog gl 210 f165:=fnOk_of (by kernel_rfl) (by kernel_rfl) (by kernel_rfl)
theorem k167:FnOk Tryz.prog gl 212 f167:=fnOk_of (by kernel_rfl) (by kernel_rfl) (by kernel_rfl)
theorem k170:FnOk Tryz.prog gl 129 f170:=fnOk_of (by kernel_rfl) (by kernel_rfl) (by kernel_rfl)
theorem k187:FnOk Tryz.prog gl 251 f187:=fnOk_of (by kernel_rfl) (by kernel_rfl) (by kernel_rfl)
theorem k189:FnOk Tryz.prog gl 230 f189:=fnOk_of (by kernel_rfl) (by kernel_rfl) (by kernel_rfl)
theorem k202:FnOk Tryz.prog gl 254 f202:=fnOk_of (by kernel_rfl) (by kernel_rfl) (by kernel_rfl)
end Tab
end Go.Tidy
