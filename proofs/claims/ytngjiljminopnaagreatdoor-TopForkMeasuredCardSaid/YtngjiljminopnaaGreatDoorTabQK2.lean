/- A part of the proof. -/
import Derived.Test.YtngjiljminopnaaGreatDoorTabQT
import Derived.Test.YtngjiljminopnaaGreatDoorPa1
import Derived.Test.YtngjiljminopnaaGreatDoorProg
import Derived.KernelRfl
set_option linter.all false
namespace Go.Tidy
open Go Go.Proofs
namespace Tab
theorem k17:qbq Tryz.prog gl 175 f17:=qag (by kernel_rfl) (by kernel_rfl) (by kernel_rfl)
theorem k21:qbq Tryz.prog gl 129 f21:=qag (by kernel_rfl) (by kernel_rfl) (by kernel_rfl)
theorem k23:qbq Tryz.prog gl 107 f23:=qag (by kernel_rfl) (by kernel_rfl) (by kernel_rfl)
theorem k41:qbq Tryz.prog gl 109 f41:=qag (by kernel_rfl) (by kernel_rfl) (by kernel_rfl)
theorem k59:qbq Tryz.prog gl 55 f59:=qag (by kernel_rfl) (by kernel_rfl) (by kernel_rfl)
theorem k72:qbq Tryz.prog gl 88 f72:=qag (by kernel_rfl) (by kernel_rfl) (by kernel_rfl)
theorem k80:qbq Tryz.prog gl 166 f80:=qag (by kernel_rfl) (by kernel_rfl) (by kernel_rfl)
theorem k86:qbq Tryz.prog gl 161 f86:=qag (by kernel_rfl) (by kernel_rfl) (by kernel_rfl)
theorem k87:qbq Tryz.prog gl 113 f87:=qag (by kernel_rfl) (by kernel_rfl) (by kernel_rfl)
theorem k90:qbq Tryz.prog gl 118 f90:=qag (by kernel_rfl) (by kernel_rfl) (by kernel_rfl)
theorem k92:qbq Tryz.prog gl 149 f92:=qag (by kernel_rfl) (by kernel_rfl) (by kernel_rfl)
theorem k94:qbq Tryz.prog gl 151 f94:=qag (by kernel_rfl) (by kernel_rfl) (by kernel_rfl)
theorem k100:qbq Tryz.prog gl 153 f100:=qag (by kernel_rfl) (by kernel_rfl) (by kernel_rfl)
theorem k115:qbq Tryz.prog gl 127 f115:=qag (by kernel_rfl) (by kernel_rfl) (by kernel_rfl)
theorem k131:qbq Tryz.prog gl 182 f131:=qag (by kernel_rfl) (by kernel_rfl) (by kernel_rfl)
theorem k132:qbq Tryz.prog gl 183 f132:=qag (by kernel_rfl) (by kernel_rfl) (by kernel_rfl)
theorem k133:qbq Tryz.prog gl 184 f133:=qag (by kernel_rfl) (by kernel_rfl) (by kernel_rfl)
theorem k140:qbq Tryz.prog gl 147 f140:=qag (by kernel_rfl) (by kernel_rfl) (by kernel_rfl)
theorem k167:qbq Tryz.prog gl 180 f167:=qag (by kernel_rfl) (by kernel_rfl) (by kernel_rfl)
theorem k1064:qbq Tryz.prog gl 83 f1064:=qag (by kernel_rfl) (by kernel_rfl) (by kernel_rfl)
theorem k1135:qbq Tryz.prog gl 35 f1135:=qag (by kernel_rfl) (by kernel_rfl) (by kernel_rfl)
theorem k1153:qbq Tryz.prog gl 38 f1153:=qag (by kernel_rfl) (by kernel_rfl) (by kernel_rfl)
theorem k1154:qbq Tryz.prog gl 39 f1154:=qag (by kernel_rfl) (by kernel_rfl) (by kernel_rfl)
theorem k1177:qbq Tryz.prog gl 92 f1177:=qag (by kernel_rfl) (by kernel_rfl) (by kernel_rfl)
theorem k1191:qbq Tryz.prog gl 99 f1191:=qag (by kernel_rfl) (by kernel_rfl) (by kernel_rfl)
theorem k1200:qbq Tryz.prog gl 102 f1200:=qag (by kernel_rfl) (by kernel_rfl) (by kernel_rfl)
theorem k1223:qbq Tryz.prog gl 145 f1223:=qag (by kernel_rfl) (by kernel_rfl) (by kernel_rfl)
theorem k1230:qbq Tryz.prog gl 139 f1230:=qag (by kernel_rfl) (by kernel_rfl) (by kernel_rfl)
theorem k1232:qbq Tryz.prog gl 173 f1232:=qag (by kernel_rfl) (by kernel_rfl) (by kernel_rfl)
end Tab
end Go.Tidy
