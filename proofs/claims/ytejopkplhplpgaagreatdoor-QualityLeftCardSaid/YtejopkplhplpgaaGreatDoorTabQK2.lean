/- A part of the proof. -/
import Derived.Test.YtejopkplhplpgaaGreatDoorTabQT
import Derived.Test.YtejopkplhplpgaaGreatDoorPa1
import Derived.Test.YtejopkplhplpgaaGreatDoorProg
import Derived.KernelRfl
set_option linter.all false
namespace Go.Tidy
open Go Go.Proofs
set_option maxRecDepth 100000
namespace Tab
theorem k18:FnOk Tryz.prog gl 58 f18:=fnOk_of (by kernel_rfl) (by kernel_rfl) (by kernel_rfl)
theorem k21:FnOk Tryz.prog gl 178 f21:=fnOk_of (by kernel_rfl) (by kernel_rfl) (by kernel_rfl)
theorem k75:FnOk Tryz.prog gl 166 f75:=fnOk_of (by kernel_rfl) (by kernel_rfl) (by kernel_rfl)
theorem k78:FnOk Tryz.prog gl 127 f78:=fnOk_of (by kernel_rfl) (by kernel_rfl) (by kernel_rfl)
theorem k81:FnOk Tryz.prog gl 187 f81:=fnOk_of (by kernel_rfl) (by kernel_rfl) (by kernel_rfl)
theorem k103:FnOk Tryz.prog gl 157 f103:=fnOk_of (by kernel_rfl) (by kernel_rfl) (by kernel_rfl)
theorem k126:FnOk Tryz.prog gl 125 f126:=fnOk_of (by kernel_rfl) (by kernel_rfl) (by kernel_rfl)
theorem k130:FnOk Tryz.prog gl 195 f130:=fnOk_of (by kernel_rfl) (by kernel_rfl) (by kernel_rfl)
theorem k132:FnOk Tryz.prog gl 197 f132:=fnOk_of (by kernel_rfl) (by kernel_rfl) (by kernel_rfl)
theorem k133:FnOk Tryz.prog gl 198 f133:=fnOk_of (by kernel_rfl) (by kernel_rfl) (by kernel_rfl)
theorem k154:FnOk Tryz.prog gl 158 f154:=fnOk_of (by kernel_rfl) (by kernel_rfl) (by kernel_rfl)
theorem k199:FnOk Tryz.prog gl 176 f199:=fnOk_of (by kernel_rfl) (by kernel_rfl) (by kernel_rfl)
theorem k201:FnOk Tryz.prog gl 202 f201:=fnOk_of (by kernel_rfl) (by kernel_rfl) (by kernel_rfl)
theorem k1206:FnOk Tryz.prog gl 152 f1206:=fnOk_of (by kernel_rfl) (by kernel_rfl) (by kernel_rfl)
theorem k1233:FnOk Tryz.prog gl 188 f1233:=fnOk_of (by kernel_rfl) (by kernel_rfl) (by kernel_rfl)
theorem k1497:FnOk Tryz.prog gl 161 f1497:=fnOk_of (by kernel_rfl) (by kernel_rfl) (by kernel_rfl)
theorem k1582:FnOk Tryz.prog gl 4 f1582:=fnOk_of (by kernel_rfl) (by kernel_rfl) (by kernel_rfl)
theorem k1593:FnOk Tryz.prog gl 51 f1593:=fnOk_of (by kernel_rfl) (by kernel_rfl) (by kernel_rfl)
theorem k1598:FnOk Tryz.prog gl 55 f1598:=fnOk_of (by kernel_rfl) (by kernel_rfl) (by kernel_rfl)
theorem k1605:FnOk Tryz.prog gl 39 f1605:=fnOk_of (by kernel_rfl) (by kernel_rfl) (by kernel_rfl)
theorem k1606:FnOk Tryz.prog gl 12 f1606:=fnOk_of (by kernel_rfl) (by kernel_rfl) (by kernel_rfl)
theorem k1607:FnOk Tryz.prog gl 25 f1607:=fnOk_of (by kernel_rfl) (by kernel_rfl) (by kernel_rfl)
theorem k1619:FnOk Tryz.prog gl 13 f1619:=fnOk_of (by kernel_rfl) (by kernel_rfl) (by kernel_rfl)
theorem k1622:FnOk Tryz.prog gl 16 f1622:=fnOk_of (by kernel_rfl) (by kernel_rfl) (by kernel_rfl)
theorem k1626:FnOk Tryz.prog gl 21 f1626:=fnOk_of (by kernel_rfl) (by kernel_rfl) (by kernel_rfl)
theorem k1629:FnOk Tryz.prog gl 24 f1629:=fnOk_of (by kernel_rfl) (by kernel_rfl) (by kernel_rfl)
theorem k1637:FnOk Tryz.prog gl 44 f1637:=fnOk_of (by kernel_rfl) (by kernel_rfl) (by kernel_rfl)
theorem k1641:FnOk Tryz.prog gl 57 f1641:=fnOk_of (by kernel_rfl) (by kernel_rfl) (by kernel_rfl)
theorem k1646:FnOk Tryz.prog gl 46 f1646:=fnOk_of (by kernel_rfl) (by kernel_rfl) (by kernel_rfl)
theorem k1650:FnOk Tryz.prog gl 113 f1650:=fnOk_of (by kernel_rfl) (by kernel_rfl) (by kernel_rfl)
theorem k1655:FnOk Tryz.prog gl 101 f1655:=fnOk_of (by kernel_rfl) (by kernel_rfl) (by kernel_rfl)
theorem k1658:FnOk Tryz.prog gl 133 f1658:=fnOk_of (by kernel_rfl) (by kernel_rfl) (by kernel_rfl)
theorem k1659:FnOk Tryz.prog gl 229 f1659:=fnOk_of (by kernel_rfl) (by kernel_rfl) (by kernel_rfl)
theorem k1669:FnOk Tryz.prog gl 68 f1669:=fnOk_of (by kernel_rfl) (by kernel_rfl) (by kernel_rfl)
theorem k1681:FnOk Tryz.prog gl 88 f1681:=fnOk_of (by kernel_rfl) (by kernel_rfl) (by kernel_rfl)
theorem k1686:FnOk Tryz.prog gl 93 f1686:=fnOk_of (by kernel_rfl) (by kernel_rfl) (by kernel_rfl)
theorem k1687:FnOk Tryz.prog gl 94 f1687:=fnOk_of (by kernel_rfl) (by kernel_rfl) (by kernel_rfl)
theorem k1694:FnOk Tryz.prog gl 107 f1694:=fnOk_of (by kernel_rfl) (by kernel_rfl) (by kernel_rfl)
theorem k1696:FnOk Tryz.prog gl 156 f1696:=fnOk_of (by kernel_rfl) (by kernel_rfl) (by kernel_rfl)
theorem k1704:FnOk Tryz.prog gl 138 f1704:=fnOk_of (by kernel_rfl) (by kernel_rfl) (by kernel_rfl)
theorem k1705:FnOk Tryz.prog gl 140 f1705:=fnOk_of (by kernel_rfl) (by kernel_rfl) (by kernel_rfl)
theorem k1712:FnOk Tryz.prog gl 148 f1712:=fnOk_of (by kernel_rfl) (by kernel_rfl) (by kernel_rfl)
theorem k1716:FnOk Tryz.prog gl 171 f1716:=fnOk_of (by kernel_rfl) (by kernel_rfl) (by kernel_rfl)
end Tab
end Go.Tidy
