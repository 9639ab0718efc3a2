/- A part of the proof. -/
import Derived.Test.YtadfeepajmngiaaGreatDoorTabQT
import Derived.Test.YtadfeepajmngiaaGreatDoorPa1
import Derived.Test.YtadfeepajmngiaaGreatDoorProg
import Derived.KernelRfl
set_option linter.all false
namespace Go.Tidy
open Go Go.Proofs
set_option maxRecDepth 100000
namespace Tab
theorem k82:FnOk Tryz.prog gl 215 f82:=fnOk_of (by kernel_rfl) (by kernel_rfl) (by kernel_rfl)
theorem k87:FnOk Tryz.prog gl 74 f87:=fnOk_of (by kernel_rfl) (by kernel_rfl) (by kernel_rfl)
theorem k94:FnOk Tryz.prog gl 77 f94:=fnOk_of (by kernel_rfl) (by kernel_rfl) (by kernel_rfl)
theorem k111:FnOk Tryz.prog gl 146 f111:=fnOk_of (by kernel_rfl) (by kernel_rfl) (by kernel_rfl)
theorem k124:FnOk Tryz.prog gl 141 f124:=fnOk_of (by kernel_rfl) (by kernel_rfl) (by kernel_rfl)
theorem k130:FnOk Tryz.prog gl 222 f130:=fnOk_of (by kernel_rfl) (by kernel_rfl) (by kernel_rfl)
theorem k131:FnOk Tryz.prog gl 223 f131:=fnOk_of (by kernel_rfl) (by kernel_rfl) (by kernel_rfl)
theorem k133:FnOk Tryz.prog gl 225 f133:=fnOk_of (by kernel_rfl) (by kernel_rfl) (by kernel_rfl)
theorem k141:FnOk Tryz.prog gl 149 f141:=fnOk_of (by kernel_rfl) (by kernel_rfl) (by kernel_rfl)
theorem k173:FnOk Tryz.prog gl 210 f173:=fnOk_of (by kernel_rfl) (by kernel_rfl) (by kernel_rfl)
theorem k187:FnOk Tryz.prog gl 231 f187:=fnOk_of (by kernel_rfl) (by kernel_rfl) (by kernel_rfl)
theorem k189:FnOk Tryz.prog gl 217 f189:=fnOk_of (by kernel_rfl) (by kernel_rfl) (by kernel_rfl)
theorem k192:FnOk Tryz.prog gl 220 f192:=fnOk_of (by kernel_rfl) (by kernel_rfl) (by kernel_rfl)
theorem k1206:FnOk Tryz.prog gl 145 f1206:=fnOk_of (by kernel_rfl) (by kernel_rfl) (by kernel_rfl)
theorem k1223:FnOk Tryz.prog gl 147 f1223:=fnOk_of (by kernel_rfl) (by kernel_rfl) (by kernel_rfl)
theorem k1362:FnOk Tryz.prog gl 205 f1362:=fnOk_of (by kernel_rfl) (by kernel_rfl) (by kernel_rfl)
theorem k1497:FnOk Tryz.prog gl 199 f1497:=fnOk_of (by kernel_rfl) (by kernel_rfl) (by kernel_rfl)
theorem k1597:FnOk Tryz.prog gl 24 f1597:=fnOk_of (by kernel_rfl) (by kernel_rfl) (by kernel_rfl)
theorem k1605:FnOk Tryz.prog gl 40 f1605:=fnOk_of (by kernel_rfl) (by kernel_rfl) (by kernel_rfl)
theorem k1609:FnOk Tryz.prog gl 44 f1609:=fnOk_of (by kernel_rfl) (by kernel_rfl) (by kernel_rfl)
theorem k1619:FnOk Tryz.prog gl 56 f1619:=fnOk_of (by kernel_rfl) (by kernel_rfl) (by kernel_rfl)
theorem k1637:FnOk Tryz.prog gl 59 f1637:=fnOk_of (by kernel_rfl) (by kernel_rfl) (by kernel_rfl)
theorem k1643:FnOk Tryz.prog gl 62 f1643:=fnOk_of (by kernel_rfl) (by kernel_rfl) (by kernel_rfl)
theorem k1644:FnOk Tryz.prog gl 63 f1644:=fnOk_of (by kernel_rfl) (by kernel_rfl) (by kernel_rfl)
theorem k1645:FnOk Tryz.prog gl 64 f1645:=fnOk_of (by kernel_rfl) (by kernel_rfl) (by kernel_rfl)
theorem k1646:FnOk Tryz.prog gl 66 f1646:=fnOk_of (by kernel_rfl) (by kernel_rfl) (by kernel_rfl)
theorem k1654:FnOk Tryz.prog gl 89 f1654:=fnOk_of (by kernel_rfl) (by kernel_rfl) (by kernel_rfl)
theorem k1659:FnOk Tryz.prog gl 104 f1659:=fnOk_of (by kernel_rfl) (by kernel_rfl) (by kernel_rfl)
theorem k1662:FnOk Tryz.prog gl 107 f1662:=fnOk_of (by kernel_rfl) (by kernel_rfl) (by kernel_rfl)
theorem k1665:FnOk Tryz.prog gl 113 f1665:=fnOk_of (by kernel_rfl) (by kernel_rfl) (by kernel_rfl)
theorem k1676:FnOk Tryz.prog gl 129 f1676:=fnOk_of (by kernel_rfl) (by kernel_rfl) (by kernel_rfl)
theorem k1678:FnOk Tryz.prog gl 131 f1678:=fnOk_of (by kernel_rfl) (by kernel_rfl) (by kernel_rfl)
theorem k1682:FnOk Tryz.prog gl 121 f1682:=fnOk_of (by kernel_rfl) (by kernel_rfl) (by kernel_rfl)
theorem k1683:FnOk Tryz.prog gl 122 f1683:=fnOk_of (by kernel_rfl) (by kernel_rfl) (by kernel_rfl)
theorem k1687:FnOk Tryz.prog gl 126 f1687:=fnOk_of (by kernel_rfl) (by kernel_rfl) (by kernel_rfl)
theorem k1689:FnOk Tryz.prog gl 128 f1689:=fnOk_of (by kernel_rfl) (by kernel_rfl) (by kernel_rfl)
theorem k1703:FnOk Tryz.prog gl 181 f1703:=fnOk_of (by kernel_rfl) (by kernel_rfl) (by kernel_rfl)
theorem k1707:FnOk Tryz.prog gl 177 f1707:=fnOk_of (by kernel_rfl) (by kernel_rfl) (by kernel_rfl)
theorem k1715:FnOk Tryz.prog gl 201 f1715:=fnOk_of (by kernel_rfl) (by kernel_rfl) (by kernel_rfl)
theorem k1723:FnOk Tryz.prog gl 258 f1723:=fnOk_of (by kernel_rfl) (by kernel_rfl) (by kernel_rfl)
end Tab
end Go.Tidy
