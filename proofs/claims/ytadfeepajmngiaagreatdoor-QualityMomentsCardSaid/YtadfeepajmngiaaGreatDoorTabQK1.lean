/- A part of the proof. -/
import Derived.Test.YtadfeepajmngiaaGreatDoorTabQT
import Derived.Test.YtadfeepajmngiaaGreatDoorPa1
import Derived.Test.YtadfeepajmngiaaGreatDoorProg
import Derived.KernelRfl
set_option linter.all false
namespace Go.Tidy
open Go Go.Proofs
set_option maxRecDepth 100000
namespace Tab
theorem k2:FnOk Tryz.prog gl 2 f2:=fnOk_of (by kernel_rfl) (by kernel_rfl) (by kernel_rfl)
theorem k13:FnOk Tryz.prog gl 19 f13:=fnOk_of (by kernel_rfl) (by kernel_rfl) (by kernel_rfl)
theorem k21:FnOk Tryz.prog gl 191 f21:=fnOk_of (by kernel_rfl) (by kernel_rfl) (by kernel_rfl)
theorem k71:FnOk Tryz.prog gl 69 f71:=fnOk_of (by kernel_rfl) (by kernel_rfl) (by kernel_rfl)
theorem k72:FnOk Tryz.prog gl 84 f72:=fnOk_of (by kernel_rfl) (by kernel_rfl) (by kernel_rfl)
theorem k77:FnOk Tryz.prog gl 79 f77:=fnOk_of (by kernel_rfl) (by kernel_rfl) (by kernel_rfl)
theorem k111:FnOk Tryz.prog gl 146 f111:=fnOk_of (by kernel_rfl) (by kernel_rfl) (by kernel_rfl)
theorem k122:FnOk Tryz.prog gl 139 f122:=fnOk_of (by kernel_rfl) (by kernel_rfl) (by kernel_rfl)
theorem k124:FnOk Tryz.prog gl 141 f124:=fnOk_of (by kernel_rfl) (by kernel_rfl) (by kernel_rfl)
theorem k130:FnOk Tryz.prog gl 222 f130:=fnOk_of (by kernel_rfl) (by kernel_rfl) (by kernel_rfl)
theorem k144:FnOk Tryz.prog gl 190 f144:=fnOk_of (by kernel_rfl) (by kernel_rfl) (by kernel_rfl)
theorem k165:FnOk Tryz.prog gl 87 f165:=fnOk_of (by kernel_rfl) (by kernel_rfl) (by kernel_rfl)
theorem k173:FnOk Tryz.prog gl 210 f173:=fnOk_of (by kernel_rfl) (by kernel_rfl) (by kernel_rfl)
theorem k1235:FnOk Tryz.prog gl 227 f1235:=fnOk_of (by kernel_rfl) (by kernel_rfl) (by kernel_rfl)
theorem k1566:FnOk Tryz.prog gl 186 f1566:=fnOk_of (by kernel_rfl) (by kernel_rfl) (by kernel_rfl)
theorem k1586:FnOk Tryz.prog gl 16 f1586:=fnOk_of (by kernel_rfl) (by kernel_rfl) (by kernel_rfl)
theorem k1592:FnOk Tryz.prog gl 9 f1592:=fnOk_of (by kernel_rfl) (by kernel_rfl) (by kernel_rfl)
theorem k1641:FnOk Tryz.prog gl 54 f1641:=fnOk_of (by kernel_rfl) (by kernel_rfl) (by kernel_rfl)
theorem k1643:FnOk Tryz.prog gl 62 f1643:=fnOk_of (by kernel_rfl) (by kernel_rfl) (by kernel_rfl)
theorem k1645:FnOk Tryz.prog gl 64 f1645:=fnOk_of (by kernel_rfl) (by kernel_rfl) (by kernel_rfl)
theorem k1648:FnOk Tryz.prog gl 71 f1648:=fnOk_of (by kernel_rfl) (by kernel_rfl) (by kernel_rfl)
theorem k1649:FnOk Tryz.prog gl 72 f1649:=fnOk_of (by kernel_rfl) (by kernel_rfl) (by kernel_rfl)
theorem k1655:FnOk Tryz.prog gl 99 f1655:=fnOk_of (by kernel_rfl) (by kernel_rfl) (by kernel_rfl)
theorem k1657:FnOk Tryz.prog gl 102 f1657:=fnOk_of (by kernel_rfl) (by kernel_rfl) (by kernel_rfl)
theorem k1663:FnOk Tryz.prog gl 108 f1663:=fnOk_of (by kernel_rfl) (by kernel_rfl) (by kernel_rfl)
theorem k1665:FnOk Tryz.prog gl 113 f1665:=fnOk_of (by kernel_rfl) (by kernel_rfl) (by kernel_rfl)
theorem k1670:FnOk Tryz.prog gl 118 f1670:=fnOk_of (by kernel_rfl) (by kernel_rfl) (by kernel_rfl)
theorem k1671:FnOk Tryz.prog gl 119 f1671:=fnOk_of (by kernel_rfl) (by kernel_rfl) (by kernel_rfl)
theorem k1679:FnOk Tryz.prog gl 132 f1679:=fnOk_of (by kernel_rfl) (by kernel_rfl) (by kernel_rfl)
theorem k1695:FnOk Tryz.prog gl 138 f1695:=fnOk_of (by kernel_rfl) (by kernel_rfl) (by kernel_rfl)
theorem k1696:FnOk Tryz.prog gl 153 f1696:=fnOk_of (by kernel_rfl) (by kernel_rfl) (by kernel_rfl)
theorem k1697:FnOk Tryz.prog gl 166 f1697:=fnOk_of (by kernel_rfl) (by kernel_rfl) (by kernel_rfl)
theorem k1700:FnOk Tryz.prog gl 171 f1700:=fnOk_of (by kernel_rfl) (by kernel_rfl) (by kernel_rfl)
theorem k1703:FnOk Tryz.prog gl 181 f1703:=fnOk_of (by kernel_rfl) (by kernel_rfl) (by kernel_rfl)
theorem k1708:FnOk Tryz.prog gl 178 f1708:=fnOk_of (by kernel_rfl) (by kernel_rfl) (by kernel_rfl)
theorem k1710:FnOk Tryz.prog gl 183 f1710:=fnOk_of (by kernel_rfl) (by kernel_rfl) (by kernel_rfl)
theorem k1718:FnOk Tryz.prog gl 206 f1718:=fnOk_of (by kernel_rfl) (by kernel_rfl) (by kernel_rfl)
end Tab
end Go.Tidy
