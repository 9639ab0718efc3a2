/- A part of the proof. -/
import Derived.Test.YtadfeepajmngiaaGreatDoorTabQT
import Derived.Test.YtadfeepajmngiaaGreatDoorPa1
import Derived.Test.YtadfeepajmngiaaGreatDoorProg
import Derived.KernelRfl
set_option linter.all false
namespace Go.Tidy
open Go Go.Proofs
set_option maxRecDepth 100000
namespace Tab
theorem k13:FnOk Tryz.prog gl 19 f13:=fnOk_of (by kernel_rfl) (by kernel_rfl) (by kernel_rfl)
theorem k17:FnOk Tryz.prog gl 148 f17:=fnOk_of (by kernel_rfl) (by kernel_rfl) (by kernel_rfl)
theorem k18:FnOk Tryz.prog gl 60 f18:=fnOk_of (by kernel_rfl) (by kernel_rfl) (by kernel_rfl)
theorem k32:FnOk Tryz.prog gl 20 f32:=fnOk_of (by kernel_rfl) (by kernel_rfl) (by kernel_rfl)
theorem k76:FnOk Tryz.prog gl 194 f76:=fnOk_of (by kernel_rfl) (by kernel_rfl) (by kernel_rfl)
theorem k80:FnOk Tryz.prog gl 212 f80:=fnOk_of (by kernel_rfl) (by kernel_rfl) (by kernel_rfl)
theorem k122:FnOk Tryz.prog gl 139 f122:=fnOk_of (by kernel_rfl) (by kernel_rfl) (by kernel_rfl)
theorem k124:FnOk Tryz.prog gl 141 f124:=fnOk_of (by kernel_rfl) (by kernel_rfl) (by kernel_rfl)
theorem k131:FnOk Tryz.prog gl 223 f131:=fnOk_of (by kernel_rfl) (by kernel_rfl) (by kernel_rfl)
theorem k132:FnOk Tryz.prog gl 224 f132:=fnOk_of (by kernel_rfl) (by kernel_rfl) (by kernel_rfl)
theorem k155:FnOk Tryz.prog gl 188 f155:=fnOk_of (by kernel_rfl) (by kernel_rfl) (by kernel_rfl)
theorem k165:FnOk Tryz.prog gl 87 f165:=fnOk_of (by kernel_rfl) (by kernel_rfl) (by kernel_rfl)
theorem k174:FnOk Tryz.prog gl 211 f174:=fnOk_of (by kernel_rfl) (by kernel_rfl) (by kernel_rfl)
theorem k1064:FnOk Tryz.prog gl 180 f1064:=fnOk_of (by kernel_rfl) (by kernel_rfl) (by kernel_rfl)
theorem k1206:FnOk Tryz.prog gl 145 f1206:=fnOk_of (by kernel_rfl) (by kernel_rfl) (by kernel_rfl)
theorem k1235:FnOk Tryz.prog gl 227 f1235:=fnOk_of (by kernel_rfl) (by kernel_rfl) (by kernel_rfl)
theorem k1566:FnOk Tryz.prog gl 186 f1566:=fnOk_of (by kernel_rfl) (by kernel_rfl) (by kernel_rfl)
theorem k1580:FnOk Tryz.prog gl 8 f1580:=fnOk_of (by kernel_rfl) (by kernel_rfl) (by kernel_rfl)
theorem k1587:FnOk Tryz.prog gl 17 f1587:=fnOk_of (by kernel_rfl) (by kernel_rfl) (by kernel_rfl)
theorem k1597:FnOk Tryz.prog gl 24 f1597:=fnOk_of (by kernel_rfl) (by kernel_rfl) (by kernel_rfl)
theorem k1604:FnOk Tryz.prog gl 39 f1604:=fnOk_of (by kernel_rfl) (by kernel_rfl) (by kernel_rfl)
theorem k1605:FnOk Tryz.prog gl 40 f1605:=fnOk_of (by kernel_rfl) (by kernel_rfl) (by kernel_rfl)
theorem k1616:FnOk Tryz.prog gl 51 f1616:=fnOk_of (by kernel_rfl) (by kernel_rfl) (by kernel_rfl)
theorem k1624:FnOk Tryz.prog gl 111 f1624:=fnOk_of (by kernel_rfl) (by kernel_rfl) (by kernel_rfl)
theorem k1636:FnOk Tryz.prog gl 112 f1636:=fnOk_of (by kernel_rfl) (by kernel_rfl) (by kernel_rfl)
theorem k1640:FnOk Tryz.prog gl 53 f1640:=fnOk_of (by kernel_rfl) (by kernel_rfl) (by kernel_rfl)
theorem k1646:FnOk Tryz.prog gl 66 f1646:=fnOk_of (by kernel_rfl) (by kernel_rfl) (by kernel_rfl)
theorem k1647:FnOk Tryz.prog gl 67 f1647:=fnOk_of (by kernel_rfl) (by kernel_rfl) (by kernel_rfl)
theorem k1654:FnOk Tryz.prog gl 89 f1654:=fnOk_of (by kernel_rfl) (by kernel_rfl) (by kernel_rfl)
theorem k1655:FnOk Tryz.prog gl 99 f1655:=fnOk_of (by kernel_rfl) (by kernel_rfl) (by kernel_rfl)
theorem k1657:FnOk Tryz.prog gl 102 f1657:=fnOk_of (by kernel_rfl) (by kernel_rfl) (by kernel_rfl)
theorem k1662:FnOk Tryz.prog gl 107 f1662:=fnOk_of (by kernel_rfl) (by kernel_rfl) (by kernel_rfl)
theorem k1669:FnOk Tryz.prog gl 117 f1669:=fnOk_of (by kernel_rfl) (by kernel_rfl) (by kernel_rfl)
theorem k1671:FnOk Tryz.prog gl 119 f1671:=fnOk_of (by kernel_rfl) (by kernel_rfl) (by kernel_rfl)
theorem k1681:FnOk Tryz.prog gl 120 f1681:=fnOk_of (by kernel_rfl) (by kernel_rfl) (by kernel_rfl)
theorem k1686:FnOk Tryz.prog gl 125 f1686:=fnOk_of (by kernel_rfl) (by kernel_rfl) (by kernel_rfl)
theorem k1704:FnOk Tryz.prog gl 176 f1704:=fnOk_of (by kernel_rfl) (by kernel_rfl) (by kernel_rfl)
theorem k1707:FnOk Tryz.prog gl 177 f1707:=fnOk_of (by kernel_rfl) (by kernel_rfl) (by kernel_rfl)
theorem k1709:FnOk Tryz.prog gl 179 f1709:=fnOk_of (by kernel_rfl) (by kernel_rfl) (by kernel_rfl)
theorem k1711:FnOk Tryz.prog gl 184 f1711:=fnOk_of (by kernel_rfl) (by kernel_rfl) (by kernel_rfl)
theorem k1714:FnOk Tryz.prog gl 200 f1714:=fnOk_of (by kernel_rfl) (by kernel_rfl) (by kernel_rfl)
theorem k1715:FnOk Tryz.prog gl 201 f1715:=fnOk_of (by kernel_rfl) (by kernel_rfl) (by kernel_rfl)
theorem k1723:FnOk Tryz.prog gl 258 f1723:=fnOk_of (by kernel_rfl) (by kernel_rfl) (by kernel_rfl)
end Tab
end Go.Tidy
