/- A part of the proof. -/
import Derived.Test.YtejopkplhplpgaaGreatDoorTabQT
import Derived.Test.YtejopkplhplpgaaGreatDoorPa1
import Derived.Test.YtejopkplhplpgaaGreatDoorProg
import Derived.KernelRfl
set_option linter.all false
namespace Go.Tidy
open Go Go.Proofs
set_option maxRecDepth 100000
namespace Tab
theorem k2:FnOk Tryz.prog gl 2 f2:=fnOk_of (by kernel_rfl) (by kernel_rfl) (by kernel_rfl)
theorem k13:FnOk Tryz.prog gl 17 f13:=fnOk_of (by kernel_rfl) (by kernel_rfl) (by kernel_rfl)
theorem k14:FnOk Tryz.prog gl 72 f14:=fnOk_of (by kernel_rfl) (by kernel_rfl) (by kernel_rfl)
theorem k17:FnOk Tryz.prog gl 134 f17:=fnOk_of (by kernel_rfl) (by kernel_rfl) (by kernel_rfl)
theorem k59:FnOk Tryz.prog gl 59 f59:=fnOk_of (by kernel_rfl) (by kernel_rfl) (by kernel_rfl)
theorem k74:FnOk Tryz.prog gl 163 f74:=fnOk_of (by kernel_rfl) (by kernel_rfl) (by kernel_rfl)
theorem k77:FnOk Tryz.prog gl 77 f77:=fnOk_of (by kernel_rfl) (by kernel_rfl) (by kernel_rfl)
theorem k80:FnOk Tryz.prog gl 186 f80:=fnOk_of (by kernel_rfl) (by kernel_rfl) (by kernel_rfl)
theorem k91:FnOk Tryz.prog gl 64 f91:=fnOk_of (by kernel_rfl) (by kernel_rfl) (by kernel_rfl)
theorem k111:FnOk Tryz.prog gl 153 f111:=fnOk_of (by kernel_rfl) (by kernel_rfl) (by kernel_rfl)
theorem k122:FnOk Tryz.prog gl 122 f122:=fnOk_of (by kernel_rfl) (by kernel_rfl) (by kernel_rfl)
theorem k123:FnOk Tryz.prog gl 123 f123:=fnOk_of (by kernel_rfl) (by kernel_rfl) (by kernel_rfl)
theorem k131:FnOk Tryz.prog gl 196 f131:=fnOk_of (by kernel_rfl) (by kernel_rfl) (by kernel_rfl)
theorem k156:FnOk Tryz.prog gl 160 f156:=fnOk_of (by kernel_rfl) (by kernel_rfl) (by kernel_rfl)
theorem k165:FnOk Tryz.prog gl 119 f165:=fnOk_of (by kernel_rfl) (by kernel_rfl) (by kernel_rfl)
theorem k189:FnOk Tryz.prog gl 189 f189:=fnOk_of (by kernel_rfl) (by kernel_rfl) (by kernel_rfl)
theorem k191:FnOk Tryz.prog gl 191 f191:=fnOk_of (by kernel_rfl) (by kernel_rfl) (by kernel_rfl)
theorem k1223:FnOk Tryz.prog gl 154 f1223:=fnOk_of (by kernel_rfl) (by kernel_rfl) (by kernel_rfl)
theorem k1587:FnOk Tryz.prog gl 53 f1587:=fnOk_of (by kernel_rfl) (by kernel_rfl) (by kernel_rfl)
theorem k1591:FnOk Tryz.prog gl 114 f1591:=fnOk_of (by kernel_rfl) (by kernel_rfl) (by kernel_rfl)
theorem k1592:FnOk Tryz.prog gl 9 f1592:=fnOk_of (by kernel_rfl) (by kernel_rfl) (by kernel_rfl)
theorem k1599:FnOk Tryz.prog gl 56 f1599:=fnOk_of (by kernel_rfl) (by kernel_rfl) (by kernel_rfl)
theorem k1604:FnOk Tryz.prog gl 10 f1604:=fnOk_of (by kernel_rfl) (by kernel_rfl) (by kernel_rfl)
theorem k1608:FnOk Tryz.prog gl 87 f1608:=fnOk_of (by kernel_rfl) (by kernel_rfl) (by kernel_rfl)
theorem k1609:FnOk Tryz.prog gl 76 f1609:=fnOk_of (by kernel_rfl) (by kernel_rfl) (by kernel_rfl)
theorem k1630:FnOk Tryz.prog gl 27 f1630:=fnOk_of (by kernel_rfl) (by kernel_rfl) (by kernel_rfl)
theorem k1638:FnOk Tryz.prog gl 155 f1638:=fnOk_of (by kernel_rfl) (by kernel_rfl) (by kernel_rfl)
theorem k1639:FnOk Tryz.prog gl 115 f1639:=fnOk_of (by kernel_rfl) (by kernel_rfl) (by kernel_rfl)
theorem k1656:FnOk Tryz.prog gl 139 f1656:=fnOk_of (by kernel_rfl) (by kernel_rfl) (by kernel_rfl)
theorem k1663:FnOk Tryz.prog gl 165 f1663:=fnOk_of (by kernel_rfl) (by kernel_rfl) (by kernel_rfl)
theorem k1668:FnOk Tryz.prog gl 67 f1668:=fnOk_of (by kernel_rfl) (by kernel_rfl) (by kernel_rfl)
theorem k1678:FnOk Tryz.prog gl 83 f1678:=fnOk_of (by kernel_rfl) (by kernel_rfl) (by kernel_rfl)
theorem k1682:FnOk Tryz.prog gl 89 f1682:=fnOk_of (by kernel_rfl) (by kernel_rfl) (by kernel_rfl)
theorem k1692:FnOk Tryz.prog gl 105 f1692:=fnOk_of (by kernel_rfl) (by kernel_rfl) (by kernel_rfl)
theorem k1695:FnOk Tryz.prog gl 108 f1695:=fnOk_of (by kernel_rfl) (by kernel_rfl) (by kernel_rfl)
theorem k1701:FnOk Tryz.prog gl 126 f1701:=fnOk_of (by kernel_rfl) (by kernel_rfl) (by kernel_rfl)
theorem k1709:FnOk Tryz.prog gl 144 f1709:=fnOk_of (by kernel_rfl) (by kernel_rfl) (by kernel_rfl)
theorem k1711:FnOk Tryz.prog gl 147 f1711:=fnOk_of (by kernel_rfl) (by kernel_rfl) (by kernel_rfl)
theorem k1714:FnOk Tryz.prog gl 169 f1714:=fnOk_of (by kernel_rfl) (by kernel_rfl) (by kernel_rfl)
theorem k1717:FnOk Tryz.prog gl 172 f1717:=fnOk_of (by kernel_rfl) (by kernel_rfl) (by kernel_rfl)
theorem k1723:FnOk Tryz.prog gl 232 f1723:=fnOk_of (by kernel_rfl) (by kernel_rfl) (by kernel_rfl)
end Tab
end Go.Tidy
