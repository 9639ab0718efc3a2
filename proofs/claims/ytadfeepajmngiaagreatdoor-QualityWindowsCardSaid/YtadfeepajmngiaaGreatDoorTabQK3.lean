/- A part of the proof. -/
import Derived.Test.YtadfeepajmngiaaGreatDoorTabQT
import Derived.Test.YtadfeepajmngiaaGreatDoorPa1
import Derived.Test.YtadfeepajmngiaaGreatDoorProg
import Derived.KernelRfl
set_option linter.all false
namespace Go.Tidy
open Go Go.Proofs
set_option maxRecDepth 100000
namespace Tab
theorem k14:FnOk Tryz.prog gl 27 f14:=fnOk_of (by kernel_rfl) (by kernel_rfl) (by kernel_rfl)
theorem k17:FnOk Tryz.prog gl 148 f17:=fnOk_of (by kernel_rfl) (by kernel_rfl) (by kernel_rfl)
theorem k23:FnOk Tryz.prog gl 10 f23:=fnOk_of (by kernel_rfl) (by kernel_rfl) (by kernel_rfl)
theorem k31:FnOk Tryz.prog gl 13 f31:=fnOk_of (by kernel_rfl) (by kernel_rfl) (by kernel_rfl)
theorem k32:FnOk Tryz.prog gl 20 f32:=fnOk_of (by kernel_rfl) (by kernel_rfl) (by kernel_rfl)
theorem k76:FnOk Tryz.prog gl 194 f76:=fnOk_of (by kernel_rfl) (by kernel_rfl) (by kernel_rfl)
theorem k78:FnOk Tryz.prog gl 151 f78:=fnOk_of (by kernel_rfl) (by kernel_rfl) (by kernel_rfl)
theorem k81:FnOk Tryz.prog gl 213 f81:=fnOk_of (by kernel_rfl) (by kernel_rfl) (by kernel_rfl)
theorem k100:FnOk Tryz.prog gl 144 f100:=fnOk_of (by kernel_rfl) (by kernel_rfl) (by kernel_rfl)
theorem k123:FnOk Tryz.prog gl 140 f123:=fnOk_of (by kernel_rfl) (by kernel_rfl) (by kernel_rfl)
theorem k142:FnOk Tryz.prog gl 150 f142:=fnOk_of (by kernel_rfl) (by kernel_rfl) (by kernel_rfl)
theorem k144:FnOk Tryz.prog gl 190 f144:=fnOk_of (by kernel_rfl) (by kernel_rfl) (by kernel_rfl)
theorem k155:FnOk Tryz.prog gl 188 f155:=fnOk_of (by kernel_rfl) (by kernel_rfl) (by kernel_rfl)
theorem k166:FnOk Tryz.prog gl 196 f166:=fnOk_of (by kernel_rfl) (by kernel_rfl) (by kernel_rfl)
theorem k191:FnOk Tryz.prog gl 219 f191:=fnOk_of (by kernel_rfl) (by kernel_rfl) (by kernel_rfl)
theorem k199:FnOk Tryz.prog gl 208 f199:=fnOk_of (by kernel_rfl) (by kernel_rfl) (by kernel_rfl)
theorem k201:FnOk Tryz.prog gl 230 f201:=fnOk_of (by kernel_rfl) (by kernel_rfl) (by kernel_rfl)
theorem k1071:FnOk Tryz.prog gl 202 f1071:=fnOk_of (by kernel_rfl) (by kernel_rfl) (by kernel_rfl)
theorem k1566:FnOk Tryz.prog gl 186 f1566:=fnOk_of (by kernel_rfl) (by kernel_rfl) (by kernel_rfl)
theorem k1591:FnOk Tryz.prog gl 23 f1591:=fnOk_of (by kernel_rfl) (by kernel_rfl) (by kernel_rfl)
theorem k1596:FnOk Tryz.prog gl 15 f1596:=fnOk_of (by kernel_rfl) (by kernel_rfl) (by kernel_rfl)
theorem k1599:FnOk Tryz.prog gl 26 f1599:=fnOk_of (by kernel_rfl) (by kernel_rfl) (by kernel_rfl)
theorem k1600:FnOk Tryz.prog gl 28 f1600:=fnOk_of (by kernel_rfl) (by kernel_rfl) (by kernel_rfl)
theorem k1603:FnOk Tryz.prog gl 31 f1603:=fnOk_of (by kernel_rfl) (by kernel_rfl) (by kernel_rfl)
theorem k1620:FnOk Tryz.prog gl 58 f1620:=fnOk_of (by kernel_rfl) (by kernel_rfl) (by kernel_rfl)
theorem k1629:FnOk Tryz.prog gl 57 f1629:=fnOk_of (by kernel_rfl) (by kernel_rfl) (by kernel_rfl)
theorem k1648:FnOk Tryz.prog gl 71 f1648:=fnOk_of (by kernel_rfl) (by kernel_rfl) (by kernel_rfl)
theorem k1652:FnOk Tryz.prog gl 86 f1652:=fnOk_of (by kernel_rfl) (by kernel_rfl) (by kernel_rfl)
theorem k1655:FnOk Tryz.prog gl 99 f1655:=fnOk_of (by kernel_rfl) (by kernel_rfl) (by kernel_rfl)
theorem k1658:FnOk Tryz.prog gl 103 f1658:=fnOk_of (by kernel_rfl) (by kernel_rfl) (by kernel_rfl)
theorem k1663:FnOk Tryz.prog gl 108 f1663:=fnOk_of (by kernel_rfl) (by kernel_rfl) (by kernel_rfl)
theorem k1667:FnOk Tryz.prog gl 115 f1667:=fnOk_of (by kernel_rfl) (by kernel_rfl) (by kernel_rfl)
theorem k1669:FnOk Tryz.prog gl 117 f1669:=fnOk_of (by kernel_rfl) (by kernel_rfl) (by kernel_rfl)
theorem k1670:FnOk Tryz.prog gl 118 f1670:=fnOk_of (by kernel_rfl) (by kernel_rfl) (by kernel_rfl)
theorem k1671:FnOk Tryz.prog gl 119 f1671:=fnOk_of (by kernel_rfl) (by kernel_rfl) (by kernel_rfl)
theorem k1679:FnOk Tryz.prog gl 132 f1679:=fnOk_of (by kernel_rfl) (by kernel_rfl) (by kernel_rfl)
theorem k1690:FnOk Tryz.prog gl 133 f1690:=fnOk_of (by kernel_rfl) (by kernel_rfl) (by kernel_rfl)
theorem k1697:FnOk Tryz.prog gl 166 f1697:=fnOk_of (by kernel_rfl) (by kernel_rfl) (by kernel_rfl)
theorem k1700:FnOk Tryz.prog gl 171 f1700:=fnOk_of (by kernel_rfl) (by kernel_rfl) (by kernel_rfl)
theorem k1702:FnOk Tryz.prog gl 173 f1702:=fnOk_of (by kernel_rfl) (by kernel_rfl) (by kernel_rfl)
theorem k1704:FnOk Tryz.prog gl 176 f1704:=fnOk_of (by kernel_rfl) (by kernel_rfl) (by kernel_rfl)
theorem k1706:FnOk Tryz.prog gl 175 f1706:=fnOk_of (by kernel_rfl) (by kernel_rfl) (by kernel_rfl)
theorem k1711:FnOk Tryz.prog gl 184 f1711:=fnOk_of (by kernel_rfl) (by kernel_rfl) (by kernel_rfl)
theorem k1713:FnOk Tryz.prog gl 197 f1713:=fnOk_of (by kernel_rfl) (by kernel_rfl) (by kernel_rfl)
end Tab
end Go.Tidy
