/- A part of the proof. -/
import Derived.Test.YtejopkplhplpgaaGreatDoorTabQT
import Derived.Test.YtejopkplhplpgaaGreatDoorPa1
import Derived.Test.YtejopkplhplpgaaGreatDoorProg
import Derived.KernelRfl
set_option linter.all false
namespace Go.Tidy
open Go Go.Proofs
set_option maxRecDepth 100000
namespace Tab
theorem k16:FnOk Tryz.prog gl 131 f16:=fnOk_of (by kernel_rfl) (by kernel_rfl) (by kernel_rfl)
theorem k20:FnOk Tryz.prog gl 86 f20:=fnOk_of (by kernel_rfl) (by kernel_rfl) (by kernel_rfl)
theorem k73:FnOk Tryz.prog gl 162 f73:=fnOk_of (by kernel_rfl) (by kernel_rfl) (by kernel_rfl)
theorem k92:FnOk Tryz.prog gl 78 f92:=fnOk_of (by kernel_rfl) (by kernel_rfl) (by kernel_rfl)
theorem k98:FnOk Tryz.prog gl 41 f98:=fnOk_of (by kernel_rfl) (by kernel_rfl) (by kernel_rfl)
theorem k100:FnOk Tryz.prog gl 151 f100:=fnOk_of (by kernel_rfl) (by kernel_rfl) (by kernel_rfl)
theorem k124:FnOk Tryz.prog gl 124 f124:=fnOk_of (by kernel_rfl) (by kernel_rfl) (by kernel_rfl)
theorem k144:FnOk Tryz.prog gl 177 f144:=fnOk_of (by kernel_rfl) (by kernel_rfl) (by kernel_rfl)
theorem k155:FnOk Tryz.prog gl 159 f155:=fnOk_of (by kernel_rfl) (by kernel_rfl) (by kernel_rfl)
theorem k173:FnOk Tryz.prog gl 182 f173:=fnOk_of (by kernel_rfl) (by kernel_rfl) (by kernel_rfl)
theorem k174:FnOk Tryz.prog gl 183 f174:=fnOk_of (by kernel_rfl) (by kernel_rfl) (by kernel_rfl)
theorem k187:FnOk Tryz.prog gl 203 f187:=fnOk_of (by kernel_rfl) (by kernel_rfl) (by kernel_rfl)
theorem k202:FnOk Tryz.prog gl 204 f202:=fnOk_of (by kernel_rfl) (by kernel_rfl) (by kernel_rfl)
theorem k1064:FnOk Tryz.prog gl 135 f1064:=fnOk_of (by kernel_rfl) (by kernel_rfl) (by kernel_rfl)
theorem k1071:FnOk Tryz.prog gl 168 f1071:=fnOk_of (by kernel_rfl) (by kernel_rfl) (by kernel_rfl)
theorem k1232:FnOk Tryz.prog gl 179 f1232:=fnOk_of (by kernel_rfl) (by kernel_rfl) (by kernel_rfl)
theorem k1597:FnOk Tryz.prog gl 54 f1597:=fnOk_of (by kernel_rfl) (by kernel_rfl) (by kernel_rfl)
theorem k1612:FnOk Tryz.prog gl 79 f1612:=fnOk_of (by kernel_rfl) (by kernel_rfl) (by kernel_rfl)
theorem k1613:FnOk Tryz.prog gl 80 f1613:=fnOk_of (by kernel_rfl) (by kernel_rfl) (by kernel_rfl)
theorem k1624:FnOk Tryz.prog gl 19 f1624:=fnOk_of (by kernel_rfl) (by kernel_rfl) (by kernel_rfl)
theorem k1645:FnOk Tryz.prog gl 33 f1645:=fnOk_of (by kernel_rfl) (by kernel_rfl) (by kernel_rfl)
theorem k1647:FnOk Tryz.prog gl 61 f1647:=fnOk_of (by kernel_rfl) (by kernel_rfl) (by kernel_rfl)
theorem k1648:FnOk Tryz.prog gl 111 f1648:=fnOk_of (by kernel_rfl) (by kernel_rfl) (by kernel_rfl)
theorem k1651:FnOk Tryz.prog gl 116 f1651:=fnOk_of (by kernel_rfl) (by kernel_rfl) (by kernel_rfl)
theorem k1652:FnOk Tryz.prog gl 117 f1652:=fnOk_of (by kernel_rfl) (by kernel_rfl) (by kernel_rfl)
theorem k1653:FnOk Tryz.prog gl 120 f1653:=fnOk_of (by kernel_rfl) (by kernel_rfl) (by kernel_rfl)
theorem k1657:FnOk Tryz.prog gl 132 f1657:=fnOk_of (by kernel_rfl) (by kernel_rfl) (by kernel_rfl)
theorem k1662:FnOk Tryz.prog gl 231 f1662:=fnOk_of (by kernel_rfl) (by kernel_rfl) (by kernel_rfl)
theorem k1664:FnOk Tryz.prog gl 129 f1664:=fnOk_of (by kernel_rfl) (by kernel_rfl) (by kernel_rfl)
theorem k1666:FnOk Tryz.prog gl 63 f1666:=fnOk_of (by kernel_rfl) (by kernel_rfl) (by kernel_rfl)
theorem k1673:FnOk Tryz.prog gl 73 f1673:=fnOk_of (by kernel_rfl) (by kernel_rfl) (by kernel_rfl)
theorem k1676:FnOk Tryz.prog gl 81 f1676:=fnOk_of (by kernel_rfl) (by kernel_rfl) (by kernel_rfl)
theorem k1679:FnOk Tryz.prog gl 84 f1679:=fnOk_of (by kernel_rfl) (by kernel_rfl) (by kernel_rfl)
theorem k1683:FnOk Tryz.prog gl 90 f1683:=fnOk_of (by kernel_rfl) (by kernel_rfl) (by kernel_rfl)
theorem k1684:FnOk Tryz.prog gl 91 f1684:=fnOk_of (by kernel_rfl) (by kernel_rfl) (by kernel_rfl)
theorem k1688:FnOk Tryz.prog gl 95 f1688:=fnOk_of (by kernel_rfl) (by kernel_rfl) (by kernel_rfl)
theorem k1689:FnOk Tryz.prog gl 96 f1689:=fnOk_of (by kernel_rfl) (by kernel_rfl) (by kernel_rfl)
theorem k1690:FnOk Tryz.prog gl 103 f1690:=fnOk_of (by kernel_rfl) (by kernel_rfl) (by kernel_rfl)
theorem k1693:FnOk Tryz.prog gl 106 f1693:=fnOk_of (by kernel_rfl) (by kernel_rfl) (by kernel_rfl)
theorem k1702:FnOk Tryz.prog gl 128 f1702:=fnOk_of (by kernel_rfl) (by kernel_rfl) (by kernel_rfl)
theorem k1710:FnOk Tryz.prog gl 146 f1710:=fnOk_of (by kernel_rfl) (by kernel_rfl) (by kernel_rfl)
theorem k1713:FnOk Tryz.prog gl 180 f1713:=fnOk_of (by kernel_rfl) (by kernel_rfl) (by kernel_rfl)
theorem k1715:FnOk Tryz.prog gl 170 f1715:=fnOk_of (by kernel_rfl) (by kernel_rfl) (by kernel_rfl)
end Tab
end Go.Tidy
