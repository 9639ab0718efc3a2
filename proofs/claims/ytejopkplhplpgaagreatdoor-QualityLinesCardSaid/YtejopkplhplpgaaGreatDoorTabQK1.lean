/- A part of the proof. -/
import Derived.Test.YtejopkplhplpgaaGreatDoorTabQT
import Derived.Test.YtejopkplhplpgaaGreatDoorPa1
import Derived.Test.YtejopkplhplpgaaGreatDoorProg
import Derived.KernelRfl
set_option linter.all false
namespace Go.Tidy
open Go Go.Proofs
set_option maxRecDepth 100000
namespace Tab
theorem k2:FnOk Tryz.prog gl 2 f2:=fnOk_of (by kernel_rfl) (by kernel_rfl) (by kernel_rfl)
theorem k16:FnOk Tryz.prog gl 131 f16:=fnOk_of (by kernel_rfl) (by kernel_rfl) (by kernel_rfl)
theorem k19:FnOk Tryz.prog gl 137 f19:=fnOk_of (by kernel_rfl) (by kernel_rfl) (by kernel_rfl)
theorem k71:FnOk Tryz.prog gl 65 f71:=fnOk_of (by kernel_rfl) (by kernel_rfl) (by kernel_rfl)
theorem k72:FnOk Tryz.prog gl 118 f72:=fnOk_of (by kernel_rfl) (by kernel_rfl) (by kernel_rfl)
theorem k76:FnOk Tryz.prog gl 167 f76:=fnOk_of (by kernel_rfl) (by kernel_rfl) (by kernel_rfl)
theorem k77:FnOk Tryz.prog gl 77 f77:=fnOk_of (by kernel_rfl) (by kernel_rfl) (by kernel_rfl)
theorem k81:FnOk Tryz.prog gl 187 f81:=fnOk_of (by kernel_rfl) (by kernel_rfl) (by kernel_rfl)
theorem k91:FnOk Tryz.prog gl 64 f91:=fnOk_of (by kernel_rfl) (by kernel_rfl) (by kernel_rfl)
theorem k111:FnOk Tryz.prog gl 153 f111:=fnOk_of (by kernel_rfl) (by kernel_rfl) (by kernel_rfl)
theorem k131:FnOk Tryz.prog gl 196 f131:=fnOk_of (by kernel_rfl) (by kernel_rfl) (by kernel_rfl)
theorem k173:FnOk Tryz.prog gl 182 f173:=fnOk_of (by kernel_rfl) (by kernel_rfl) (by kernel_rfl)
theorem k191:FnOk Tryz.prog gl 191 f191:=fnOk_of (by kernel_rfl) (by kernel_rfl) (by kernel_rfl)
theorem k1206:FnOk Tryz.prog gl 152 f1206:=fnOk_of (by kernel_rfl) (by kernel_rfl) (by kernel_rfl)
theorem k1235:FnOk Tryz.prog gl 200 f1235:=fnOk_of (by kernel_rfl) (by kernel_rfl) (by kernel_rfl)
theorem k1566:FnOk Tryz.prog gl 149 f1566:=fnOk_of (by kernel_rfl) (by kernel_rfl) (by kernel_rfl)
theorem k1592:FnOk Tryz.prog gl 9 f1592:=fnOk_of (by kernel_rfl) (by kernel_rfl) (by kernel_rfl)
theorem k1606:FnOk Tryz.prog gl 12 f1606:=fnOk_of (by kernel_rfl) (by kernel_rfl) (by kernel_rfl)
theorem k1623:FnOk Tryz.prog gl 18 f1623:=fnOk_of (by kernel_rfl) (by kernel_rfl) (by kernel_rfl)
theorem k1627:FnOk Tryz.prog gl 22 f1627:=fnOk_of (by kernel_rfl) (by kernel_rfl) (by kernel_rfl)
theorem k1633:FnOk Tryz.prog gl 30 f1633:=fnOk_of (by kernel_rfl) (by kernel_rfl) (by kernel_rfl)
theorem k1638:FnOk Tryz.prog gl 155 f1638:=fnOk_of (by kernel_rfl) (by kernel_rfl) (by kernel_rfl)
theorem k1639:FnOk Tryz.prog gl 115 f1639:=fnOk_of (by kernel_rfl) (by kernel_rfl) (by kernel_rfl)
theorem k1641:FnOk Tryz.prog gl 57 f1641:=fnOk_of (by kernel_rfl) (by kernel_rfl) (by kernel_rfl)
theorem k1642:FnOk Tryz.prog gl 60 f1642:=fnOk_of (by kernel_rfl) (by kernel_rfl) (by kernel_rfl)
theorem k1645:FnOk Tryz.prog gl 33 f1645:=fnOk_of (by kernel_rfl) (by kernel_rfl) (by kernel_rfl)
theorem k1649:FnOk Tryz.prog gl 112 f1649:=fnOk_of (by kernel_rfl) (by kernel_rfl) (by kernel_rfl)
theorem k1652:FnOk Tryz.prog gl 117 f1652:=fnOk_of (by kernel_rfl) (by kernel_rfl) (by kernel_rfl)
theorem k1657:FnOk Tryz.prog gl 132 f1657:=fnOk_of (by kernel_rfl) (by kernel_rfl) (by kernel_rfl)
theorem k1660:FnOk Tryz.prog gl 164 f1660:=fnOk_of (by kernel_rfl) (by kernel_rfl) (by kernel_rfl)
theorem k1662:FnOk Tryz.prog gl 231 f1662:=fnOk_of (by kernel_rfl) (by kernel_rfl) (by kernel_rfl)
theorem k1667:FnOk Tryz.prog gl 66 f1667:=fnOk_of (by kernel_rfl) (by kernel_rfl) (by kernel_rfl)
theorem k1668:FnOk Tryz.prog gl 67 f1668:=fnOk_of (by kernel_rfl) (by kernel_rfl) (by kernel_rfl)
theorem k1669:FnOk Tryz.prog gl 68 f1669:=fnOk_of (by kernel_rfl) (by kernel_rfl) (by kernel_rfl)
theorem k1670:FnOk Tryz.prog gl 69 f1670:=fnOk_of (by kernel_rfl) (by kernel_rfl) (by kernel_rfl)
theorem k1672:FnOk Tryz.prog gl 71 f1672:=fnOk_of (by kernel_rfl) (by kernel_rfl) (by kernel_rfl)
theorem k1687:FnOk Tryz.prog gl 94 f1687:=fnOk_of (by kernel_rfl) (by kernel_rfl) (by kernel_rfl)
theorem k1693:FnOk Tryz.prog gl 106 f1693:=fnOk_of (by kernel_rfl) (by kernel_rfl) (by kernel_rfl)
theorem k1694:FnOk Tryz.prog gl 107 f1694:=fnOk_of (by kernel_rfl) (by kernel_rfl) (by kernel_rfl)
theorem k1701:FnOk Tryz.prog gl 126 f1701:=fnOk_of (by kernel_rfl) (by kernel_rfl) (by kernel_rfl)
theorem k1702:FnOk Tryz.prog gl 128 f1702:=fnOk_of (by kernel_rfl) (by kernel_rfl) (by kernel_rfl)
theorem k1709:FnOk Tryz.prog gl 144 f1709:=fnOk_of (by kernel_rfl) (by kernel_rfl) (by kernel_rfl)
theorem k1718:FnOk Tryz.prog gl 174 f1718:=fnOk_of (by kernel_rfl) (by kernel_rfl) (by kernel_rfl)
end Tab
end Go.Tidy
