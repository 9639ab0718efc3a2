/- A part of the proof. -/
import Derived.Test.YtejopkplhplpgaaGreatDoorTabQT
import Derived.Test.YtejopkplhplpgaaGreatDoorPa1
import Derived.Test.YtejopkplhplpgaaGreatDoorProg
import Derived.KernelRfl
set_option linter.all false
namespace Go.Tidy
open Go Go.Proofs
set_option maxRecDepth 100000
namespace Tab
theorem k19:FnOk Tryz.prog gl 137 f19:=fnOk_of (by kernel_rfl) (by kernel_rfl) (by kernel_rfl)
theorem k32:FnOk Tryz.prog gl 26 f32:=fnOk_of (by kernel_rfl) (by kernel_rfl) (by kernel_rfl)
theorem k41:FnOk Tryz.prog gl 110 f41:=fnOk_of (by kernel_rfl) (by kernel_rfl) (by kernel_rfl)
theorem k71:FnOk Tryz.prog gl 65 f71:=fnOk_of (by kernel_rfl) (by kernel_rfl) (by kernel_rfl)
theorem k72:FnOk Tryz.prog gl 118 f72:=fnOk_of (by kernel_rfl) (by kernel_rfl) (by kernel_rfl)
theorem k76:FnOk Tryz.prog gl 167 f76:=fnOk_of (by kernel_rfl) (by kernel_rfl) (by kernel_rfl)
theorem k79:FnOk Tryz.prog gl 102 f79:=fnOk_of (by kernel_rfl) (by kernel_rfl) (by kernel_rfl)
theorem k99:FnOk Tryz.prog gl 150 f99:=fnOk_of (by kernel_rfl) (by kernel_rfl) (by kernel_rfl)
theorem k190:FnOk Tryz.prog gl 190 f190:=fnOk_of (by kernel_rfl) (by kernel_rfl) (by kernel_rfl)
theorem k192:FnOk Tryz.prog gl 192 f192:=fnOk_of (by kernel_rfl) (by kernel_rfl) (by kernel_rfl)
theorem k1235:FnOk Tryz.prog gl 200 f1235:=fnOk_of (by kernel_rfl) (by kernel_rfl) (by kernel_rfl)
theorem k1362:FnOk Tryz.prog gl 173 f1362:=fnOk_of (by kernel_rfl) (by kernel_rfl) (by kernel_rfl)
theorem k1566:FnOk Tryz.prog gl 149 f1566:=fnOk_of (by kernel_rfl) (by kernel_rfl) (by kernel_rfl)
theorem k1618:FnOk Tryz.prog gl 11 f1618:=fnOk_of (by kernel_rfl) (by kernel_rfl) (by kernel_rfl)
theorem k1620:FnOk Tryz.prog gl 14 f1620:=fnOk_of (by kernel_rfl) (by kernel_rfl) (by kernel_rfl)
theorem k1623:FnOk Tryz.prog gl 18 f1623:=fnOk_of (by kernel_rfl) (by kernel_rfl) (by kernel_rfl)
theorem k1633:FnOk Tryz.prog gl 30 f1633:=fnOk_of (by kernel_rfl) (by kernel_rfl) (by kernel_rfl)
theorem k1640:FnOk Tryz.prog gl 52 f1640:=fnOk_of (by kernel_rfl) (by kernel_rfl) (by kernel_rfl)
theorem k1642:FnOk Tryz.prog gl 60 f1642:=fnOk_of (by kernel_rfl) (by kernel_rfl) (by kernel_rfl)
theorem k1643:FnOk Tryz.prog gl 31 f1643:=fnOk_of (by kernel_rfl) (by kernel_rfl) (by kernel_rfl)
theorem k1644:FnOk Tryz.prog gl 32 f1644:=fnOk_of (by kernel_rfl) (by kernel_rfl) (by kernel_rfl)
theorem k1649:FnOk Tryz.prog gl 112 f1649:=fnOk_of (by kernel_rfl) (by kernel_rfl) (by kernel_rfl)
theorem k1654:FnOk Tryz.prog gl 121 f1654:=fnOk_of (by kernel_rfl) (by kernel_rfl) (by kernel_rfl)
theorem k1660:FnOk Tryz.prog gl 164 f1660:=fnOk_of (by kernel_rfl) (by kernel_rfl) (by kernel_rfl)
theorem k1665:FnOk Tryz.prog gl 62 f1665:=fnOk_of (by kernel_rfl) (by kernel_rfl) (by kernel_rfl)
theorem k1667:FnOk Tryz.prog gl 66 f1667:=fnOk_of (by kernel_rfl) (by kernel_rfl) (by kernel_rfl)
theorem k1670:FnOk Tryz.prog gl 69 f1670:=fnOk_of (by kernel_rfl) (by kernel_rfl) (by kernel_rfl)
theorem k1671:FnOk Tryz.prog gl 70 f1671:=fnOk_of (by kernel_rfl) (by kernel_rfl) (by kernel_rfl)
theorem k1677:FnOk Tryz.prog gl 82 f1677:=fnOk_of (by kernel_rfl) (by kernel_rfl) (by kernel_rfl)
theorem k1685:FnOk Tryz.prog gl 92 f1685:=fnOk_of (by kernel_rfl) (by kernel_rfl) (by kernel_rfl)
theorem k1691:FnOk Tryz.prog gl 104 f1691:=fnOk_of (by kernel_rfl) (by kernel_rfl) (by kernel_rfl)
theorem k1697:FnOk Tryz.prog gl 145 f1697:=fnOk_of (by kernel_rfl) (by kernel_rfl) (by kernel_rfl)
theorem k1700:FnOk Tryz.prog gl 184 f1700:=fnOk_of (by kernel_rfl) (by kernel_rfl) (by kernel_rfl)
theorem k1703:FnOk Tryz.prog gl 136 f1703:=fnOk_of (by kernel_rfl) (by kernel_rfl) (by kernel_rfl)
theorem k1706:FnOk Tryz.prog gl 141 f1706:=fnOk_of (by kernel_rfl) (by kernel_rfl) (by kernel_rfl)
theorem k1707:FnOk Tryz.prog gl 142 f1707:=fnOk_of (by kernel_rfl) (by kernel_rfl) (by kernel_rfl)
theorem k1708:FnOk Tryz.prog gl 143 f1708:=fnOk_of (by kernel_rfl) (by kernel_rfl) (by kernel_rfl)
theorem k1718:FnOk Tryz.prog gl 174 f1718:=fnOk_of (by kernel_rfl) (by kernel_rfl) (by kernel_rfl)
theorem k1722:FnOk Tryz.prog gl 230 f1722:=fnOk_of (by kernel_rfl) (by kernel_rfl) (by kernel_rfl)
end Tab
end Go.Tidy
