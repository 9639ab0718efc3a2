/- A part of the proof. -/
import Derived.Test.YtjibbhaeaikhpaaGreatDoorPa3
import Derived.KernelRfl
set_option linter.all false
namespace Go.Tidy
open Go Go.Proofs
namespace A11
noncomputable def outOf (r:Option (Exit × Regs × TH)):Option (List Value):=match r with | some (.ret,a,h) => resultsT Tryz.prog Tab.f11.results a h | _ => none
theorem outOf_some {r:Option (Exit × Regs × TH)} {l:List Value} (h:outOf r = some l):∃ a g,r = some (.ret,a,g) ∧ resultsT Tryz.prog Tab.f11.results a g = some l:=by
  unfold outOf at h
  split at h
  · exact ⟨_,_,rfl,h⟩
  · cases h
theorem p1 (e1 e2:TypeId):outOf (evF Tryz.prog tpQ 99986 (part Tab.c11 14 27) a14 (h14 e1 e2)) = some [.bool true]:=by kernel_rfl
end A11
end Go.Tidy
