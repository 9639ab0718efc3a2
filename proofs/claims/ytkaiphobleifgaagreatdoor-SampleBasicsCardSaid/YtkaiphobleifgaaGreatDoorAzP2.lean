/- A piece of a closed call, computed. -/
import Derived.Test.YtkaiphobleifgaaGreatDoorTpQ
import Derived.Test.YtkaiphobleifgaaGreatDoorAzS2
import Derived.KernelRfl
set_option linter.all false
namespace Go.Tidy
open Go Go.Proofs
namespace A14
/-- What a run of it to the end returns. -/
noncomputable def outOf (r : Option (Exit × Regs × TH)) : Option (List Value) := match r with | some (.ret, a, h) => resultsT Tryz.prog Tab.f14.results a h | _ => none
theorem outOf_some {r : Option (Exit × Regs × TH)} {l : List Value} (h : outOf r = some l) : ∃ a g, r = some (.ret, a, g) ∧ resultsT Tryz.prog Tab.f14.results a g = some l := by
  unfold outOf at h
  split at h
  · exact ⟨_, _, rfl, h⟩
  · cases h
theorem p2 (e1 e2 : TypeId) : outOf (evF Tryz.prog tpQ 99979 (part Tab.c14 21 32) a21 (h21 e1 e2)) = some [.bool true] := by kernel_rfl
end A14
end Go.Tidy
