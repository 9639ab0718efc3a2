/- A part of the proof. -/
import Derived.Test.YtejopkplhplpgaaGreatDoorPa3
import Derived.Test.YtejopkplhplpgaaGreatDoorPa5
import Derived.KernelRfl
set_option linter.all false
namespace Go.Tidy
open Go Go.Proofs
namespace A12
noncomputable def outOf (r:Option (Exit × Regs × TH)):Option (List Value):=match r with | some (.ret,a,h)=>resultsT Tryz.prog Tab.f1592.results a h | _=>none
theorem outOf_some {r:Option (Exit × Regs × TH)} {l:List Value} (h:outOf r=some l):∃ a g,r=some (.ret,a,g)∧resultsT Tryz.prog Tab.f1592.results a g=some l:=by
  unfold outOf at h
  split at h
  · exact ⟨_,_,rfl,h⟩
  · cases h
set_option maxRecDepth 100000 in
theorem p2 (e1 e2:TypeId):outOf (evF Tryz.prog tpQ 99983 (part Tab.c1592 17 77) a17 (h17 e1 e2))=some [.bool true]:=by kernel_rfl
end A12
end Go.Tidy
