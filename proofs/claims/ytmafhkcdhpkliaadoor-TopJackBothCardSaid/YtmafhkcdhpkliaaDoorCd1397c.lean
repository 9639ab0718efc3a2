/- A part of the proof. -/
import Derived.Test.YtmafhkcdhpkliaaDoorCd1397a
import Derived.Test.YtmafhkcdhpkliaaDoorCd1397b
set_option linter.all false
namespace Go.Proofs.YtmafhkcdhpkliaaDoor.topJackBoth
open Go
set_option maxRecDepth 100000 in
theorem facts:joinedFacts Tryd.prog 3 Tryd.f3 (OpenSpec.ofChange Rows.topJackBothSpec).bare Rows.topJackBothRow=true:=by
 unfold joinedFacts
 simp only [Bool.and_eq_true]
 repeat' apply And.intro
 all_goals first
  | with_reducible exact zB
  | with_reducible exact zC
  | with_reducible exact zD
  | with_reducible exact zE
  | with_reducible exact zF
  | with_reducible exact zG
  | with_reducible exact zH
  | kernel_rfl
end Go.Proofs.YtmafhkcdhpkliaaDoor.topJackBoth
