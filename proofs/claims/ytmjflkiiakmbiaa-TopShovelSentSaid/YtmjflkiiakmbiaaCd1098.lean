/-
  TopShovelSent returns true for every input,and each argument reads afterwards as it read before.
  Conditions: the variables that the row lists hold what the program's text lays;nothing else.
-/
import Derived.Test.YtmjflkiiakmbiaaCd1098c
import Derived.Test.YtmjflkiiakmbiaaPa7
import Derived.WalkKit
import Derived.ProofKit
import Derived.OpenShut
import Derived.Deep.DeepHandedRow
import Derived.Lib.LaidTab
set_option linter.all false
namespace Go.Proofs.Ytmjflkiiakmbiaa.topShovelSent
open Go Go.ChangeShapes Go.WideShapes Go.ChangeAt Go.RowKit Go.Tidy
theorem own:ownKnob Try.prog.godebug = none:=by kernel_rfl
def args0:Array Value:=#[.slice none 0 0,.int .u16 0]
noncomputable def laidWorld (os:Os):World:=World.holding Try.prog os ⟨#[],#[],[]⟩
theorem laid_met (os:Os):laidMet Try.prog Rows.topShovelSentRow.laid ((laidWorld os).forCall (fun _ _ => 0) ⟨#[],args0,[]⟩).memory:=laidMet_of_run' 8 (by kernel_rfl) (by kernel_rfl)
theorem reads (os:Os) {H:Type} (enc:TypeId × Value → H):∃ places,DataW.whole enc Try.prog ((laidWorld os).forCall (fun _ _ => 0) ⟨#[],args0,[]⟩).memory Try.f3.params.toList Rows.topShovelSentSpec.vars false args0.toList 8 = some ([.nil,.lit (.int .u16 0)],[],places) :=
 ⟨[],by kernel_rfl⟩
theorem hparams:Try.f3.params.toList = [22,23]:=by rw [Try.params3]
theorem hresult:Try.f3.resultTypes = #[4]:=by kernel_rfl
theorem hsimple:([22,23]:List TypeId).all (simple Try.prog 5) = true:=by kernel_rfl
theorem hspec {H:Type} (ds:List (DataW H)) (h:ds.length = ([22,23]:List TypeId).length):(Rows.topShovelSentSpec.fn H ds).results = [.lit (.bool true)] ∧ (Rows.topShovelSentSpec.fn H ds).args = ds ∧ (Rows.topShovelSentSpec.fn H ds).vars = []:=by
 match ds,h with
 | [d0,d1],_ => exact ⟨rfl,rfl,rfl⟩
theorem hfn:tpE.fn 3 = some Tab.f1098:=hasE.fn 3 Tab.f1098 rfl rfl
set_option maxRecDepth 100000 in
theorem lifted (os:Os) (started:os.Started) (H:Type) (enc:TypeId × Value → H) (F:Stop.Interp) :
  ReturnsInHanded {} Try.checked os 3 .any ((OpenSpec.ofChange Rows.topShovelSentSpec).preRow enc Try.prog Try.f3 Rows.topShovelSentRow.domain false Rows.topShovelSentRow.laid) (((OpenSpec.ofChange Rows.topShovelSentSpec).at F).post enc Try.prog Try.f3 false true false false):=by
 obtain ⟨places,hx⟩:=reads os enc
 refine returnsInHanded_of_row (C:=Try.checked) (s:=OpenSpec.ofChange Rows.topShovelSentSpec) own started (by kernel_rfl) Try.func3
  (witness_row_at (enc:=enc) (C:=Try.checked) false (laidWorld os) args0 rfl (by kernel_rfl) (by kernel_rfl) (by kernel_rfl)
   (OpenSpec.preRow_of_cond 8 hx (by kernel_rfl) (fun k hk => by cases hk) (by kernel_rfl) (laid_met os))) ?_
 intro W base args ds gs before hval hW _ _ _ _ _ _
 exact contractG hfn hparams hresult hsimple law1098 rfl hspec W base args ds gs before hval hW
theorem said:Rows.TopShovelSentSaid :=
 OpenClaim.holds_of_cond 3 Try.f3 rfl rfl rfl rfl rfl rfl rfl ⟨rfl,rfl,rfl,rfl,rfl⟩ rfl rfl rfl rfl rfl (by kernel_rfl) Try.func3 facts
  (of_decide_eq_true (by kernel_rfl)) (by unfold Func.isWrapper;first | (rw [if_pos (by decide +kernel)];kernel_rfl) | (rw [if_neg (by decide +kernel)];exact ⟨rfl,rfl⟩))
  (fun os started H enc _ F => by rw [OpenClaim.pre_eq_preRow];exact lifted os started H enc F)
end Go.Proofs.Ytmjflkiiakmbiaa.topShovelSent
namespace Go.Proofs.Ytmjflkiiakmbiaa
open Go
theorem topShovelSent_holds:Rows.TopShovelSentSaid:=topShovelSent.said
end Go.Proofs.Ytmjflkiiakmbiaa
