/-
  TopShovelVoted returns true for every input,and each argument reads afterwards as it read before.
  Conditions: the variables that the row lists hold what the program's text lays; nothing else.
-/
import Derived.Test.YtpmijenaggkpdaaGreatCd1000c
import Derived.Test.YtpmijenaggkpdaaGreatPa7
import Derived.WalkKit
import Derived.ProofKit
import Derived.OpenShut
import Derived.Deep.DeepHandedRow
import Derived.Lib.LaidTab
set_option linter.all false
namespace Go.Proofs.YtpmijenaggkpdaaGreat.topShovelVoted
open Go Go.ChangeShapes Go.WideShapes Go.ChangeAt Go.RowKit Go.Tidy
theorem own:ownKnob Tryz.prog.godebug = none:=by kernel_rfl
def args0:Array Value:=#[.agg #[.string ⟨#[]⟩,.int .i64 0,.slice none 0 0,.slice none 0 0,.string ⟨#[]⟩,.int .i64 0,.slice none 0 0,.slice none 0 0,.string ⟨#[]⟩,.int .i64 0,.slice none 0 0,.slice none 0 0],.float .f32 0,.agg #[.int .u8 0,.int .u8 0,.int .u8 0]]
noncomputable def laidWorld (os:Os):World:=World.holding Tryz.prog os ⟨#[],#[],[]⟩
theorem laid_met (os:Os):laidMet Tryz.prog Rows.topShovelVotedRow.laid ((laidWorld os).forCall (fun _ _ => 0) ⟨#[],args0,[]⟩).memory:=laidMet_of_run' 8 (by kernel_rfl) (by kernel_rfl)
theorem reads (os:Os) {H:Type} (enc:TypeId × Value → H):∃ places,DataW.whole enc Tryz.prog ((laidWorld os).forCall (fun _ _ => 0) ⟨#[],args0,[]⟩).memory Tryz.f3.params.toList Rows.topShovelVotedSpec.vars false args0.toList 8 = some ([.agg [.agg [.lit (.string []),.lit (.int .i64 0),.nil,.nil],.agg [.lit (.string []),.lit (.int .i64 0),.nil,.nil],.agg [.lit (.string []),.lit (.int .i64 0),.nil,.nil]],.lit (.float .f32 0),.agg [.lit (.int .u8 0),.lit (.int .u8 0),.lit (.int .u8 0)]],[],places) :=
 ⟨[],by kernel_rfl⟩
theorem hparams:Tryz.f3.params.toList = [26,27,28]:=by rw [Tryz.params3]
theorem hresult:Tryz.f3.resultTypes = #[4]:=by kernel_rfl
theorem hsimple:([26,27,28]:List TypeId).all (simple Tryz.prog 5) = true:=by kernel_rfl
theorem hspec {H:Type} (ds:List (DataW H)) (h:ds.length = ([26,27,28]:List TypeId).length):(Rows.topShovelVotedSpec.fn H ds).results = [.lit (.bool true)] ∧ (Rows.topShovelVotedSpec.fn H ds).args = ds ∧ (Rows.topShovelVotedSpec.fn H ds).vars = []:=by
 match ds,h with
 | [d0,d1,d2],_ => exact ⟨rfl,rfl,rfl⟩
theorem hfn:tpE.fn 3 = some Tab.f1000:=hasE.fn 3 Tab.f1000 rfl rfl
set_option maxRecDepth 100000 in
theorem lifted (os:Os) (started:os.Started) (H:Type) (enc:TypeId × Value → H) (F:Stop.Interp) :
  ReturnsInHanded {} Tryz.checked os 3 .any ((OpenSpec.ofChange Rows.topShovelVotedSpec).preRow enc Tryz.prog Tryz.f3 Rows.topShovelVotedRow.domain false Rows.topShovelVotedRow.laid) (((OpenSpec.ofChange Rows.topShovelVotedSpec).at F).post enc Tryz.prog Tryz.f3 false true false false):=by
 obtain ⟨places,hx⟩:=reads os enc
 refine returnsInHanded_of_row (C:=Tryz.checked) (s:=OpenSpec.ofChange Rows.topShovelVotedSpec) own started (by kernel_rfl) Tryz.func3
  (witness_row_at (enc:=enc) (C:=Tryz.checked) false (laidWorld os) args0 rfl (by kernel_rfl) (by kernel_rfl) (by kernel_rfl)
   (OpenSpec.preRow_of_cond 8 hx (by kernel_rfl) (fun k hk => by cases hk) (by kernel_rfl) (laid_met os))) ?_
 intro W base args ds gs before hval hW _ _ _ _ _ _
 exact contractG hfn hparams hresult hsimple law1000 rfl hspec W base args ds gs before hval hW
theorem said:Rows.TopShovelVotedSaid :=
 OpenClaim.holds_of_cond 3 Tryz.f3 rfl rfl rfl rfl rfl rfl rfl ⟨rfl,rfl,rfl,rfl,rfl⟩ rfl rfl rfl rfl rfl (by kernel_rfl) Tryz.func3 facts
  (of_decide_eq_true (by kernel_rfl)) (by unfold Func.isWrapper; first | (rw [if_pos (by decide +kernel)]; kernel_rfl) | (rw [if_neg (by decide +kernel)]; exact ⟨rfl,rfl⟩))
  (fun os started H enc _ F => by rw [OpenClaim.pre_eq_preRow]; exact lifted os started H enc F)
end Go.Proofs.YtpmijenaggkpdaaGreat.topShovelVoted
namespace Go.Proofs.YtpmijenaggkpdaaGreat
open Go
theorem topShovelVoted_holds:Rows.TopShovelVotedSaid:=topShovelVoted.said
end Go.Proofs.YtpmijenaggkpdaaGreat
