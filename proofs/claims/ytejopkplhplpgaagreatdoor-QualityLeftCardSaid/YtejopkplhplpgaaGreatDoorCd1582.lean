/-
  QualityLeft returns true for every input,and each argument reads afterwards as it read before.
  Conditions: the variables that the row lists hold what the program's text lays;nothing else.
-/
import Derived.Test.YtejopkplhplpgaaGreatDoorCd1582c
import Derived.Test.YtejopkplhplpgaaGreatDoorPa8
import Derived.Test.YtejopkplhplpgaaGreatDoorCards
import Derived.Test.YtejopkplhplpgaaGreatDoorTie
import Derived.WalkKit
import Derived.ProofKit
import Derived.OpenShut
import Derived.Deep.DeepHandedRow
import Derived.Lib.LaidTab
set_option linter.all false
namespace Go.Proofs.YtejopkplhplpgaaGreatDoor.qualityLeft
open Go Go.ChangeShapes Go.WideShapes Go.ChangeAt Go.RowKit Go.Tidy
theorem own:ownKnob Tryz.prog.godebug=none:=by kernel_rfl
def w32:List Value:=[0,1,28,2,29,14,24,3,30,22,20,15,25,17,4,8,31,27,13,23,21,19,16,7,26,12,18,6,11,5,10,9].map (Value.int .u8)
def w64:List Value:=match (Rows.laid_math_bits_deBruijn64tab:DataW Unit) with
 | .agg l=>l.map fun d=>match d with | .lit (.int k n)=>.int k n | _=>undef
 | _=>[]
def args0:Array Value:=#[.agg #[.string ⟨#[]⟩,.slice none 0 0,.slice none 0 0],.int .i64 0]
def lay (l:List Value):Obj→Obj
 | .cells _ t frozen=>.cells l.toArray t frozen
 | o=>o
noncomputable def laidWorld (os:Os):World :=
 { World.holding Tryz.prog os ⟨#[],#[],[]⟩ with heap:=(((((World.holding Tryz.prog os ⟨#[],#[],[]⟩).heap.modify 0 (lay signsL)).modify 1 (lay powsL)).modify 4 (lay w32)).modify 5 (lay w64)) }
theorem laid_met (os:Os):laidMet Tryz.prog Rows.qualityLeftRow.laid ((laidWorld os).forCall (fun _ _=>0) ⟨#[],args0,[]⟩).memory :=
 laidMet_of_run' 8 (by kernel_rfl) (by kernel_rfl)
theorem reads (os:Os) {H:Type} (enc:TypeId × Value→H):∃ places,DataW.whole enc Tryz.prog ((laidWorld os).forCall (fun _ _=>0) ⟨#[],args0,[]⟩).memory Tryz.f4.params.toList Rows.qualityLeftSpec.vars false args0.toList 8=some ([.agg [.lit (.string []),.nil,.nil],.lit (.int .i64 0)],[],places) :=
 ⟨[],by kernel_rfl⟩
theorem hparams:Tryz.f4.params.toList=[25,3]:=by rw [Tryz.params4]
theorem hresult:Tryz.f4.resultTypes=#[4]:=by kernel_rfl
theorem hsimple:([25,3]:List TypeId).all (simple Tryz.prog 5)=true:=by kernel_rfl
theorem hspec {H:Type} (ds:List (DataW H)) (h:ds.length=([25,3]:List TypeId).length):(Rows.qualityLeftSpec.fn H ds).results=[.lit (.bool true)]∧(Rows.qualityLeftSpec.fn H ds).args=ds∧(Rows.qualityLeftSpec.fn H ds).vars=[]:=by
 match ds,h with
 | [d0,d1],_=>exact ⟨rfl,rfl,rfl⟩
theorem hfn:tpE.fn 4=some Tab.f1582:=hasE.fn 4 Tab.f1582 rfl rfl
set_option maxRecDepth 100000 in
theorem lifted (os:Os) (started:os.Started) (H:Type) (enc:TypeId × Value→H) (F:Stop.Interp) :
  ReturnsInHanded {} Tryz.checked os 4 .any ((OpenSpec.ofChange Rows.qualityLeftSpec).preRow enc Tryz.prog Tryz.f4 Rows.qualityLeftRow.domain false Rows.qualityLeftRow.laid) (((OpenSpec.ofChange Rows.qualityLeftSpec).at F).post enc Tryz.prog Tryz.f4 false true false false):=by
 obtain ⟨places,hx⟩:=reads os enc
 refine returnsInHanded_of_row (C:=Tryz.checked) (s:=OpenSpec.ofChange Rows.qualityLeftSpec) own started (by kernel_rfl) Tryz.func4
  (witness_row_at (enc:=enc) (C:=Tryz.checked) false (laidWorld os) args0 rfl (by kernel_rfl) (by kernel_rfl) (by kernel_rfl)
   (OpenSpec.preRow_of_cond 8 hx (by kernel_rfl) (fun k hk=>by cases hk) (by kernel_rfl) (laid_met os))) ?_
 intro W base args ds gs before hval hW _ _ _ hL _ _
 exact contractG hfn hparams hresult hsimple (by first | exact law1582.g | exact law1582) rfl hspec W base args ds gs before hval hW hL
theorem said:Rows.QualityLeftSaid :=
 OpenClaim.holds_of_cond 4 Tryz.f4 rfl rfl rfl rfl rfl rfl rfl ⟨rfl,rfl,rfl,rfl,rfl⟩ rfl rfl rfl rfl rfl (by kernel_rfl) Tryz.func4 facts
  (of_decide_eq_true (by kernel_rfl)) (by unfold Func.isWrapper;first | (rw [if_pos (by decide +kernel)];kernel_rfl) | (rw [if_neg (by decide +kernel)];exact ⟨rfl,rfl⟩))
  (fun os started H enc _ F=>by rw [OpenClaim.pre_eq_preRow];exact lifted os started H enc F)
theorem plain (f:FuncId) (fn:Func) (hf:Tryz.pinned.checked.prog.funcNamed Rows.qualityLeftRow.func=some f) (hfn:Tryz.pinned.checked.prog.funcs[f]?=some fn) :
  false=Tryz.pinned.checked.prog.looks []∧∀ (j:Nat) t,fn.params[j]?=some t→Tryz.pinned.checked.prog.wantsStandIn t=false:=by
 obtain rfl:f=4:=Option.some.inj ((show Tryz.prog.funcNamed Rows.qualityLeftRow.func=some 4 by kernel_rfl).symm.trans hf) |>.symm
 obtain rfl:fn=Tryz.f4:=(Option.some.inj (Tryz.func4.symm.trans hfn)).symm
 refine ⟨by kernel_rfl,fun j t ht=>?_⟩
 rw [Tryz.params4] at ht
 have hm:=Array.mem_of_getElem? ht
 simp only [List.mem_toArray,List.mem_cons,List.not_mem_nil,or_false] at hm
 rcases hm with rfl | rfl
 ·exact (show Tryz.prog.wantsStandIn 25=false by kernel_rfl)
 ·exact (show Tryz.prog.wantsStandIn 3=false by kernel_rfl)
end Go.Proofs.YtejopkplhplpgaaGreatDoor.qualityLeft
namespace Go.Proofs.YtejopkplhplpgaaGreatDoor
open Go
theorem qualityLeft_holds:Rows.QualityLeftCardSaid :=
 Claim7.holds_tied_plain_at .later [] _ _ _ _ qualityLeft.said (fun _ h=>by cases h) (by kernel_rfl) (fun _ h=>by cases h) qualityLeft_row_tie rfl ⟨rfl,rfl⟩ (by kernel_rfl) rfl qualityLeft.plain (by kernel_rfl)
end Go.Proofs.YtejopkplhplpgaaGreatDoor
