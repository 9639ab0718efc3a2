/-
  TopJackBoth returns true for every input,and each argument reads afterwards as it read before.
  Conditions: the variables that the row lists hold what the program's text lays;nothing else.
-/
import Derived.Test.YtmafhkcdhpkliaaDoorCd1397c
import Derived.Test.YtmafhkcdhpkliaaDoorPa7
import Derived.Test.YtmafhkcdhpkliaaDoorCards
import Derived.Test.YtmafhkcdhpkliaaDoorTie
import Derived.WalkKit
import Derived.ProofKit
import Derived.OpenShut
import Derived.Deep.DeepHandedRow
import Derived.Lib.LaidTab
set_option linter.all false
namespace Go.Proofs.YtmafhkcdhpkliaaDoor.topJackBoth
open Go Go.ChangeShapes Go.WideShapes Go.ChangeAt Go.RowKit Go.Tidy
theorem own:ownKnob Tryd.prog.godebug=none:=by kernel_rfl
def args0:Array Value:=#[.slice none 0 0,.agg #[.int .i64 0,.int .i64 0]]
def lay (l:List Value):Obj→Obj
 | .cells _ t frozen=>.cells l.toArray t frozen
 | o=>o
noncomputable def laidWorld (os:Os):World :=
 { World.holding Tryd.prog os ⟨#[],#[],[]⟩ with heap:=((World.holding Tryd.prog os ⟨#[],#[],[]⟩).heap.modify 0 (lay wghtL)) }
theorem laid_met (os:Os):laidMet Tryd.prog Rows.topJackBothRow.laid ((laidWorld os).forCall (fun _ _=>0) ⟨#[],args0,[]⟩).memory :=
 laidMet_of_run' 8 (by kernel_rfl) (by kernel_rfl)
theorem reads (os:Os) {H:Type} (enc:TypeId × Value→H):∃ places,DataW.whole enc Tryd.prog ((laidWorld os).forCall (fun _ _=>0) ⟨#[],args0,[]⟩).memory Tryd.f3.params.toList Rows.topJackBothSpec.vars false args0.toList 8=some ([.nil,.agg [.lit (.int .i64 0),.lit (.int .i64 0)]],[],places) :=
 ⟨[],by kernel_rfl⟩
theorem hparams:Tryd.f3.params.toList=[22,24]:=by rw [Tryd.params3]
theorem hresult:Tryd.f3.resultTypes=#[4]:=by kernel_rfl
theorem hsimple:([22,24]:List TypeId).all (simple Tryd.prog 5)=true:=by kernel_rfl
theorem hspec {H:Type} (ds:List (DataW H)) (h:ds.length=([22,24]:List TypeId).length):(Rows.topJackBothSpec.fn H ds).results=[.lit (.bool true)]∧(Rows.topJackBothSpec.fn H ds).args=ds∧(Rows.topJackBothSpec.fn H ds).vars=[]:=by
 match ds,h with
 | [d0,d1],_=>exact ⟨rfl,rfl,rfl⟩
theorem hfn:tpE.fn 3=some Tab.f1397:=hasE.fn 3 Tab.f1397 rfl rfl
set_option maxRecDepth 100000 in
theorem lifted (os:Os) (started:os.Started) (H:Type) (enc:TypeId × Value→H) (F:Stop.Interp) :
  ReturnsInHanded {} Tryd.checked os 3 .any ((OpenSpec.ofChange Rows.topJackBothSpec).preRow enc Tryd.prog Tryd.f3 Rows.topJackBothRow.domain false Rows.topJackBothRow.laid) (((OpenSpec.ofChange Rows.topJackBothSpec).at F).post enc Tryd.prog Tryd.f3 false true false false):=by
 obtain ⟨places,hx⟩:=reads os enc
 refine returnsInHanded_of_row (C:=Tryd.checked) (s:=OpenSpec.ofChange Rows.topJackBothSpec) own started (by kernel_rfl) Tryd.func3
  (witness_row_at (enc:=enc) (C:=Tryd.checked) false (laidWorld os) args0 rfl (by kernel_rfl) (by kernel_rfl) (by kernel_rfl)
   (OpenSpec.preRow_of_cond 8 hx (by kernel_rfl) (fun k hk=>by cases hk) (by kernel_rfl) (laid_met os))) ?_
 intro W base args ds gs before hval hW _ _ _ hL _ _
 exact contractG hfn hparams hresult hsimple (by first | exact law1397.g | exact law1397) rfl hspec W base args ds gs before hval hW hL
theorem said:Rows.TopJackBothSaid :=
 OpenClaim.holds_of_cond 3 Tryd.f3 rfl rfl rfl rfl rfl rfl rfl ⟨rfl,rfl,rfl,rfl,rfl⟩ rfl rfl rfl rfl rfl (by kernel_rfl) Tryd.func3 facts
  (of_decide_eq_true (by kernel_rfl)) (by unfold Func.isWrapper;first | (rw [if_pos (by decide +kernel)];kernel_rfl) | (rw [if_neg (by decide +kernel)];exact ⟨rfl,rfl⟩))
  (fun os started H enc _ F=>by rw [OpenClaim.pre_eq_preRow];exact lifted os started H enc F)
theorem plain (f:FuncId) (fn:Func) (hf:Tryd.pinned.checked.prog.funcNamed Rows.topJackBothRow.func=some f) (hfn:Tryd.pinned.checked.prog.funcs[f]?=some fn) :
  false=Tryd.pinned.checked.prog.looks []∧∀ (j:Nat) t,fn.params[j]?=some t→Tryd.pinned.checked.prog.wantsStandIn t=false:=by
 obtain rfl:f=3:=Option.some.inj ((show Tryd.prog.funcNamed Rows.topJackBothRow.func=some 3 by kernel_rfl).symm.trans hf) |>.symm
 obtain rfl:fn=Tryd.f3:=(Option.some.inj (Tryd.func3.symm.trans hfn)).symm
 refine ⟨by kernel_rfl,fun j t ht=>?_⟩
 rw [Tryd.params3] at ht
 have hm:=Array.mem_of_getElem? ht
 simp only [List.mem_toArray,List.mem_cons,List.not_mem_nil,or_false] at hm
 rcases hm with rfl | rfl
 ·exact (show Tryd.prog.wantsStandIn 22=false by kernel_rfl)
 ·exact (show Tryd.prog.wantsStandIn 24=false by kernel_rfl)
end Go.Proofs.YtmafhkcdhpkliaaDoor.topJackBoth
namespace Go.Proofs.YtmafhkcdhpkliaaDoor
open Go
theorem topJackBoth_holds:Rows.TopJackBothCardSaid :=
 Claim7.holds_tied_plain_at .later [] _ _ _ _ topJackBoth.said (fun _ h=>by cases h) (by kernel_rfl) (fun _ h=>by cases h) topJackBoth_row_tie rfl ⟨rfl,rfl⟩ (by kernel_rfl) rfl topJackBoth.plain (by kernel_rfl)
end Go.Proofs.YtmafhkcdhpkliaaDoor
