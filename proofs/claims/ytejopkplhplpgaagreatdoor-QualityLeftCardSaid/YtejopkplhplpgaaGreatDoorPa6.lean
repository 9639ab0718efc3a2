/- A part of the proof. -/
import Derived.Test.YtejopkplhplpgaaGreatDoorPa4
import Derived.Test.YtejopkplhplpgaaGreatDoorAzP0
import Derived.Test.YtejopkplhplpgaaGreatDoorAzP1
import Derived.Test.YtejopkplhplpgaaGreatDoorAzP2
import Derived.Test.YtejopkplhplpgaaGreatDoorPa1
import Derived.KernelRfl
import Derived.Test.YtejopkplhplpgaaGreatDoorPa3
import Derived.Test.YtejopkplhplpgaaGreatDoorPa2
import Derived.Laws.Strings
import Derived.RowKit3
import Derived.ChangeOld
import Derived.ChangeAgain
import Derived.Test.YtejopkplhplpgaaGreatDoorRows
import Derived.Lib.LaidTab
import Derived.OpenShut
import Derived.ChangeSame
import Derived.ChangeMaps5
set_option linter.all false
namespace Go.Tidy
open Go Go.Proofs
def signsL:List Value:=[(.int .i64 (-1)),(.int .i64 (-1)),(.int .i64 (-1)),(.int .i64 1),(.int .i64 1),(.int .i64 (-1)),(.int .i64 1),(.int .i64 1)]
def powsL:List Value:=[(.int .u64 1),(.int .u64 10),(.int .u64 100),(.int .u64 1000),(.int .u64 10000),(.int .u64 100000),(.int .u64 1000000),(.int .u64 10000000),(.int .u64 100000000),(.int .u64 1000000000),(.int .u64 10000000000),(.int .u64 100000000000),(.int .u64 1000000000000),(.int .u64 10000000000000),(.int .u64 100000000000000),(.int .u64 1000000000000000),(.int .u64 10000000000000000),(.int .u64 100000000000000000),(.int .u64 1000000000000000000),(.int .u64 10000000000000000000)]
namespace A11
def t0 (e1 e2:TypeId):Tr TB:=(Tr.set (Tr.set .nil 0 (TB.cells signsL true false e1)) 1 (TB.cells powsL true false e2))
def h0 (e1 e2:TypeId):TH:=⟨t0 e1 e2,6,6,[]⟩
theorem fn11:tpQ.fn 9=some Tab.f1592:=by kernel_rfl
set_option maxRecDepth 100000
theorem q0:Tab.c1592=seqs (part Tab.c1592 0 12) (tailC Tab.c1592 12):=by kernel_rfl
theorem q1:tailC Tab.c1592 12=seqs (part Tab.c1592 12 17) (tailC Tab.c1592 17):=by kernel_rfl
theorem q2:tailC Tab.c1592 17=chain (part Tab.c1592 17 77):=by kernel_rfl
theorem h0_eq (e1 e2:TypeId):h0 e1 e2=A12.h0 e1 e2:=rfl
theorem run (e1 e2:TypeId):∃ g,callT Tryz.prog tpQ (ev Tryz.prog tpQ 100000) (.func (.func 9) #[] #[]) #[] (h0 e1 e2)=some (.bool true,g):=by
  obtain ⟨a,g,h1,h2⟩:=A12.outOf_some (A12.p2 e1 e2)
  have body:ev Tryz.prog tpQ 100000 false Tab.c1592 .nil (h0 e1 e2)=some (.ret,a,g):=by
    rw [h0_eq,show (Tr.nil:Regs)=A12.a0 from rfl]
    rw [q0]
    refine ev_seqs _ _ _ _ _ _ _ _ (A12.p0 e1 e2) ?_
    rw [show 100000 - (part Tab.c1592 0 12).length=99988 by kernel_rfl]
    rw [q1]
    refine ev_seqs _ _ _ _ _ _ _ _ (A12.p1 e1 e2) ?_
    rw [show 99988 - (part Tab.c1592 12 17).length=99983 by kernel_rfl]
    rw [q2]
    exact ev_evF _ _ _ _ _ h1
  exact ⟨g,callT_of (vs:=[.bool true]) fn11 body h2⟩
end A11
end Go.Tidy
namespace Go.Tidy
open Go Go.Proofs Tab
structure Has (tp:TProg):Prop where
 fn:∀ k f,Tab.fns.get k=some f→Nat.beq k 9=false→tp.fn k=some f
variable {tp:TProg}
theorem k77 (H:Has tp) (b:Bool) (e:Int) (h:TH):CallW Tryz.prog tp (.func (.func 77) #[] #[]) #[.bool b,.int .i64 e] h fun v h'=>v=.int .i64 (cond b e 0)∧h'=h:=by
 refine CallW.full (H.fn 77 f77 rfl rfl) rfl ?_
 repeat' (first
  | refine WO.mv rfl ?_ | refine WO.as rfl ?_ | refine WO.bi rfl rfl rfl ?_
  | refine WO.nil ?_
  | refine W.seq ?_ | refine W.reg ?_ | refine W.ret ?_ | refine W.skip ?_ | refine W.exit ?_ | refine W.block ?_
  | refine WO.nt rfl ?_
  | with_reducible refine OnB.yes ?_ | with_reducible refine OnB.no ?_ | with_reducible refine OnB.way (fun hb=>?_) (fun hb=>?_)
  | refine WO.gu rfl rfl ?_ | refine WO.gt rfl rfl ?_ | refine WO.gf rfl rfl ?_
  | refine WO.pk rfl rfl rfl ?_
  | refine W.cd rfl ?_)
 all_goals (refine ⟨.inr rfl,_,rfl,?_,rfl⟩;subst hb;rfl)
theorem k32 (H:Has tp) (b:Bool) (e:Int) (h:TH):CallW Tryz.prog tp (.func (.func 26) #[] #[]) #[.bool b,.int .i64 e] h fun v h'=>v=.int .i64 (cond b e 0)∧h'=h:=by
 refine CallW.full (H.fn 26 f32 rfl rfl) rfl ?_
 repeat' (first
  | refine WO.mv rfl ?_ | refine WO.as rfl ?_ | refine WO.bi rfl rfl rfl ?_
  | refine WO.nil ?_
  | refine W.seq ?_ | refine W.reg ?_ | refine W.ret ?_ | refine W.skip ?_ | refine W.exit ?_ | refine W.block ?_
  | refine WO.nt rfl ?_
  | with_reducible refine OnB.yes ?_ | with_reducible refine OnB.no ?_ | with_reducible refine OnB.way (fun hb=>?_) (fun hb=>?_)
  | refine WO.gu rfl rfl ?_ | refine WO.gt rfl rfl ?_ | refine WO.gf rfl rfl ?_
  | refine WO.pk rfl rfl rfl ?_
  | refine W.cd rfl ?_)
 all_goals (refine ⟨.inr rfl,_,rfl,?_,rfl⟩;subst hb;rfl)
def outB (n l m:Int):Int:=cond (decide (n < l) || decide (n > m)) 3 0
theorem k72 (H:Has tp) (n l m:Int) (h:TH):CallW Tryz.prog tp (.func (.func 118) #[] #[]) #[.int .i64 n,.int .i64 l,.int .i64 m] h fun v h'=>v=.int .i64 (outB n l m)∧h'=h:=by
 refine CallW.full (H.fn 118 f72 rfl rfl) rfl ?_
 repeat' (first
  | refine WO.mv rfl ?_ | refine WO.as rfl ?_ | refine WO.bi rfl rfl rfl ?_
  | refine WO.nil ?_
  | refine W.seq ?_ | refine W.reg ?_ | refine W.ret ?_ | refine W.skip ?_ | refine W.exit ?_ | refine W.block ?_
  | refine WO.nt rfl ?_
  | (refine WO.cl2 rfl rfl rfl ?_;refine (k77 H _ _ _).mono ?_;rintro v h' ⟨rfl,rfl⟩)
  | with_reducible refine OnB.yes ?_ | with_reducible refine OnB.no ?_ | with_reducible refine OnB.way (fun hb=>?_) (fun hb=>?_)
  | refine WO.gu rfl rfl ?_ | refine WO.gt rfl rfl ?_ | refine WO.gf rfl rfl ?_
  | refine WO.pk rfl rfl rfl ?_
  | refine W.cd rfl ?_)
 all_goals (refine ⟨.inr rfl,_,rfl,?_,rfl⟩;unfold outB;rw [hb];rfl)
theorem k14 (H:Has tp) (n l m:Int) (h:TH):CallW Tryz.prog tp (.func (.func 72) #[] #[]) #[.int .i64 n,.int .i64 l,.int .i64 m] h fun v h'=>v=.int .i64 (outB n l m)∧h'=h:=by
 refine CallW.full (H.fn 72 f14 rfl rfl) rfl ?_
 repeat' (first
  | refine WO.mv rfl ?_ | refine WO.as rfl ?_ | refine WO.bi rfl rfl rfl ?_
  | refine WO.nil ?_
  | refine W.seq ?_ | refine W.reg ?_ | refine W.ret ?_ | refine W.skip ?_ | refine W.exit ?_ | refine W.block ?_
  | refine WO.nt rfl ?_
  | (refine WO.cl2 rfl rfl rfl ?_;refine (k32 H _ _ _).mono ?_;rintro v h' ⟨rfl,rfl⟩)
  | with_reducible refine OnB.yes ?_ | with_reducible refine OnB.no ?_ | with_reducible refine OnB.way (fun hb=>?_) (fun hb=>?_)
  | refine WO.gu rfl rfl ?_ | refine WO.gt rfl rfl ?_ | refine WO.gf rfl rfl ?_
  | refine WO.pk rfl rfl rfl ?_
  | refine W.cd rfl ?_)
 all_goals (refine ⟨.inr rfl,_,rfl,?_,rfl⟩;unfold outB;rw [hb];rfl)
def isL (c:Int):Bool:=decide (65≤c) && decide (c≤90) || decide (97≤c) && decide (c≤122)
def isD (c:Int):Bool:=decide (48≤c) && decide (c≤57)
theorem k73 (H:Has tp) (c:Int) (h:TH):CallW Tryz.prog tp (.func (.func 162) #[] #[]) #[.int .i32 c] h fun v h'=>v=.bool (isL c)∧h'=h:=by
 refine CallW.full (H.fn 162 f73 rfl rfl) rfl ?_
 repeat' (first
  | refine WO.mv rfl ?_ | refine WO.as rfl ?_ | refine WO.bi rfl rfl rfl ?_
  | refine WO.nil ?_
  | refine W.seq ?_ | refine W.reg ?_ | refine W.ret ?_ | refine W.skip ?_ | refine W.exit ?_ | refine W.block ?_
  | refine WO.nt rfl ?_
  | with_reducible refine OnB.yes ?_ | with_reducible refine OnB.no ?_ | with_reducible refine OnB.way (fun hb=>?_) (fun hb=>?_)
  | refine WO.gu rfl rfl ?_ | refine WO.gt rfl rfl ?_ | refine WO.gf rfl rfl ?_
  | refine WO.pk rfl rfl rfl ?_
  | refine W.cd rfl ?_)
 all_goals (refine ⟨.inr rfl,_,rfl,?_,rfl⟩;show Value.bool _=Value.bool _;congr 1;simp_all [isL] <;> omega)
theorem k74 (H:Has tp) (c:Int) (h:TH):CallW Tryz.prog tp (.func (.func 163) #[] #[]) #[.int .i32 c] h fun v h'=>v=.bool (isD c)∧h'=h:=by
 refine CallW.full (H.fn 163 f74 rfl rfl) rfl ?_
 repeat' (first
  | refine WO.mv rfl ?_ | refine WO.as rfl ?_ | refine WO.bi rfl rfl rfl ?_
  | refine WO.nil ?_
  | refine W.seq ?_ | refine W.reg ?_ | refine W.ret ?_ | refine W.skip ?_ | refine W.exit ?_ | refine W.block ?_
  | refine WO.nt rfl ?_
  | with_reducible refine OnB.yes ?_ | with_reducible refine OnB.no ?_ | with_reducible refine OnB.way (fun hb=>?_) (fun hb=>?_)
  | refine WO.gu rfl rfl ?_ | refine WO.gt rfl rfl ?_ | refine WO.gf rfl rfl ?_
  | refine WO.pk rfl rfl rfl ?_
  | refine W.cd rfl ?_)
 all_goals (refine ⟨.inr rfl,_,rfl,?_,rfl⟩;show Value.bool _=Value.bool _;congr 1;simp_all [isD] <;> omega)
theorem k75 (H:Has tp) (c:Int) (h:TH):CallW Tryz.prog tp (.func (.func 166) #[] #[]) #[.int .u8 c] h fun v h'=>v=.bool (isL c)∧h'=h:=by
 refine CallW.full (H.fn 166 f75 rfl rfl) rfl ?_
 repeat' (first
  | refine WO.mv rfl ?_ | refine WO.as rfl ?_ | refine WO.bi rfl rfl rfl ?_
  | refine WO.nil ?_
  | refine W.seq ?_ | refine W.reg ?_ | refine W.ret ?_ | refine W.skip ?_ | refine W.exit ?_ | refine W.block ?_
  | refine WO.nt rfl ?_
  | with_reducible refine OnB.yes ?_ | with_reducible refine OnB.no ?_ | with_reducible refine OnB.way (fun hb=>?_) (fun hb=>?_)
  | refine WO.gu rfl rfl ?_ | refine WO.gt rfl rfl ?_ | refine WO.gf rfl rfl ?_
  | refine WO.pk rfl rfl rfl ?_
  | refine W.cd rfl ?_)
 all_goals (refine ⟨.inr rfl,_,rfl,?_,rfl⟩;show Value.bool _=Value.bool _;congr 1;simp_all [isL] <;> omega)
theorem k76 (H:Has tp) (c:Int) (h:TH):CallW Tryz.prog tp (.func (.func 167) #[] #[]) #[.int .u8 c] h fun v h'=>v=.bool (isD c)∧h'=h:=by
 refine CallW.full (H.fn 167 f76 rfl rfl) rfl ?_
 repeat' (first
  | refine WO.mv rfl ?_ | refine WO.as rfl ?_ | refine WO.bi rfl rfl rfl ?_
  | refine WO.nil ?_
  | refine W.seq ?_ | refine W.reg ?_ | refine W.ret ?_ | refine W.skip ?_ | refine W.exit ?_ | refine W.block ?_
  | refine WO.nt rfl ?_
  | with_reducible refine OnB.yes ?_ | with_reducible refine OnB.no ?_ | with_reducible refine OnB.way (fun hb=>?_) (fun hb=>?_)
  | refine WO.gu rfl rfl ?_ | refine WO.gt rfl rfl ?_ | refine WO.gf rfl rfl ?_
  | refine WO.pk rfl rfl rfl ?_
  | refine W.cd rfl ?_)
 all_goals (refine ⟨.inr rfl,_,rfl,?_,rfl⟩;show Value.bool _=Value.bool _;congr 1;simp_all [isD] <;> omega)
end Go.Tidy
namespace Go.Tidy
open Go Go.Proofs Tab
variable {tp:TProg}
theorem sc3:Sc Tryz.prog 3 (.int .i64 0):=sc_of (by kernel_rfl) (by kernel_rfl) rfl
theorem sc30:Sc Tryz.prog 33 (.int .i64 0):=sc_of (by kernel_rfl) (by kernel_rfl) rfl
theorem u29:Tryz.prog.underlying 47=some (.slice 3):=by kernel_rfl
theorem u166:Tryz.prog.underlying 204=some (.slice 33):=by kernel_rfl
def firstNZ:List Int→Int
 | []=>0
 | x::r=>cond (x != 0) x (firstNZ r)
theorem firstNZ_drop {l:List Int}:∀ {k:Nat},(∀ j,j < k→l.getD j 0=0)→firstNZ l=firstNZ (l.drop k):=by
 intro k
 induction k generalizing l with
 | zero=>intro _;rfl
 | succ k ih =>
  intro h
  cases l with
  | nil=>rfl
  | cons x r =>
   have h0:x=0:=by simpa using h 0 (by omega)
   subst h0
   simp only [firstNZ,List.drop_succ_cons]
   exact ih fun j hj=>by simpa using h (j+1) (by omega)
theorem k71 (H:Has tp) {l:List Int} {b c:Nat} {fix wr:Bool} {el:TypeId} {h:TH} (hg:h.get b=some (.cells (l.map (.int .i64)) fix wr el)) (hl:l.length≤1000000) :
    CallW Tryz.prog tp (.func (.func 65) #[] #[]) #[.slice (some ⟨b,0,none⟩) l.length c] h fun v h'=>v=.int .i64 (firstNZ l)∧h'=h:=by
  refine CallW.full (H.fn 65 f71 rfl rfl) rfl ?_
  refine W.seq (W.reg (WO.as rfl (WO.nil ?_)))
  refine W.seq (W.seq (W.reg (WO.mv rfl (WO.len rfl u166 (WO.mv rfl (WO.nil ?_))))))
  refine W.block (W.loop (fun k a h1=>h1=h∧∃ j:Nat,j≤l.length∧k=l.length - j∧(∀ i,i < j→l.getD i 0=0)∧Full 15 a∧Tr.get a 5=some (.slice (some ⟨b,0,none⟩) l.length c)∧Tr.get a 6=some (.int .i64 l.length)∧Tr.get a 7=some (.int .i64 (j:Nat)))
    ?_ l.length _ h ⟨rfl,0,by omega,by omega,fun i hi=>by omega,(by repeat (first | with_reducible refine Full.put ?_ (by decide) _ | with_reducible refine Full.putn ?_ _ | with_reducible exact Full.of _ _ rfl | with_reducible exact Full.start _ _ (Nat.le_of_ble_eq_true rfl) | exact Full.start _ _ (Nat.le_of_ble_eq_true rfl))),rfl,rfl,rfl⟩)
  rintro k a h1 ⟨rfl,j,hj,rfl,hz,hf,h5,h6,h7⟩
  (obtain ⟨rl0,hrl0,rfl⟩:=hf;obtain ⟨s0,s1,s2,s3,s4,s5,s6,s7,rl1,rfl,hrl1⟩:=cons8 hrl0;obtain ⟨s8,rl2,rfl,hrl2⟩:=cons_of hrl1;obtain ⟨s9,rl3,rfl,hrl3⟩:=cons_of hrl2;obtain ⟨s10,rl4,rfl,hrl4⟩:=cons_of hrl3;obtain ⟨s11,rl5,rfl,hrl5⟩:=cons_of hrl4;obtain ⟨s12,rl6,rfl,hrl6⟩:=cons_of hrl5;obtain ⟨s13,rl7,rfl,hrl7⟩:=cons_of hrl6;obtain ⟨s14,rl8,rfl,hrl8⟩:=cons_of hrl7;obtain rfl:=nil_of hrl8;clear hrl0 hrl1 hrl2 hrl3 hrl4 hrl5 hrl6 hrl7 hrl8;obtain rfl:s5=_:=Option.some.inj (show some s5=some _ from h5);clear h5;obtain rfl:s6=_:=Option.some.inj (show some s6=some _ from h6);clear h6;obtain rfl:s7=_:=Option.some.inj (show some s7=some _ from h7);clear h7)
  refine W.seq (W.reg (WO.bi rfl rfl rfl (WO.nil ?_)))
  refine W.seq (W.cd rfl ?_)
  by_cases hlt:j < l.length
  · have hd:decide ((j:Int) < (l.length:Int))=true:=by simpa using hlt
    rw [hd]
    refine OnB.yes (W.skip ?_)
    have hv:(l.map (Value.int .i64))[0+(j:Int).toNat]?=some (.int .i64 (l.getD j 0)):=by
      simp [List.getElem?_map,List.getElem?_eq_getElem hlt,List.getD_eq_getElem?_getD]
    refine W.seq (W.block (W.seq (W.reg ?_)))
    refine WO.ix rfl rfl (indexAddr_sl u166 sc30 (by omega) (by omega)) ?_
    refine WO.ld rfl (load_sc sc30 hg hv) ?_
    refine WO.as rfl (WO.nil ?_)
    refine W.seq (W.reg (WO.mv rfl (WO.bi rfl rfl rfl (WO.nil ?_))))
    refine W.cd rfl (OnB.way (fun hb=>?_) (fun hb=>?_))
    · repeat' (first
    | refine WO.mv rfl ?_ | refine WO.as rfl ?_ | refine WO.bi rfl rfl rfl ?_
    | refine WO.nil ?_
    | refine W.seq ?_ | refine W.reg ?_ | refine W.ret ?_ | refine W.skip ?_ | refine W.exit ?_ | refine W.block ?_
    | refine WO.nt rfl ?_
    | with_reducible refine OnB.yes ?_ | with_reducible refine OnB.no ?_ | with_reducible refine OnB.way (fun hb=>?_) (fun hb=>?_)
    | refine WO.gu rfl rfl ?_ | refine WO.gt rfl rfl ?_ | refine WO.gf rfl rfl ?_
    | refine WO.pk rfl rfl rfl ?_
    | refine W.cd rfl ?_)
      refine ⟨.inr rfl,_,rfl,?_,rfl⟩
      show Value.int _ _=Value.int _ _
      congr 1
      rw [firstNZ_drop hz,List.drop_eq_getElem_cons hlt]
      have he:l.getD j 0=l[j]:=by simp [List.getD_eq_getElem?_getD,List.getElem?_eq_getElem hlt]
      rw [he] at hb
      simp only [firstNZ,hb,Bool.cond_true]
      exact he
    · refine W.skip ?_
      refine W.reg (WO.bi rfl rfl rfl (WO.mv rfl (WO.nil ?_)))
      refine ⟨l.length - (j+1),by omega,rfl,j+1,by omega,rfl,fun i hi=>?_,(by repeat (first | with_reducible refine Full.put ?_ (by decide) _ | with_reducible refine Full.putn ?_ _ | with_reducible exact Full.of _ _ rfl | with_reducible exact Full.start _ _ (Nat.le_of_ble_eq_true rfl) | exact Full.start _ _ (Nat.le_of_ble_eq_true rfl))),rfl,rfl,?_⟩
      · by_cases e:i=j
        · subst e;simpa using hb
        · exact hz i (by omega)
      · rw [fwrap_i64 (by omega) (by omega)]
        rfl
  · have hd:decide ((j:Int) < (l.length:Int))=false:=by simpa using hlt
    rw [hd]
    refine OnB.no (W.exit ?_)
    repeat' (first
    | refine WO.mv rfl ?_ | refine WO.as rfl ?_ | refine WO.bi rfl rfl rfl ?_
    | refine WO.nil ?_
    | refine W.seq ?_ | refine W.reg ?_ | refine W.ret ?_ | refine W.skip ?_ | refine W.exit ?_ | refine W.block ?_
    | refine WO.nt rfl ?_
    | with_reducible refine OnB.yes ?_ | with_reducible refine OnB.no ?_ | with_reducible refine OnB.way (fun hb=>?_) (fun hb=>?_)
    | refine WO.gu rfl rfl ?_ | refine WO.gt rfl rfl ?_ | refine WO.gf rfl rfl ?_
    | refine WO.pk rfl rfl rfl ?_
    | refine W.cd rfl ?_)
    refine ⟨.inr rfl,_,rfl,?_,rfl⟩
    show Value.int _ _=Value.int _ _
    congr 1
    obtain rfl:j=l.length:=by omega
    rw [firstNZ_drop hz,List.drop_length]
    rfl
theorem k13 (H:Has tp) {l:List Int} {b c:Nat} {fix wr:Bool} {el:TypeId} {h:TH} (hg:h.get b=some (.cells (l.map (.int .i64)) fix wr el)) (hl:l.length≤1000000) :
    CallW Tryz.prog tp (.func (.func 17) #[] #[]) #[.slice (some ⟨b,0,none⟩) l.length c] h fun v h'=>v=.int .i64 (firstNZ l)∧h'=h:=by
  refine CallW.full (H.fn 17 f13 rfl rfl) rfl ?_
  refine W.seq (W.reg (WO.as rfl (WO.nil ?_)))
  refine W.seq (W.seq (W.reg (WO.as rfl (WO.nil ?_))))
  refine W.block (W.loop (fun k a h1=>h1=h∧∃ j:Nat,j≤l.length∧k=l.length - j∧(∀ i,i < j→l.getD i 0=0)∧Full 19 a∧Tr.get a 0=some (.slice (some ⟨b,0,none⟩) l.length c)∧Tr.get a 3=some (.int .i64 (j:Nat)))
    ?_ l.length _ h ⟨rfl,0,by omega,by omega,fun i hi=>by omega,(by repeat (first | with_reducible refine Full.put ?_ (by decide) _ | with_reducible refine Full.putn ?_ _ | with_reducible exact Full.of _ _ rfl | with_reducible exact Full.start _ _ (Nat.le_of_ble_eq_true rfl) | exact Full.start _ _ (Nat.le_of_ble_eq_true rfl))),rfl,rfl⟩)
  rintro k a h1 ⟨rfl,j,hj,rfl,hz,hf,h0,h3⟩
  (obtain ⟨rl0,hrl0,rfl⟩:=hf;obtain ⟨s0,s1,s2,s3,s4,s5,s6,s7,rl1,rfl,hrl1⟩:=cons8 hrl0;obtain ⟨s8,s9,s10,s11,s12,s13,s14,s15,rl2,rfl,hrl2⟩:=cons8 hrl1;obtain ⟨s16,rl3,rfl,hrl3⟩:=cons_of hrl2;obtain ⟨s17,rl4,rfl,hrl4⟩:=cons_of hrl3;obtain ⟨s18,rl5,rfl,hrl5⟩:=cons_of hrl4;obtain rfl:=nil_of hrl5;clear hrl0 hrl1 hrl2 hrl3 hrl4 hrl5;obtain rfl:s0=_:=Option.some.inj (show some s0=some _ from h0);clear h0;obtain rfl:s3=_:=Option.some.inj (show some s3=some _ from h3);clear h3)
  refine W.seq (W.seq (W.reg (WO.mv rfl (WO.mv rfl (WO.len rfl u29 (WO.bi rfl rfl rfl (WO.nil ?_)))))))
  refine W.cd rfl ?_
  by_cases hlt:j < l.length
  · have hd:decide ((j:Int) < (l.length:Int))=true:=by simpa using hlt
    rw [hd]
    refine OnB.yes (W.skip ?_)
    have hv:(l.map (Value.int .i64))[0+(j:Int).toNat]?=some (.int .i64 (l.getD j 0)):=by
      simp [List.getElem?_map,List.getElem?_eq_getElem hlt,List.getD_eq_getElem?_getD]
    refine W.seq (W.block (W.seq (W.reg ?_)))
    refine WO.mv rfl (WO.mv rfl (WO.ix rfl rfl (indexAddr_sl u29 sc3 (by omega) (by omega)) ?_))
    refine WO.ld rfl (load_sc sc3 hg hv) ?_
    refine WO.bi rfl rfl rfl (WO.nil ?_)
    refine W.cd rfl (OnB.way (fun hb=>?_) (fun hb=>?_))
    · refine W.seq (W.reg ?_)
      refine WO.mv rfl (WO.mv rfl (WO.ix rfl rfl (indexAddr_sl u29 sc3 (by omega) (by omega)) ?_))
      refine WO.ld rfl (load_sc sc3 hg hv) ?_
      refine WO.as rfl (WO.nil (W.ret ?_))
      refine ⟨.inr rfl,_,rfl,?_,rfl⟩
      show Value.int _ _=Value.int _ _
      congr 1
      rw [firstNZ_drop hz,List.drop_eq_getElem_cons hlt]
      have he:l.getD j 0=l[j]:=by simp [List.getD_eq_getElem?_getD,List.getElem?_eq_getElem hlt]
      rw [he] at hb
      simp only [firstNZ,hb,Bool.cond_true]
      exact he
    · refine W.skip ?_
      refine W.reg (WO.mv rfl (WO.bi rfl rfl rfl (WO.as rfl (WO.nil ?_))))
      refine ⟨l.length - (j+1),by omega,rfl,j+1,by omega,rfl,fun i hi=>?_,(by repeat (first | with_reducible refine Full.put ?_ (by decide) _ | with_reducible refine Full.putn ?_ _ | with_reducible exact Full.of _ _ rfl | with_reducible exact Full.start _ _ (Nat.le_of_ble_eq_true rfl) | exact Full.start _ _ (Nat.le_of_ble_eq_true rfl))),rfl,?_⟩
      · by_cases e:i=j
        · subst e;simpa using hb
        · exact hz i (by omega)
      · rw [fwrap_i64 (by omega) (by omega)]
        rfl
  · have hd:decide ((j:Int) < (l.length:Int))=false:=by simpa using hlt
    rw [hd]
    refine OnB.no (W.exit ?_)
    repeat' (first
    | refine WO.mv rfl ?_ | refine WO.as rfl ?_ | refine WO.bi rfl rfl rfl ?_
    | refine WO.nil ?_
    | refine W.seq ?_ | refine W.reg ?_ | refine W.ret ?_ | refine W.skip ?_ | refine W.exit ?_ | refine W.block ?_
    | refine WO.nt rfl ?_
    | with_reducible refine OnB.yes ?_ | with_reducible refine OnB.no ?_ | with_reducible refine OnB.way (fun hb=>?_) (fun hb=>?_)
    | refine WO.gu rfl rfl ?_ | refine WO.gt rfl rfl ?_ | refine WO.gf rfl rfl ?_
    | refine WO.pk rfl rfl rfl ?_
    | refine W.cd rfl ?_)
    refine ⟨.inr rfl,_,rfl,?_,rfl⟩
    show Value.int _ _=Value.int _ _
    congr 1
    obtain rfl:j=l.length:=by omega
    rw [firstNZ_drop hz,List.drop_length]
    rfl
end Go.Tidy
namespace Go.Tidy
open Go Go.Proofs Tab
variable {tp:TProg}
theorem WO.max {P:Program} {tp:TProg} {a:Regs} {h:TH} {K:Regs→TH→Prop} {rest:List TOper} {d:Option Tmp} {ty:TypeId} {i:Nat} {x y:Operand} {t u:TypeId} {m n:Int} (hx:getO a x=some (.int .i64 m)) (hy:getO a y=some (.int .i64 n))
  (w:WO P tp rest (a.put d (.int .i64 (max m n))) h K):WO P tp (⟨d,.call ⟨.builtin .max,#[x,y],#[t,u]⟩,ty,none,[],i⟩::rest) a h K:=by
 have ex:=getO_eval hx
 have ey:=getO_eval hy
 refine WO.plainly rfl rfl rfl rfl rfl (plainOp_of rfl (fun q hq=>?_) ?_ rfl) w
 ·simp only [Op.operands,Call.operands] at hq
  simp at hq
  rcases hq with rfl | rfl
  ·rw [ex];rfl
  ·rw [ey];rfl
 ·simp [toOper,execOp,resolve,invoke,builtin,Builtin.max_,Builtin.max2,pv_bind,pv_map,pv_pure,ex,ey]
  rw [Int.max_def]
  split <;> split <;> omega
theorem WO.neg {P:Program} {tp:TProg} {a:Regs} {h:TH} {K:Regs→TH→Prop} {rest:List TOper} {d:Option Tmp} {ty:TypeId} {i:Nat} {x:Operand} {t:TypeId} {m:Int} (hx:getO a x=some (.int .i64 m))
  (w:WO P tp rest (a.put d (.int .i64 (IntKind.i64.wrap (-m)))) h K):WO P tp (⟨d,.unOp .neg t x,ty,none,[],i⟩::rest) a h K:=by
 have ex:=getO_eval hx
 refine WO.plainly rfl rfl rfl rfl rfl (plainOp_of rfl (fun q hq=>?_) ?_ rfl) w
 ·simp only [Op.operands] at hq
  simp at hq
  rw [hq,ex];rfl
 ·simp [toOper,execOp,pv_map,pv_pure,ex,Op.unary,Op.intArith]
theorem WO.rem {P:Program} {tp:TProg} {a:Regs} {h:TH} {K:Regs→TH→Prop} {rest:List TOper} {d:Option Tmp} {ty:TypeId} {i:Nat} {x y:Operand} {t u:TypeId} {k:IntKind} {m n:Int} (hx:getO a x=some (.int k m)) (hy:getO a y=some (.int k n)) (hn:n≠0)
  (w:WO P tp rest (a.put d (.int k (m.tmod n))) h K):WO P tp (⟨d,.binOp .rem t x y u,ty,none,[],i⟩::rest) a h K:=by
 refine WO.bi hx hy ?_ w
 have hk:Nat.beq (kindNo k) (kindNo k)=true:=Nat.beq_refl _
 have hb:(n == 0)=false:=by simpa using hn
 simp only [fastBin,hk,fastInt,hb,Bool.cond_true,Bool.cond_false]
end Go.Tidy
namespace Go.Tidy
open Go Go.Proofs Tab
variable {tp:TProg}
def ints (l:List Int):List Value:=l.map (Value.int .i64)
theorem WO.mk {P:Program} {tp:TProg} {a:Regs} {h h1:TH} {K:Regs→TH→Prop} {rest:List TOper} {d:Option Tmp} {ty:TypeId} {i:Nat} {x y:Operand} {v v1 v2:Value} {t:TypeId} (hx:getO a x=some v1) (hy:getO a y=some v2) (hm:makeSliceT P t v1 v2 h=some (v,h1))
  (w:WO P tp rest (a.put d v) h1 K):WO P tp (⟨d,.makeSlice t x y,ty,none,[],i⟩::rest) a h K :=
 WO.op rfl rfl (fun call=>by simp only [stepOp,heapFirst,heapOp,getO_eval hx,getO_eval hy,hm,Bool.cond_true]) w
end Go.Tidy
namespace Go.Tidy
open Go Go.Proofs Tab
variable {tp:TProg}
def IsInts (h:TH) (sl:Value) (L:List Int):Prop :=
 (sl=.slice none 0 0∧L=[])∨∃ b c fix wr el,sl=.slice (some ⟨b,0,none⟩) L.length c∧b < h.next∧h.get b=some (.cells (ints L) fix wr el)
theorem IsInts.hx {h h':TH} {sl:Value} {L:List Int} (i:IsInts h sl L) (s:HX h h'):IsInts h' sl L:=by
 rcases i with i | ⟨b,c,fix,wr,el,i1,i2,i3⟩
 ·exact .inl i
 ·exact .inr ⟨b,c,fix,wr,el,i1,by have:=s.next;omega,s.get i2 i3⟩
end Go.Tidy
namespace Go.Tidy
open Go Go.Proofs Tab
variable {tp:TProg}
theorem IsInts.shape {h:TH} {sl:Value} {L:List Int} (i:IsInts h sl L):∃ base c,sl=.slice base L.length c∧(0 < L.length→∃ b fix wr el,base=some ⟨b,0,none⟩∧h.get b=some (.cells (ints L) fix wr el)):=by
 rcases i with ⟨rfl,rfl⟩ | ⟨b,c,fix,wr,el,rfl,_,i3⟩
 ·exact ⟨none,0,rfl,fun h=>by simp at h⟩
 ·exact ⟨_,c,rfl,fun _=>⟨b,fix,wr,el,rfl,i3⟩⟩
end Go.Tidy
namespace Go.Tidy
open Go Go.Proofs Tab
variable {tp:TProg}
section rules
variable {P:Program} {a:Regs} {h:TH} {K:Regs→TH→Prop} {rest:List TOper} {d:Option Tmp} {ty:TypeId} {i:Nat} {x y:Operand} {v vx vy:Value} {t u:TypeId} {s s':ByteArray}
theorem eqT_string:eqT P t (.string s) (.string s')=none:=by
 unfold eqT ptrEq nilEq
 cases P.underlying t with
 | none=>rfl
 | some d=>cases d <;> rfl
theorem WO.eqs (hx:getO a x=some (.string s)) (hy:getO a y=some (.string s')) (w:WO P tp rest (a.put d (.bool (s.toList == s'.toList))) h K):WO P tp (⟨d,.binOp .eql t x y u,ty,none,[],i⟩::rest) a h K:=by
  have ex:=getO_eval hx
  have ey:=getO_eval hy
  refine WO.plainly rfl rfl rfl (by simp [fastOp,fastBin,ex,ey]) (by simp [valueOp,ex,ey,eqT_string]) (plainOp_of (by rfl) (fun q hq=>?_) ?_ rfl) w
  · simp only [Op.operands] at hq
    simp at hq
    rcases hq with rfl | rfl
    · rw [ex];rfl
    · rw [ey];rfl
  · show pv P (execOp a.eval ⟨d, .binOp .eql t x y u, ty, "", #[], none⟩) = _
    simp [execOp,pv_bind,pv_map,pv_pure,ex,ey,eqGuard,binOp,Op.stringOp]
theorem WO.si {k:IntKind} {j:Nat} (hx:getO a x=some (.string s)) (hy:getO a y=some (.int k (j:Nat))) (hu:P.underlying t=some .string) (hj:j < s.size) (w:WO P tp rest (a.put d (.int .u8 (s[j].toNat:Nat))) h K):WO P tp (⟨d,.index t x y,ty,none,[],i⟩::rest) a h K:=by
 have ex:=getO_eval hx
 have ey:=getO_eval hy
 have hv:indexT P t (.string s) (.int k (j:Nat))=some (.int .u8 (s[j].toNat:Nat)):=by
  simp [indexT,hu,hj]
 exact WO.op (h1:=h) rfl rfl (fun call=>by simp [stepOp,heapFirst,fastOp,valueOp,ex,ey,hv]) w
theorem WO.rng (hx:getO a x=some (.string s)) (hu:P.underlying t=some .string) (w:WO P tp rest (a.put d (.pointer (some ⟨h.next,0,none⟩))) (h.new (.iter s 0)) K):WO P tp (⟨d,.range t x,ty,none,[],i⟩::rest) a h K:=by
 have ex:=getO_eval hx
 exact WO.op rfl rfl (fun call=>by simp only [stepOp,heapFirst,heapOp,ex,rangeT,hu,Bool.cond_true]) w
theorem WO.nxt {b pos:Nat} {h1:TH} (hx:getO a x=some (.pointer (some ⟨b,0,none⟩))) (hg:h.get b=some (.iter s pos)) (hp:pos < s.size) (hput:h.put b (.iter s (pos+(Utf8.decode s pos).2))=some h1)
  (w:WO P tp rest (a.put d (.tuple #[.bool true,.int .i64 pos,.int .i32 (Utf8.decode s pos).1])) h1 K):WO P tp (⟨d,.next x true,ty,none,[],i⟩::rest) a h K:=by
 have ex:=getO_eval hx
 have e:Nat.blt pos s.size=true:=by rw [Nat.blt_eq];exact hp
 exact WO.op rfl rfl (fun call=>by simp only [stepOp,heapFirst,heapOp,ex,nextT,hg,e,hput,Bool.cond_true,Option.map_some]) w
theorem WO.nxe {b pos:Nat} (hx:getO a x=some (.pointer (some ⟨b,0,none⟩))) (hg:h.get b=some (.iter s pos)) (hp:¬ pos < s.size)
  (w:WO P tp rest (a.put d (.tuple #[.bool false])) h K):WO P tp (⟨d,.next x true,ty,none,[],i⟩::rest) a h K:=by
 have ex:=getO_eval hx
 have e:Nat.blt pos s.size=false:=by
  cases hb:Nat.blt pos s.size with
  | false=>rfl
  | true=>rw [Nat.blt_eq] at hb;exact absurd hb hp
 exact WO.op (h1:=h) rfl rfl (fun call=>by simp only [stepOp,heapFirst,heapOp,ex,nextT,hg,e,Bool.cond_true,Bool.cond_false]) w
end rules
def byteAt (s:ByteArray) (j:Nat):Int:=((s.get! j).toNat:Nat)
theorem byteAt_get {s:ByteArray} {j:Nat} (h:j < s.size):((s[j].toNat:Nat):Int)=byteAt s j:=by
 unfold byteAt
 congr 2
 obtain ⟨bs⟩:=s
 show bs[j]=bs[j]!
 exact (getElem!_pos bs j h).symm
def okAt (s:ByteArray) (j:Nat):Bool:=isL (byteAt s j) || (decide (j≠0) && (isD (byteAt s j) || byteAt s j == 95))
def nameB (s:ByteArray):Bool:=decide (1≤s.size) && (decide (s.size≤24) && (List.range s.size).all (okAt s))
theorem name_no {s:ByteArray} {j:Nat} (h:j < s.size) (hb:okAt s j=false):nameB s=false:=by
 have:(List.range s.size).all (okAt s)=false:=by
  rw [List.all_eq_false]
  exact ⟨j,by simpa using h,by simp [hb]⟩
 simp [nameB,this]
theorem name_yes {s:ByteArray} (h1:1≤s.size) (h2:s.size≤24) (h:∀ j,j < s.size→okAt s j=true):nameB s=true:=by
 have:(List.range s.size).all (okAt s)=true:=by
  rw [List.all_eq_true]
  exact fun j hj=>h j (by simpa using hj)
 simp [nameB,this,h1,h2]
theorem decode_low {s:ByteArray} {p:Nat} (h:byteAt s p < 128):Utf8.decode s p=((s.get! p).toNat,1):=by
 have h':(s.get! p).toNat < 128:=by unfold byteAt at h;omega
 unfold Utf8.decode
 simp only [Nat.add_zero]
 rw [if_pos h']
theorem decode_high {s:ByteArray} {p:Nat} (h:¬ byteAt s p < 128):128≤(Utf8.decode s p).1:=by
  have h':¬ (s.get! p).toNat < 128:=by unfold byteAt at h;omega
  unfold Utf8.decode
  simp only [Nat.add_zero]
  rw [if_neg h']
  split
  · split
    · rename_i hc;exact hc
    · show 128≤Utf8.runeError;decide
  · split
    · split
      · rename_i hc;simp only [Bool.and_eq_true,decide_eq_true_eq] at hc;have:=hc.1;show 128≤_;omega
      · show 128≤Utf8.runeError;decide
    · split
      · split
        · rename_i hc;simp only [Bool.and_eq_true,decide_eq_true_eq] at hc;have:=hc.1;show 128≤_;omega
        · show 128≤Utf8.runeError;decide
      · show 128≤Utf8.runeError;decide
theorem u9:Tryz.prog.underlying 9=some .string:=by kernel_rfl
theorem str_empty (s:ByteArray):(s.toList == (⟨#[]⟩:ByteArray).toList)=decide (s.size=0):=by
 rw [ByteArray.toList_eq,ByteArray.toList_eq]
 obtain ⟨⟨l⟩⟩:=s
 cases l with
 | nil=>rfl
 | cons b l=>rfl
theorem rune_same (s:ByteArray) (p:Nat):isL ((Utf8.decode s p).1:Nat)=isL (byteAt s p)∧isD ((Utf8.decode s p).1:Nat)=isD (byteAt s p)∧((((Utf8.decode s p).1:Nat):Int) == 95)=(byteAt s p == 95)∧(okAt s p=true→(Utf8.decode s p).2=1):=by
 by_cases h:byteAt s p < 128
 ·rw [decode_low h]
  exact ⟨rfl,rfl,rfl,fun _=>rfl⟩
 ·have h1:=decode_high h
  have e1:∀ c:Int,128≤c→isL c=false:=by intro c hc;simp [isL];omega
  have e2:∀ c:Int,128≤c→isD c=false:=by intro c hc;simp [isD];omega
  have e3:∀ c:Int,128≤c→(c == 95)=false:=by intro c hc;simp;omega
  refine ⟨by rw [e1 _ (by omega),e1 _ (by omega)],by rw [e2 _ (by omega),e2 _ (by omega)],by rw [e3 _ (by omega),e3 _ (by omega)],fun ho=>?_⟩
  unfold okAt at ho
  rw [e1 _ (by omega),e2 _ (by omega),e3 _ (by omega)] at ho
  simp at ho
set_option maxRecDepth 100000 in
set_option maxHeartbeats 1000000 in
theorem k16 (H:Has tp) (s:ByteArray) (h:TH) (f:Free0 h.next h):CallW Tryz.prog tp (.func (.func 131) #[] #[]) #[.string s] h fun v h'=>v=.bool (nameB s)∧HX h h':=by
  refine CallW.full (H.fn 131 f16 rfl rfl) rfl ?_
  refine W.seq (W.reg (WO.as rfl (WO.nil ?_)))
  refine W.seq (W.seq (W.reg (WO.mv rfl (WO.eqs rfl rfl ?_))))
  rw [str_empty]
  by_cases hs:s.size=0
  · rw [decide_eq_true hs]
    repeat' (first
    | refine WO.mv rfl ?_ | refine WO.as rfl ?_ | refine WO.bi rfl rfl rfl ?_
    | refine WO.nil ?_
    | refine W.seq ?_ | refine W.reg ?_ | refine W.ret ?_ | refine W.skip ?_ | refine W.exit ?_ | refine W.block ?_
    | refine WO.nt rfl ?_
    | with_reducible refine OnB.yes ?_ | with_reducible refine OnB.no ?_ | with_reducible refine OnB.way (fun hb=>?_) (fun hb=>?_)
    | refine WO.gu rfl rfl ?_ | refine WO.gt rfl rfl ?_ | refine WO.gf rfl rfl ?_
    | refine WO.pk rfl rfl rfl ?_
    | refine W.cd rfl ?_)
    refine ⟨.inr rfl,_,rfl,?_,HX.refl h⟩
    show Value.bool _=Value.bool _
    simp [nameB,hs]
  rw [decide_eq_false hs]
  repeat' (first
    | refine WO.mv rfl ?_ | refine WO.as rfl ?_ | refine WO.bi rfl rfl rfl ?_
    | refine WO.nil ?_
    | refine W.seq ?_ | refine W.reg ?_ | refine W.ret ?_ | refine W.skip ?_ | refine W.exit ?_ | refine W.block ?_
    | refine WO.nt rfl ?_
    | (refine WO.lenS rfl u9 ?_)
    | with_reducible refine OnB.yes ?_ | with_reducible refine OnB.no ?_ | with_reducible refine OnB.way (fun hb=>?_) (fun hb=>?_)
    | refine WO.gu rfl rfl ?_ | refine WO.gt rfl rfl ?_ | refine WO.gf rfl rfl ?_
    | refine WO.pk rfl rfl rfl ?_
    | refine W.cd rfl ?_)
  · refine ⟨.inr rfl,_,rfl,?_,HX.refl h⟩
    show Value.bool _=Value.bool _
    have : ¬ s.size ≤ 24 := by have : (24 : Int) < s.size := by simpa using hb
                               omega
    simp [nameB,this]
  have h24 : s.size ≤ 24 := by have : (s.size : Int) ≤ 24 := by simpa using hb
                               omega
  refine WO.rng rfl u9 (WO.nil ?_)
  refine W.block (W.loop (fun k a h1=>∃ p:Nat,p≤s.size∧k=s.size - p∧HX h h1∧h.next < h1.next∧h1.get h.next=some (.iter s p)∧(∀ j,j < p→okAt s j=true)∧Full 34 a∧Tr.get a 13=some (.pointer (some ⟨h.next,0,none⟩)))
    ?_ s.size _ _ ⟨0,by omega,by omega,HX.new h _,Nat.lt_succ_self _,TH.get_self _ _,fun j hj=>by omega,(by repeat (first | with_reducible refine Full.put ?_ (by decide) _ | with_reducible refine Full.putn ?_ _ | with_reducible exact Full.of _ _ rfl | with_reducible exact Full.start _ _ (Nat.le_of_ble_eq_true rfl) | exact Full.start _ _ (Nat.le_of_ble_eq_true rfl))),rfl⟩)
  rintro k a h1 ⟨p,hp,rfl,hx,hnx,hg,hok,hf,i13⟩
  (obtain ⟨rl0,hrl0,rfl⟩:=hf;obtain ⟨s0,s1,s2,s3,s4,s5,s6,s7,rl1,rfl,hrl1⟩:=cons8 hrl0;obtain ⟨s8,s9,s10,s11,s12,s13,s14,s15,rl2,rfl,hrl2⟩:=cons8 hrl1;obtain ⟨s16,s17,s18,s19,s20,s21,s22,s23,rl3,rfl,hrl3⟩:=cons8 hrl2;obtain ⟨s24,s25,s26,s27,s28,s29,s30,s31,rl4,rfl,hrl4⟩:=cons8 hrl3;obtain ⟨s32,rl5,rfl,hrl5⟩:=cons_of hrl4;obtain ⟨s33,rl6,rfl,hrl6⟩:=cons_of hrl5;obtain rfl:=nil_of hrl6;clear hrl0 hrl1 hrl2 hrl3 hrl4 hrl5 hrl6;obtain rfl:s13=_:=Option.some.inj (show some s13=some _ from i13);clear i13)
  by_cases hlt:p < s.size
  · refine W.seq (W.reg (WO.nxt rfl hg hlt ((f.hx hx).put (Nat.le_refl _) hnx) (WO.ex rfl rfl (WO.nil ?_))))
    have hg2:(h1.upd h.next (.iter s (p+(Utf8.decode s p).2))).get h.next=_:=(TH.get_upd _ _ _ _).trans (if_pos rfl)
    have hx2:=hx.upd (Nat.le_refl _) (.iter s (p+(Utf8.decode s p).2))
    have hnx2:h.next < (h1.upd h.next (.iter s (p+(Utf8.decode s p).2))).next:=hnx
    generalize h1.upd h.next (.iter s (p+(Utf8.decode s p).2))=h2 at hg2 hx2 hnx2
    obtain ⟨r1,r2,r3,r4⟩:=rune_same s p
    generalize (((Utf8.decode s p).1:Nat):Int)=c at r1 r2 r3
    refine W.seq (W.cd rfl (OnB.yes (W.skip ?_)))
    refine W.block (W.seq (W.reg (WO.ex rfl rfl (WO.ex rfl rfl (WO.as rfl (WO.as rfl (WO.nil ?_)))))))
    have hokc:okAt s p=(isL c || (decide (p≠0) && (isD c || c == 95))):=by unfold okAt;rw [r1,r2,r3]
    have no:okAt s p=false→nameB s=false:=name_no hlt
    have yes:okAt s p=true→∃ j,j < s.size - p∧∃ q:Nat,q≤s.size∧j=s.size - q∧HX h h2∧h.next < h2.next∧h2.get h.next=some (.iter s q)∧(∀ j,j < q→okAt s j=true):=fun ho=>by
      rw [r4 ho] at hg2
      exact ⟨s.size - (p+1),by omega,p+1,by omega,rfl,hx2,hnx2,hg2,fun j hj=>by
        by_cases e:j=p
        · subst e;exact ho
        · exact hok j (by omega)⟩
    repeat' (first
    | refine WO.mv rfl ?_ | refine WO.as rfl ?_ | refine WO.bi rfl rfl rfl ?_
    | refine WO.nil ?_
    | refine W.seq ?_ | refine W.reg ?_ | refine W.ret ?_ | refine W.skip ?_ | refine W.exit ?_ | refine W.block ?_
    | refine WO.nt rfl ?_
    | (refine WO.cl1 rfl rfl ?_;refine (k73 H _ _).mono ?_;rintro v h2 ⟨rfl,rfl⟩)
    | (refine WO.cl1 rfl rfl ?_;refine (k74 H _ _).mono ?_;rintro v h2 ⟨rfl,rfl⟩)
    | with_reducible refine OnB.yes ?_ | with_reducible refine OnB.no ?_ | with_reducible refine OnB.way (fun hb=>?_) (fun hb=>?_)
    | refine WO.gu rfl rfl ?_ | refine WO.gt rfl rfl ?_ | refine WO.gf rfl rfl ?_
    | refine WO.pk rfl rfl rfl ?_
    | refine W.cd rfl ?_)
    all_goals first
      | (refine ⟨.inr rfl,_,rfl,?_,hx2⟩
         show Value.bool _=Value.bool _
         rw [no (by rw [hokc];clear no yes r1 r2 r3 r4 hok hokc hg hg2 hs h24 hx hx2 hnx hnx2;simp_all)])
      | (obtain ⟨j,j1,q,q1,q2,q3,q4,q5,q6⟩:=yes (by rw [hokc];clear no yes r1 r2 r3 r4 hok hokc hg hg2 hs h24 hx hx2 hnx hnx2;simp_all)
         exact ⟨j,j1,q,q1,q2,q3,q4,q5,q6,(by repeat (first | with_reducible refine Full.put ?_ (by decide) _ | with_reducible refine Full.putn ?_ _ | with_reducible exact Full.of _ _ rfl | with_reducible exact Full.start _ _ (Nat.le_of_ble_eq_true rfl) | exact Full.start _ _ (Nat.le_of_ble_eq_true rfl))),rfl⟩)
  · refine W.seq (W.reg (WO.nxe rfl hg hlt (WO.ex rfl rfl (WO.nil ?_))))
    refine W.seq (W.cd rfl (OnB.no (W.exit ?_)))
    refine W.seq (W.reg (WO.as rfl (WO.nil (W.ret ?_))))
    refine ⟨.inr rfl,_,rfl,?_,hx⟩
    show Value.bool _=Value.bool _
    rw [name_yes (by omega) h24 fun j hj=>hok j (by omega)]
end Go.Tidy
namespace Go.Tidy
open Go Go.Proofs Tab
variable {tp:TProg}
set_option maxRecDepth 100000 in
set_option maxHeartbeats 1000000 in
theorem k17 (H:Has tp) (s:ByteArray) (h:TH):CallW Tryz.prog tp (.func (.func 134) #[] #[]) #[.string s] h fun v h'=>v=.bool (nameB s)∧h'=h:=by
  refine CallW.full (H.fn 134 f17 rfl rfl) rfl ?_
  refine W.seq (W.reg (WO.as rfl (WO.nil ?_)))
  refine W.seq (W.seq (W.reg (WO.mv rfl (WO.lenS rfl u9 (WO.bi rfl rfl rfl ?_)))))
  by_cases hs:s.size=0
  · have hd:((s.size:Int) == 0)=true:=by simp [hs]
    rw [hd]
    repeat' (first
    | refine WO.mv rfl ?_ | refine WO.as rfl ?_ | refine WO.bi rfl rfl rfl ?_
    | refine WO.nil ?_
    | refine W.seq ?_ | refine W.reg ?_ | refine W.ret ?_ | refine W.skip ?_ | refine W.exit ?_ | refine W.block ?_
    | refine WO.nt rfl ?_
    | with_reducible refine OnB.yes ?_ | with_reducible refine OnB.no ?_ | with_reducible refine OnB.way (fun hb=>?_) (fun hb=>?_)
    | refine WO.gu rfl rfl ?_ | refine WO.gt rfl rfl ?_ | refine WO.gf rfl rfl ?_
    | refine WO.pk rfl rfl rfl ?_
    | refine W.cd rfl ?_)
    refine ⟨.inr rfl,_,rfl,?_,rfl⟩
    show Value.bool _=Value.bool _
    simp [nameB,hs]
  have hd:((s.size:Int) == 0)=false:=by simp only [beq_eq_false_iff_ne,ne_eq];omega
  rw [hd]
  by_cases h24:s.size≤24
  rotate_left
  · repeat' (first
    | refine WO.mv rfl ?_ | refine WO.as rfl ?_ | refine WO.bi rfl rfl rfl ?_
    | refine WO.nil ?_
    | refine W.seq ?_ | refine W.reg ?_ | refine W.ret ?_ | refine W.skip ?_ | refine W.exit ?_ | refine W.block ?_
    | refine WO.nt rfl ?_
    | (refine WO.lenS rfl u9 ?_)
    | with_reducible refine OnB.yes ?_ | with_reducible refine OnB.no ?_ | with_reducible refine OnB.way (fun hb=>?_) (fun hb=>?_)
    | refine WO.gu rfl rfl ?_ | refine WO.gt rfl rfl ?_ | refine WO.gf rfl rfl ?_
    | refine WO.pk rfl rfl rfl ?_
    | refine W.cd rfl ?_)
    · refine ⟨.inr rfl,_,rfl,?_,rfl⟩
      show Value.bool _=Value.bool _
      simp [nameB,h24]
    all_goals (have:(s.size:Int)≤24:=by simpa using hb
               omega)
  have hd2:decide ((s.size:Int) > 24)=false:=by simp;omega
  refine WO.mv rfl (WO.gf rfl rfl (OnB.no (WO.mv rfl (WO.gf rfl rfl (OnB.no (WO.lenS rfl u9 (WO.gf rfl rfl (OnB.no (WO.bi rfl rfl rfl ?_)))))))))
  rw [hd2]
  repeat' (first
    | refine WO.mv rfl ?_ | refine WO.as rfl ?_ | refine WO.bi rfl rfl rfl ?_
    | refine WO.nil ?_
    | refine W.seq ?_ | refine W.reg ?_ | refine W.ret ?_ | refine W.skip ?_ | refine W.exit ?_ | refine W.block ?_
    | refine WO.nt rfl ?_
    | (refine WO.lenS rfl u9 ?_)
    | (refine WO.si (j:=0) rfl rfl u9 (by omega) ?_;rw [byteAt_get])
    | (refine WO.cl1 rfl rfl ?_;refine (k75 H _ _).mono ?_;rintro v h ⟨rfl,rfl⟩)
    | with_reducible refine OnB.yes ?_ | with_reducible refine OnB.no ?_ | with_reducible refine OnB.way (fun hb=>?_) (fun hb=>?_)
    | refine WO.gu rfl rfl ?_ | refine WO.gt rfl rfl ?_ | refine WO.gf rfl rfl ?_
    | refine WO.pk rfl rfl rfl ?_
    | refine W.cd rfl ?_)
  · refine ⟨.inr rfl,_,rfl,?_,rfl⟩
    show Value.bool _=Value.bool _
    rw [name_no (j:=0) (by omega) (by unfold okAt;simpa using hb)]
  have h0:okAt s 0=true:=by unfold okAt;simpa using hb
  refine (W.loop (fun k a h1 => h1 = h ∧ ∃ p : Nat, 1 ≤ p ∧ p ≤ s.size ∧ k = s.size - p ∧ (∀ j, j < p → okAt s j = true) ∧ Full 42 a ∧ Tr.get a 0 = some (.string s) ∧ Tr.get a 3 = some (.int .i64 (p : Nat)))
    ?_ (s.size - 1) _ h ⟨rfl, 1, by omega, by omega, rfl, fun j hj => by obtain rfl : j = 0 := by omega
                                                                         exact h0,(by repeat (first | with_reducible refine Full.put ?_ (by decide) _ | with_reducible refine Full.putn ?_ _ | with_reducible exact Full.of _ _ rfl | with_reducible exact Full.start _ _ (Nat.le_of_ble_eq_true rfl) | exact Full.start _ _ (Nat.le_of_ble_eq_true rfl))),rfl,rfl⟩)
  clear hb
  rintro k a h1 ⟨rfl,p,hp1,hp,rfl,hok,hf,i0,i3⟩
  (obtain ⟨rl0,hrl0,rfl⟩:=hf;obtain ⟨s0,s1,s2,s3,s4,s5,s6,s7,rl1,rfl,hrl1⟩:=cons8 hrl0;obtain ⟨s8,s9,s10,s11,s12,s13,s14,s15,rl2,rfl,hrl2⟩:=cons8 hrl1;obtain ⟨s16,s17,s18,s19,s20,s21,s22,s23,rl3,rfl,hrl3⟩:=cons8 hrl2;obtain ⟨s24,s25,s26,s27,s28,s29,s30,s31,rl4,rfl,hrl4⟩:=cons8 hrl3;obtain ⟨s32,s33,s34,s35,s36,s37,s38,s39,rl5,rfl,hrl5⟩:=cons8 hrl4;obtain ⟨s40,rl6,rfl,hrl6⟩:=cons_of hrl5;obtain ⟨s41,rl7,rfl,hrl7⟩:=cons_of hrl6;obtain rfl:=nil_of hrl7;clear hrl0 hrl1 hrl2 hrl3 hrl4 hrl5 hrl6 hrl7;obtain rfl:s0=_:=Option.some.inj (show some s0=some _ from i0);clear i0;obtain rfl:s3=_:=Option.some.inj (show some s3=some _ from i3);clear i3)
  refine W.seq (W.seq (W.reg (WO.mv rfl (WO.mv rfl (WO.lenS rfl u9 (WO.bi rfl rfl rfl (WO.nil ?_)))))))
  refine W.cd rfl ?_
  by_cases hlt:p < s.size
  · have hd3:decide ((p:Int) < (s.size:Int))=true:=by simpa using hlt
    rw [hd3]
    refine OnB.yes (W.skip ?_)
    refine W.seq (W.block (W.seq (W.reg ?_)))
    have hokc:okAt s p=(isL (byteAt s p) || (isD (byteAt s p) || byteAt s p == 95)):=by
      unfold okAt
      have:decide (p≠0)=true:=by simp;omega
      rw [this,Bool.true_and]
    repeat' (first
    | refine WO.mv rfl ?_ | refine WO.as rfl ?_ | refine WO.bi rfl rfl rfl ?_
    | refine WO.nil ?_
    | refine W.seq ?_ | refine W.reg ?_ | refine W.ret ?_ | refine W.skip ?_ | refine W.exit ?_ | refine W.block ?_
    | refine WO.nt rfl ?_
    | (refine WO.si (j:=p) rfl rfl u9 hlt ?_;rw [byteAt_get])
    | (refine WO.cl1 rfl rfl ?_;refine (k75 H _ _).mono ?_;rintro v h1 ⟨rfl,rfl⟩)
    | (refine WO.cl1 rfl rfl ?_;refine (k76 H _ _).mono ?_;rintro v h1 ⟨rfl,rfl⟩)
    | with_reducible refine OnB.yes ?_ | with_reducible refine OnB.no ?_ | with_reducible refine OnB.way (fun hb=>?_) (fun hb=>?_)
    | refine WO.gu rfl rfl ?_ | refine WO.gt rfl rfl ?_ | refine WO.gf rfl rfl ?_
    | refine WO.pk rfl rfl rfl ?_
    | refine W.cd rfl ?_)
    all_goals first
      | (refine ⟨.inr rfl,_,rfl,?_,rfl⟩
         show Value.bool _=Value.bool _
         rw [name_no hlt (by rw [hokc];clear hok hokc hs hd hd2 h0 h24 hd3;simp_all)])
      | (have hy:okAt s p=true:=by rw [hokc];clear hok hokc hs hd hd2 h0 h24 hd3;simp_all
         exact ⟨s.size - (p+1),by omega,rfl,p+1,by omega,by omega,rfl,fun j hj=>by
           by_cases e:j=p
           · subst e;exact hy
           · exact hok j (by omega),(by repeat (first | with_reducible refine Full.put ?_ (by decide) _ | with_reducible refine Full.putn ?_ _ | with_reducible exact Full.of _ _ rfl | with_reducible exact Full.start _ _ (Nat.le_of_ble_eq_true rfl) | exact Full.start _ _ (Nat.le_of_ble_eq_true rfl))),rfl,by show some (Value.int .i64 (fwrap .i64 ((p:Int)+1)))=_;rw [fwrap_i64 (by omega) (by omega)];rfl⟩)
  · have hd3:decide ((p:Int) < (s.size:Int))=false:=by simpa using hlt
    rw [hd3]
    refine OnB.no (W.exit ?_)
    refine W.seq (W.reg (WO.as rfl (WO.nil (W.ret ?_))))
    refine ⟨.inr rfl,_,rfl,?_,rfl⟩
    show Value.bool _=Value.bool _
    rw [name_yes (by omega) h24 fun j hj=>hok j (by omega)]
end Go.Tidy
namespace Go.Tidy
open Go Go.Proofs Tab
variable {tp:TProg}
theorem shift4 {a m m' k k' E:Nat} (h:m'*2 ^ k'=m*2 ^ (a+k)) (hE:2 ^ a=E):m'*2 ^ (k'+4)=m*2 ^ (k+4)*E:=by
 rw [Nat.pow_add 2 k' 4,← Nat.mul_assoc,h,Nat.pow_add 2 a k,hE,Nat.pow_add 2 k 4]
 generalize (2:Nat) ^ k=K
 generalize (2:Nat) ^ 4=F
 rw [Nat.mul_comm E K,← Nat.mul_assoc,← Nat.mul_assoc,Nat.mul_right_comm]
theorem w16 {b m k E:Nat} {neg:Bool} (N:N32 b neg m k) (hE:2 ^ 925=E):∃ c,Ieee.double.mul 4625196817309499392 (Ieee.double.nearest neg m (-149+k))=some c∧N64 c neg (m*2 ^ (k+4)*E):=by
 have e:((-149:Int)+(k:Int) - Ieee.double.leastPlace).toNat=925+k:=by rw [lp64];omega
 obtain ⟨m',k',r1,r2,r3,r4⟩:=read_nearest Ieee.double neg m (-149+k) (by have:=N.hm;show m < 2 ^ 53;omega) (by rw [lp64];omega) (by rw [e];have:=N.hk;show 925+k+3≤2 ^ 11;omega)
 rw [e] at r2 r4
 rw [lp64] at r1
 have:=N.hk
 obtain ⟨c,c1,c2⟩:=mul16 r1 r3 (by omega)
 refine ⟨c,c1,?_⟩
 rw [← shift4 r2 hE]
 exact c2
def okD (D u:Nat):Bool:=decide (u≤16384*D) && decide (u / D*D=u)
def okU (u:Nat):Bool:=okD (2 ^ 149) u
theorem okU_eq {D:Nat} (hD:2 ^ 149=D) (u:Nat):okU u=okD D u:=by rw [← hD];rfl
inductive SampleE (b:Nat):Int→Prop
 | nan (h:nanB .f32 b=true):SampleE b 1
 | inf (s:Bool) (h:Ieee.single.read b=.infinity s):SampleE b 1
 | num (neg:Bool) (m k:Nat) (h:N32 b neg m k):SampleE b (cond (okU (m*2 ^ (k+4))) 0 3)
end Go.Tidy
namespace Go.Tidy
open Go Go.Proofs Tab
variable {tp:TProg}
structure V32 (b:Nat) (neg:Bool) (q:Nat):Prop where
 ok:∃ m k:Nat,Ieee.single.read b=.number neg m (-149+k)∧m*2 ^ k=q∧k≤253
theorem V32.nan {b:Nat} {neg:Bool} {q:Nat} (h:V32 b neg q):nanB .f32 b=false:=by
 obtain ⟨m,k,h1,_⟩:=h.ok
 exact not_nan (k:=.f32) h1
theorem V32.order {b c:Nat} {s t:Bool} {q r:Nat} (h:V32 b s q) (g:V32 c t r):Ieee.single.order b c=some (compare (sg s q) (sg t r)):=by
 obtain ⟨m,k,h1,h2,_⟩:=h.ok
 obtain ⟨n,j,g1,g2,_⟩:=g.ok
 unfold Ieee.Format.order
 rw [h1,g1,order_num,h2,g2]
theorem near32 {neg:Bool} {m k:Nat} (hm:m < 2 ^ 24) (e:Int) (he:e=-149+k) (hk:k≤253):V32 (Ieee.single.nearest neg m e) neg (m*2 ^ k):=by
 subst he
 have e1:((-149:Int)+(k:Int) - Ieee.single.leastPlace).toNat=k:=by rw [lp32];omega
 obtain ⟨m',k',r1,r2,r3,r4⟩:=read_nearest Ieee.single neg m (-149+k) hm (by rw [lp32];omega) (by rw [e1];show k+3≤2 ^ 8;omega)
 rw [e1] at r2 r4
 rw [lp32] at r1
 exact ⟨m',k',r1,r2,by omega⟩
theorem read16':Ieee.single.read 1098907648=.number false 8388608 (-19):=by decide
theorem one32 {s:Bool} {D:Nat} (hD:2 ^ 149=D) (n:Nat) (hn:n < 2 ^ 24):V32 (Ieee.single.nearest s n 0) s (n*D):=by
 rw [← hD]
 exact near32 hn 0 (by omega) (by omega)
theorem nearest_int (n:Int):FloatKind.f32.nearest n=Ieee.single.nearest (decide (n < 0)) n.natAbs 0:=rfl
end Go.Tidy
namespace Go.Tidy
open Go Go.Proofs Tab
variable {tp:TProg}
section rules
variable {P:Program} {a:Regs} {h:TH} {K:Regs→TH→Prop} {rest:List TOper} {d:Option Tmp} {ty:TypeId} {i:Nat} {x y:Operand} {t u:TypeId}
end rules
theorem Free0.up {n m:Nat} {h:TH} (f:Free0 n h) (hm:n≤m):Free0 m h:=⟨Nat.le_trans f.floor hm,fun l hl=>Nat.lt_of_lt_of_le (f.lock l hl) hm⟩
structure Awk (tp:TProg):Prop where
 no:tp.fn 9=none
 e:∃ e,tp.ext 9=some e∧e []=some (.bool true)
end Go.Tidy
namespace Go.Tidy
open Go Go.Proofs Tab
theorem h0_get {e1 e2:TypeId} {b:Nat} {x:TB} (h:(A11.h0 e1 e2).get b=some x):(b=0∧x=.cells signsL true false e1)∨(b=1∧x=.cells powsL true false e2):=by
 have e:A11.t0 e1 e2=(Tr.set (Tr.set .nil 0 (TB.cells signsL true false e1)) 1 (TB.cells powsL true false e2)):=rfl
 replace h:(A11.t0 e1 e2).get b=some x:=h
 rw [e,Tr.get_set,Tr.get_set,Tr.get_nil] at h
 by_cases q1:b=1
 ·rw [if_pos q1] at h
  exact .inr (⟨q1,(Option.some.inj h).symm⟩)
 rw [if_neg q1] at h
 by_cases q0:b=0
 ·rw [if_pos q0] at h
  exact .inl ⟨q0,(Option.some.inj h).symm⟩
 rw [if_neg q0] at h
 cases h
theorem base_ok (e1 e2:TypeId):BaseOk (envQ (A11.h0 e1 e2)) (A11.h0 e1 e2) where
  B:=rfl
  wf:=fun b x hx=>by
    show b < 6
    rcases h0_get hx with ⟨rfl,_⟩ | ⟨rfl,_⟩ <;> decide
  floor:=rfl
  G:=fun g hg=>by
    have:g ∈ [0,1]:=hg
    simp only [List.mem_cons,List.not_mem_nil,or_false] at this
    rcases this with rfl | rfl
    · exact ⟨.cells signsL true false e1,rfl⟩
    · exact ⟨.cells powsL true false e2,rfl⟩
  plain:=fun b x hx=>by
    rcases h0_get hx with ⟨_,rfl⟩ | ⟨_,rfl⟩
    · exact ⟨_,_,rfl,rfl⟩
    · exact ⟨_,_,rfl,rfl⟩
def awk:List Value→Option Value | []=>some (.bool true) | _=>none
def tpE:TProg:=tpQ.know 9 awk
theorem tpE_ok (e1 e2:TypeId):TpOk (envQ (A11.h0 e1 e2)) tpE :=
 TpOk.know (base_ok e1 e2) mixQ (fun _ _ _=>Iff.rfl) (tpQ_ok _) A11.fn11 (fun l v _ he _=>by
  have:l=#[]:=by
   cases h:l.toList with
   | nil=>simpa using h
   | cons x r=>rw [h] at he;cases he
  subst this
  cases he
  obtain ⟨g,hg⟩:=A11.run e1 e2
  exact ⟨_,g,hg⟩)
theorem hasE:Has tpE:=⟨fun k f hk hb=>by
 show cond (Nat.beq k 9) none (tpQ.fn k)=some f
 rw [hb];exact hk⟩
theorem awkE:Awk tpE:=⟨rfl,awk,rfl,rfl⟩
def emb0:Emb:=fun b=>cond (Nat.beq b 0 || Nat.beq b 1) (some ⟨b,0,none⟩) none
theorem good0 {W:World} {e1 e2:TypeId} {z1 z2:Nat × Nat} (h1:W.heap[0]?=some (.cells signsL.toArray e1 z1)) (h2:W.heap[1]?=some (.cells powsL.toArray e2 z2)):Good (envQ (A11.h0 e1 e2)) emb0 (A11.h0 e1 e2) W where
  rel:=fun b x e hx he=>by
    rcases h0_get hx with ⟨rfl,rfl⟩ | ⟨rfl,rfl⟩
    · cases he
      refine ⟨_,_,h1,⟨rfl,fun h=>by cases h⟩,Nat.le_refl _,fun i v hv=>⟨v,?_,plain0_refl ?_⟩,fun h=>by cases h⟩
      · simpa using hv
      · exact List.all_eq_true.1 (show signsL.all plain0=true from rfl) v (List.mem_of_getElem? hv)
    · cases he
      refine ⟨_,_,h2,⟨rfl,fun h=>by cases h⟩,Nat.le_refl _,fun i v hv=>⟨v,?_,plain0_refl ?_⟩,fun h=>by cases h⟩
      · simpa using hv
      · exact List.all_eq_true.1 (show powsL.all plain0=true from rfl) v (List.mem_of_getElem? hv)
  inj:=fun b b' e e' ⟨x,hx,_⟩ ⟨x',hx',_⟩ he he' hq=>by
    rcases h0_get hx with ⟨rfl,_⟩ | ⟨rfl,_⟩ <;> rcases h0_get hx' with ⟨rfl,_⟩ | ⟨rfl,_⟩ <;> cases he <;> cases he' <;> first | exact .inl rfl | cases hq
  wf:=(base_ok e1 e2).wf
  fr:=fun b hb=>by
    have hb':6≤b:=hb
    show cond (Nat.beq b 0 || Nat.beq b 1) _ _=none
    have a0:Nat.beq b 0=false:=by rw [← Bool.not_eq_true,Nat.beq_eq];omega
    have a1:Nat.beq b 1=false:=by rw [← Bool.not_eq_true,Nat.beq_eq];omega
    rw [a0,a1];rfl
  glob:=fun g hg=>by
    have:g ∈ [0,1]:=hg
    simp only [List.mem_cons,List.not_mem_nil,or_false] at this
    rcases this with rfl | rfl
    · exact ⟨_,rfl,rfl,rfl⟩
    · exact ⟨_,rfl,rfl,rfl⟩
  base:=fun g x hx=>⟨hx,(base_ok e1 e2).wf g x hx⟩
theorem laid0 {W:World} {e1 e2:TypeId} {z1 z2:Nat × Nat} (h1:W.heap[0]?=some (.cells signsL.toArray e1 z1)) (h2:W.heap[1]?=some (.cells powsL.toArray e2 z2)):Laid (envQ (A11.h0 e1 e2)) emb0 (A11.h0 e1 e2) W where
 good:=good0 h1 h2
 still:=fun b x hx=>by rcases h0_get hx with ⟨_,rfl⟩ | ⟨_,rfl⟩ <;> rfl
 floor:=rfl
theorem trodAll_after {H:Type} {enc:TypeId × Value→H} {P:Program} {m:Nat} {w w':World} {sp:Nat→Bool}:∀ {ts:List TypeId} {vs:List Value} {ds:List (DataW H)} {pl:List MemPlace},(∀ t,t ∈ ts→simple P m t=true)→DataW.TrodAll enc P w 0 (fun _=>true) true ts vs ds pl →
  (∀ p ∈ pl,sp p.block=true)→(∀ p ∈ pl,w.sameAt w' p)→DataW.TrodAll enc P w' 0 sp true ts vs ds pl
 | [],[],[],_,_,h,_,_=>h
 | t::ts,v::vs,d::ds,pl,hs,⟨p,q,⟨n,h1⟩,h2,e⟩,hp,hw=>by
  subst e
  refine ⟨p,q,⟨n,?_⟩,trodAll_after (fun t ht=>hs t (by simp [ht])) h2 (fun x hx=>hp x (by simp [hx])) (fun x hx=>hw x (by simp [hx])),rfl⟩
  exact DataW.trod_carry _ _ _ _ (trod_sp _ _ _ _ _ (hs t (by simp)) h1 fun x hx=>hp x (by simp;exact .inl hx)) fun x hx=>hw x (by simp;exact .inl hx)
def Law (tp:TProg) (k m:Nat) (ts:List TypeId):Prop :=
 ∀ (h:TH) (us:List Value),Free0 h.next h→Args Tryz.prog h m ts us→CallW Tryz.prog tp (.func (.func k) #[] #[]) us.toArray h fun v _=>v=.bool true
def Glob (h:TH):Prop:=∃ e1 e2:TypeId,∀ b x,(A11.h0 e1 e2).get b=some x→At h b x
theorem Glob.hx {h h':TH} (G:Glob h) (x:HX h h'):Glob h':=by
 obtain ⟨e1,e2,q⟩:=G
 exact ⟨e1,e2,fun b y g=>(q b y g).hx x⟩
def LawG (tp:TProg) (k m:Nat) (ts:List TypeId):Prop :=
 ∀ (h:TH) (us:List Value),Free0 h.next h→Glob h→Args Tryz.prog h m ts us→CallW Tryz.prog tp (.func (.func k) #[] #[]) us.toArray h fun v _=>v=.bool true
theorem Law.g {tp:TProg} {k m:Nat} {ts:List TypeId} (L:Law tp k m ts):LawG tp k m ts:=fun h us f _ a=>L h us f a
set_option maxRecDepth 100000 in
theorem law_run {H:Type} {enc:TypeId × Value→H} {k m:Nat} {ts:List TypeId} {f:TFun} (hf:tpE.fn k=some f) (hs:ts.all (simple Tryz.prog m)=true) (L:LawG tpE k m ts) {W:World} {e1 e2:TypeId} {z1 z2:Nat × Nat}
  (h1:W.heap[0]?=some (.cells signsL.toArray e1 z1)) (h2:W.heap[1]?=some (.cells powsL.toArray e2 z2)) {args:Array Value} {ds:List (DataW H)} {pl:List MemPlace} {base:Nat}
  (hval:∀ (j:Nat) t v,ts[j]?=some t→args[j]?=some v→Value.okWide Tryz.prog W .any base t v) (hA:DataW.TrodAll enc Tryz.prog W 0 (fun _=>true) true ts args.toList ds pl) :
  Calls Tryz.prog k args W fun e W'=>e=.returned (.bool true)∧W.keptBut W' (fun _=>False)∧DataW.TrodAll enc Tryz.prog W' 0 (fun b=>decide (b < W.heap.size)) true ts args.toList ds pl:=by
 obtain ⟨β,h,us,la,old,_,hr,ha⟩:=laid_args (m:=m) ts args.toList ds pl (fun t ht=>List.all_eq_true.1 hs t ht) hA (fun j t v q1 q2=>Value.okWide_any_base (hval j t v q1 (by simpa using q2))) (laid0 h1 h2)
 have hfree:Free0 h.next h:=⟨by rw [la.floor];exact Nat.le_refl _,fun l hl=>by
  rw [old.lock] at hl
  cases hl⟩
 have w:=L h us hfree ⟨e1,e2,fun b x hx=>⟨old.old b x hx,Nat.lt_of_lt_of_le ((base_ok e1 e2).wf b x hx) old.next⟩⟩ ha
 unfold CallW at w
 obtain ⟨n,v,h',e,rfl⟩:=w
 refine Calls.mono (calls_of (C:=envQ (A11.h0 e1 e2)) trivial mixQ (tpE_ok e1 e2) (fun _ _ _=>Iff.rfl) hf (show LRel β us.toArray.toList args.toList by simpa using hr) (e n (Nat.le_refl _)) la.good) fun e W' ⟨v',β',q1,q2,q3⟩=>?_
 cases q2
 have hk:W.keptBut W' (fun _=>False):=⟨q3.os,q3.output,fun i hi=>by
  have hk:=q3.keep i hi fun b e hf ⟨x,hx,_⟩ _ _=>by
   have:=la.good.wf b x hx
   have:=la.floor
   omega
  rw [hk]
  split
  ·rename_i a1 a2;rw [a1] at a2;cases a2;exact ⟨rfl,rfl,rfl,fun _ _=>rfl⟩
  ·rename_i a1 a2;rw [a1] at a2;cases a2;exact .inr ⟨rfl,rfl⟩
  ·rfl⟩
 have hlt:=hA.lt
 refine ⟨q1,hk,trodAll_after (fun t ht=>List.all_eq_true.1 hs t ht) hA (fun p hp=>decide_eq_true (hlt p hp)) fun p hp=>?_⟩
 have hp:=hlt p hp
 cases p with
 | cell b o=>exact hk.cell hp fun h=>h
 | map b=>exact hk.block hp fun p h=>h.elim
end Go.Tidy
namespace Go.Tidy
open Go Go.Proofs
structure Samp (b:Nat) (n:Int):Prop where
 ok:∃ neg q,V32 b neg q∧(∀ D,2 ^ 149=D→q*16=n.natAbs*D)∧sg neg n.natAbs=n
 lim:n.natAbs≤16384
theorem Samp.nan {b:Nat} {n:Int} (s:Samp b n):nanB .f32 b=false:=by
 obtain ⟨neg,q,h,_⟩:=s.ok
 exact h.nan
theorem sample_of {n:Int} (hn:n.natAbs≤16384):∃ r,Ieee.single.div (FloatKind.f32.nearest n) 1098907648=some r∧nanB .f32 (FloatKind.f32.nearest n)=false∧Samp r n:=by
 obtain ⟨D,hD⟩:∃ D:Nat,2 ^ 149=D:=⟨_,rfl⟩
 have hDp:0 < D:=by rw [← hD];exact two_pow_pos 149
 have hV:V32 (FloatKind.f32.nearest n) (decide (n < 0)) (n.natAbs*D):=by rw [nearest_int];exact one32 hD _ (by omega)
 by_cases h0:n=0
 ·subst h0
  refine ⟨0,by decide,hV.nan,⟨false,0,⟨0,0,by decide,rfl,by decide⟩,fun D _=>by simp,rfl⟩,by decide⟩
 rcases single_cases (FloatKind.f32.nearest n) with h | ⟨s',h⟩ | ⟨neg',m,k,N⟩
 ·rw [hV.nan] at h;cases h
 ·obtain ⟨m',k',r,_⟩:=hV.ok
  rw [h] at r;cases r
 obtain ⟨m',k',r1,r2,r3⟩:=hV.ok
 have r0:=r1
 rw [N.read] at r1
 simp only [Ieee.Datum.number.injEq] at r1
 obtain ⟨e2,e3,r4⟩:=r1
 subst e2 e3
 obtain rfl:k=k':=by omega
 have hm:=N.hm
 have hk4:125≤k:=by
  by_cases hk:125≤k
  ·exact hk
  ·have h1:2 ^ k≤2 ^ 124:=Nat.pow_le_pow_right (by decide) (by omega)
   have h2:m*2 ^ k≤2 ^ 24*2 ^ 124:=Nat.mul_le_mul (by omega) h1
   have h3:(2:Nat) ^ 24*2 ^ 124 < 2 ^ 149:=by decide
   have h4:D≤n.natAbs*D:=Nat.le_mul_of_pos_left _ (by omega)
   omega
 have hm0:m≠0:=fun h=>by have:=N.hz h;omega
 have hL:m.log2≤23:=by
  have:=(Nat.log2_lt hm0).2 hm
  omega
 have e1:Ieee.single.fractionBits+2+(8388608:Nat).log2 - m.log2=48 - m.log2:=by
  have:(8388608:Nat).log2=23:=by decide
  rw [this];rfl
 have e2:m <<< (48 - m.log2)=m*2 ^ (25 - m.log2)*8388608:=by
  rw [Nat.shiftLeft_eq,Nat.mul_assoc,show (8388608:Nat)=2 ^ 23 from rfl,← Nat.pow_add]
  congr 2
  omega
 refine ⟨Ieee.single.nearest (decide (n < 0)) m (-149+((k - 4:Nat):Int)),?_,hV.nan,⟨_,m*2 ^ (k - 4),near32 hm _ rfl (by omega),fun D' hD'=>?_,?_⟩,hn⟩
 ·unfold Ieee.Format.div
  rw [r0,read16']
  unfold Ieee.Datum.quotient
  have c1:¬ (8388608:Nat)=0:=by decide
  simp only [c1,if_false,e1,e2,Nat.mul_div_cancel _ (show 0 < 8388608 by decide),Nat.mul_mod_left,bne_self_eq_false,Bool.toNat_false,Nat.add_zero,Option.map_some]
  congr 1
  have e3:2*(m*2 ^ (25 - m.log2))=m*2 ^ (26 - m.log2):=by
   rw [Nat.mul_comm 2,Nat.mul_assoc,← Nat.pow_succ]
   congr 2
   omega
  rw [e3]
  have e4:(-149+(k:Int) - -19 - ((48 - m.log2:Nat):Int) - 1)+((26 - m.log2:Nat):Int)=-149+((k - 4:Nat):Int):=by omega
  have:=nearest_shift Ieee.single (decide (n < 0)) m (26 - m.log2) (-149+(k:Int) - -19 - ((48 - m.log2:Nat):Int) - 1) hm (by rw [lp32,e4];omega)
  rw [e4] at this
  rw [← this]
  show Ieee.single.nearest (decide (n < 0) ^^ false) _ _=_
  rw [Bool.xor_false]
 ·have:m*2 ^ k=m*2 ^ (k - 4)*16:=by
   rw [Nat.mul_assoc,show (16:Nat)=2 ^ 4 from rfl,← Nat.pow_add,Nat.sub_add_cancel (by omega)]
  rw [← hD',hD,← this,r2]
 ·unfold sg
  by_cases hq:n < 0
  ·rw [decide_eq_true hq,if_pos rfl];omega
  ·rw [decide_eq_false hq,if_neg (by decide)];omega
end Go.Tidy
namespace Go.Tidy
open Go Go.Proofs Tab
theorem tp3:Tp Tryz.prog 3 1 [.int .i64 0] false:=tp_of (by kernel_rfl) (by kernel_rfl) rfl
theorem tp30:Tp Tryz.prog 33 1 [.int .i64 0] false:=tp_of (by kernel_rfl) (by kernel_rfl) rfl
theorem tp9:Tp Tryz.prog 9 1 [.string ⟨#[]⟩] false:=tp_of (by kernel_rfl) (by kernel_rfl) rfl
theorem tp48:Tp Tryz.prog 87 2 [.int .i64 0,.int .i64 0] true:=tp_of (by kernel_rfl) (by kernel_rfl) rfl
theorem u44:Tryz.prog.underlying 83=some (.slice 87):=by kernel_rfl
theorem fo48_0:fieldOff Tryz.prog 87 0=some 0:=by kernel_rfl
theorem fo48_1:fieldOff Tryz.prog 87 1=some 1:=by kernel_rfl
theorem bd48 {n m:Int}:buildT Tryz.prog 87 [(0,.int .i64 n),(1,.int .i64 m)]=some (.agg #[.int .i64 n,.int .i64 m]):=by kernel_rfl
def runV (s:ByteArray) (n:Int) (v1 v2:Value):Value:=.agg #[.string s,.int .i64 n,v1,v2]
structure RunH (h:TH) (v1 v2:Value) (F:List Nat) (S:List (Int × Int)):Prop where
 f:SlL encF 1 h v1 F
 s:SlL encS 2 h v2 S
 g:Fits h v1 184
theorem RunH.hx {h h':TH} {v1 v2:Value} {F:List Nat} {S:List (Int × Int)} (r:RunH h v1 v2 F S) (x:HX h h'):RunH h' v1 v2 F S:=⟨r.f.hx x,r.s.hx x,r.g.hx x⟩
structure RunO (n0:Nat) (h:TH) (v1 v2:Value) (F:List Nat) (S:List (Int × Int)):Prop where
 r:RunH h v1 v2 F S
 o1:Above n0 v1
 o2:Above n0 v2
theorem RunO.hx {n0:Nat} {h h':TH} {v1 v2:Value} {F:List Nat} {S:List (Int × Int)} (r:RunO n0 h v1 v2 F S) (x:HX h h'):RunO n0 h' v1 v2 F S:=⟨r.r.hx x,r.o1,r.o2⟩
theorem RunO.le {n0 n1:Nat} {h:TH} {v1 v2:Value} {F:List Nat} {S:List (Int × Int)} (r:RunO n1 h v1 v2 F S) (hn:n0≤n1):RunO n0 h v1 v2 F S:=⟨r.r,r.o1.le hn,r.o2.le hn⟩
theorem Free0.next {n:Nat} {h h':TH} (f:Free0 n h) (x:HX h h') (hn:n≤h'.next):Free0 h'.next h':=⟨by rw [x.floor];have:=f.floor;omega,fun l hl=>by rw [x.lock] at hl;have:=f.lock l hl;omega⟩
theorem SlC.form {h:TH} {v:Value} {sz m:Nat} {c:List Value} (s:SlC h v sz m c):∃ bo cap,v=.slice bo m cap:=by
 obtain ⟨bo,cap,h1,_⟩:=s;exact ⟨bo,cap,h1⟩
theorem SlL.form {α:Type} {enc:α→List Value} {n:Nat} {h:TH} {v:Value} {l:List α} (s:SlL enc n h v l):∃ bo cap,v=.slice bo l.length cap:=SlC.form s
end Go.Tidy
namespace Go.Tidy
open Go Go.Proofs Go.Proofs.YtejopkplhplpgaaGreatDoor Go.ChangeShapes Go.WideShapes Go.RowKit
open Go.ChangeMaps (open_string shut_string)
theorem cells3:Tryz.prog.cellsOf 3=1:=by kernel_rfl
theorem g0 : Tryz.prog.globalNamed "versine/quality.signs" = some 0 := by kernel_rfl
theorem gt0:(Tryz.prog.globals[0]?).map (·.type)=some 238:=by kernel_rfl
theorem g1 : Tryz.prog.globalNamed "internal/strconv.uint64pow10" = some 1 := by kernel_rfl
theorem gt1:(Tryz.prog.globals[1]?).map (·.type)=some 278:=by kernel_rfl
section
variable {H:Type} {enc:TypeId × Value→H} {w:World} {base:Nat} {sp:Nat→Bool} {hd:Bool}
theorem cellsG:Tryz.prog.cellsOf 64=2:=by kernel_rfl
theorem openG {fuel:Nat} {c0 c1:Value} {x:DataW H × List MemPlace} (h:DataW.trod enc Tryz.prog w base sp hd fuel 64 [c0,c1]=some x):∃ a b:Int,c0=.int .i64 a∧c1=.int .i64 b∧x=(.agg [.lit (.int .i64 a),.lit (.int .i64 b)],[])∧(Lit.int .i64 a).wf=true∧(Lit.int .i64 b).wf=true:=by
 obtain ⟨xs,n,_,hx,hl,hn,hf⟩:=DataW.trod_array Tryz.underlying64 h
 obtain ⟨x0,x1,rfl⟩:∃ x0 x1,xs=[x0,x1]:=by
  match xs,hn with
  | [x0,x1],_=>exact ⟨x0,x1,rfl⟩
 rw [cells3] at hf
 obtain ⟨a,e0,rfl,wa⟩:=DataW.trod_int Tryz.underlying3 (show DataW.trod enc Tryz.prog w base sp hd n 3 [c0]=some x0 from hf 0 (by decide))
 obtain ⟨b,e1,rfl,wb⟩:=DataW.trod_int Tryz.underlying3 (show DataW.trod enc Tryz.prog w base sp hd n 3 [c1]=some x1 from hf 1 (by decide))
 cases e0
 cases e1
 exact ⟨a,b,rfl,rfl,hx,wa,wb⟩
theorem list8 {l:List Value} (h:l.length=8):∃ a b c d e f g i,l=[a,b,c,d,e,f,g,i]:=by
 match l,h with
 | [a,b,c,d,e,f,g,i],_=>exact ⟨a,b,c,d,e,f,g,i,rfl⟩
theorem cg0:Tryz.prog.cellsOf 238=8:=by kernel_rfl
theorem row0 {fuel:Nat} {cs:List Value} {p:List MemPlace} (h:DataW.trod enc Tryz.prog w base sp hd fuel 238 cs=some (Rows.laid_versine_quality_signs,p)):cs=signsL:=by
 obtain ⟨xs,m,_,hx,hl,hn,hf⟩:=DataW.trod_array Tryz.underlying238 h
 rw [cg0] at hl
 obtain ⟨a,b,c,d,e,f,g,i,rfl⟩:=list8 hl
 obtain ⟨x0,x1,x2,x3,rfl⟩:∃ x0 x1 x2 x3,xs=[x0,x1,x2,x3]:=by
  match xs,hn with
  | [x0,x1,x2,x3],_=>exact ⟨x0,x1,x2,x3,rfl⟩
 rw [cellsG] at hf
 obtain ⟨_,_,rfl,rfl,rfl,_⟩:=openG (show DataW.trod enc Tryz.prog w base sp hd m 64 [a,b]=some x0 from hf 0 (by decide))
 obtain ⟨_,_,rfl,rfl,rfl,_⟩:=openG (show DataW.trod enc Tryz.prog w base sp hd m 64 [c,d]=some x1 from hf 1 (by decide))
 obtain ⟨_,_,rfl,rfl,rfl,_⟩:=openG (show DataW.trod enc Tryz.prog w base sp hd m 64 [e,f]=some x2 from hf 2 (by decide))
 obtain ⟨_,_,rfl,rfl,rfl,_⟩:=openG (show DataW.trod enc Tryz.prog w base sp hd m 64 [g,i]=some x3 from hf 3 (by decide))
 have hd:=congrArg Prod.fst hx
 simp [Rows.laid_versine_quality_signs] at hd
 obtain ⟨⟨rfl,rfl⟩,⟨rfl,rfl⟩,⟨rfl,rfl⟩,rfl,rfl⟩:=hd
 rfl
theorem cg1:Tryz.prog.cellsOf 278=20:=by kernel_rfl
theorem cellsu1:Tryz.prog.cellsOf 262=1:=by kernel_rfl
def zsI1:List Int:=[1,10,100,1000,10000,100000,1000000,10000000,100000000,1000000000,10000000000,100000000000,1000000000000,10000000000000,100000000000000,1000000000000000,10000000000000000,100000000000000000,1000000000000000000,10000000000000000000]
theorem row1 {fuel:Nat} {cs:List Value} {p:List MemPlace} (h:DataW.trod enc Tryz.prog w base sp hd fuel 278 cs=some (Rows.laid_internal_strconv_uint64pow10,p)):cs=powsL:=by
 have:=Lib.cells_of_tab (zs:=zsI1) Tryz.underlying278 Tryz.underlying262 cellsu1 cg1 h
 exact this
theorem var_heap {g:Nat} {name:String} {cs:Array Value} (hg:Tryz.prog.globalNamed name=some g) (h:w.var? Tryz.prog name=some cs):∃ e z,w.heap[g]?=some (.cells cs e z):=by
 unfold World.var? at h
 rw [hg] at h
 simp only [Option.bind_some] at h
 split at h
 ·rename_i c e z hh
  cases h
  exact ⟨e,z,hh⟩
 ·cases h
def laidL:=Rows.qualityLinesRow.laid
theorem tables {W:World} (h:laidMetH Tryz.prog laidL W):(∃ e z,W.heap[0]?=some (.cells signsL.toArray e z))∧(∃ e z,W.heap[1]?=some (.cells powsL.toArray e z)):=by
 replace h:laidMet Tryz.prog Rows.qualityLinesRow.laid W:=h
 obtain ⟨ps,⟨_,_,_,_,_,_,_,_,_,_,⟨_,_,_,_,_,_,_,_,_,_,⟨p1,t1,c1,f1,_,_,u1,v1,x1,y1,⟨p0,t0,c0,f0,_,_,u0,v0,x0,y0,_⟩,_⟩,_⟩,_⟩,_⟩:=h
 obtain rfl:=Option.some.inj (g0.symm.trans u0)
 obtain rfl:=Option.some.inj (gt0.symm.trans v0)
 have w0:=row0 y0
 rw [show c0=signsL.toArray by rw [← w0]] at x0
 obtain rfl:=Option.some.inj (g1.symm.trans u1)
 obtain rfl:=Option.some.inj (gt1.symm.trans v1)
 have w1:=row1 y1
 rw [show c1=powsL.toArray by rw [← w1]] at x1
 exact ⟨var_heap g0 x0,var_heap g1 x1⟩
theorem trodAll_len:∀ {ts:List TypeId} {vs:List Value} {ds:List (DataW H)} {pl:List MemPlace} {P:Program},DataW.TrodAll enc P w base sp hd ts vs ds pl→ds.length=ts.length
 | [],[],[],_,_,_=>rfl
 | t::ts,v::vs,d::ds,_,_,⟨_,_,_,h,_⟩=>by simp [trodAll_len h]
set_option maxRecDepth 100000 in
theorem contractG {k m:Nat} {f:TFun} {fn:Func} {ts:List TypeId} {spec:ChangeSpec} (hf:tpE.fn k=some f) (hts:fn.params.toList=ts) (hrt:fn.resultTypes=#[4]) (hs:ts.all (simple Tryz.prog m)=true) (L:LawG tpE k m ts)
  (hv:spec.vars=[]) (hsp:∀ ds:List (DataW H),ds.length=ts.length→(spec.fn H ds).results=[.lit (.bool true)]∧(spec.fn H ds).args=ds∧(spec.fn H ds).vars=[])
  (W:World) (base:Nat) (args:Array Value) (ds gs:List (DataW H)) (before:List MemPlace)
  (hval:∀ (j:Nat) t v,fn.params[j]?=some t→args[j]?=some v→Value.okWide Tryz.prog W .any base t v)
  (hW:DataW.Whole enc Tryz.prog fn.params.toList spec.vars false W args.toList ds gs before) (hL:laidMetH Tryz.prog laidL W) :
  Calls Tryz.prog k args W fun e W'=>∃ v,e=.returned v∧spec.post enc Tryz.prog fn false true false false W args v W':=by
 obtain ⟨p,q,hA,hV,rfl,hfz,hnd⟩:=hW
 rw [hv] at hV
 have hg:gs=[]∧q=[]:=by
  cases gs with
  | nil=>exact ⟨rfl,hV⟩
  | cons x r=>exact hV.elim
 obtain ⟨rfl,rfl⟩:=hg
 rw [hts] at hA
 obtain ⟨s1,s2,s3⟩:=hsp ds (trodAll_len hA)
 obtain ⟨⟨t0,z0,b0⟩,⟨t1,z1,b1⟩⟩:=tables hL
 refine (law_run hf hs L b0 b1 (fun j t v h1 h2=>hval j t v (by rw [← hts] at h1;simpa using h1) h2) hA).mono fun e W' ⟨he,hk,hA'⟩=>?_
 subst he
 refine ⟨_,rfl,ds,[],p ++ [],[],p,[],⟨p,[],by rw [hts];exact hA,by rw [hv];rfl,rfl,hfz,hnd⟩,?_,?_,?_,World.keptBut_mono (fun p hp=>hp.elim) hk,fun h=>by cases h⟩
 ·rw [List.append_nil,s1,hrt]
  exact trodAll_cons_mk (shut_bool Tryz.underlying4 _) trodAll_mk0
 ·rw [List.append_nil,s2,hts];exact hA'
 ·rw [List.append_nil,s3,hv];rfl
end
end Go.Tidy
namespace Go.Tidy
open Go
section
variable {P:Program} {h:TH} {t e:TypeId} {n:Nat} {ps:List Value}
theorem tyg_int {k:IntKind} (hu:P.underlying t=some (.int k)) (y:Ty P h (n+1) t ps):∃ z,ps=[.int k z]∧(Lit.int k z).wf=true:=by
 unfold Ty at y;rw [hu] at y;exact y
theorem tyg_str (hu:P.underlying t=some .string) (y:Ty P h (n+1) t ps):∃ s,ps=[.string s]∧s.size≤maxLen:=by
 unfold Ty at y;rw [hu] at y;exact y
theorem tyg_struct {fs:Array Field} (hu:P.underlying t=some (.struct fs)) (y:Ty P h (n+1) t ps):Row P (Ty P h n) (fs.toList.map (·.type)) ps:=by
 unfold Ty at y;rw [hu] at y;exact y
theorem row_cat {α:Type} {enc:α→List Value} {T:TypeId→List Value→Prop} (hT:∀ p,T e p→∃ x,p=enc x):∀ (m:Nat) (c:List Value),Row P T (List.replicate m e) c→∃ l:List α,l.length=m∧c=cat enc l
 | 0,c,h=>⟨[],rfl,h⟩
 | m+1,c,⟨p,q,h1,_,h3,h4⟩=>by
  obtain ⟨x,rfl⟩:=hT p h3
  obtain ⟨l,e1,rfl⟩:=row_cat hT m q h4
  exact ⟨x::l,by simp [e1],h1⟩
theorem tyg_slice {α:Type} {enc:α→List Value} {k:Nat} (E:Enc enc k) (hu:P.underlying t=some (.slice e)) (hT:∀ p,Ty P h n e p→∃ x,p=enc x) (y:Ty P h (n+1) t ps):∃ v l,ps=[v]∧SlL enc k h v l∧∀ e',Fits h v e':=by
 unfold Ty at y;rw [hu] at y
 obtain ⟨a,m,cap,rfl,h1,_,⟨rfl,rfl⟩ | ⟨b,c,el,rfl,h2,h3,h4⟩⟩:=y
 ·obtain rfl:m=0:=by omega
  exact ⟨_,[],rfl,SlC.nil _ _ _,fun e' b off m cap hv=>by cases hv⟩
 ·obtain ⟨l,rfl,rfl⟩:=row_cat hT m c h4
  refine ⟨_,l,rfl,⟨_,cap,rfl,h1,E.cat_len l,.inr ⟨b,0,_,true,false,el,rfl,⟨h3,h2⟩,?_,?_⟩⟩,fun e'=>Fits.of ⟨h3,h2⟩ (.inl rfl)⟩
  ·rw [List.drop_zero,← E.cat_len l,List.take_length]
  ·rw [E.cat_len];omega
end
end Go.Tidy
namespace Go.Tidy
open Go Go.Proofs
attribute [local irreducible] Ty valOf
variable {h:TH} {n:Nat} {ps:List Value}
theorem ty_int (y:Ty Tryz.prog h (n+1) 3 ps):∃ z,ps=[.int .i64 z]∧(Lit.int .i64 z).wf=true:=tyg_int Tryz.underlying3 y
theorem ty_str (y:Ty Tryz.prog h (n+1) 9 ps):∃ s,ps=[.string s]∧s.size≤maxLen:=tyg_str Tryz.underlying9 y
theorem val_agg {t:TypeId} {ps:List Value} (hu:(∃ fs,Tryz.prog.underlying t=some (.struct fs))∨∃ m e,Tryz.prog.underlying t=some (.array m e)):valOf Tryz.prog t ps=.agg ps.toArray:=by
 unfold valOf
 rcases hu with ⟨fs,hu⟩ | ⟨m,e,hu⟩ <;> rw [hu]
theorem val_int {v:Value}:valOf Tryz.prog 3 [v]=v:=by unfold valOf;rw [Tryz.underlying3];rfl
end Go.Tidy
