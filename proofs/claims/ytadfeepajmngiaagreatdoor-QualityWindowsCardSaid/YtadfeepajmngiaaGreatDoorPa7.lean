/- A part of the proof. -/
import Derived.Test.YtadfeepajmngiaaGreatDoorPa6
import Derived.Test.YtadfeepajmngiaaGreatDoorPa2
import Derived.Test.YtadfeepajmngiaaGreatDoorPa1
import Derived.Test.YtadfeepajmngiaaGreatDoorProg
set_option linter.all false
namespace Go.Tidy
open Go Go.Proofs Tab
variable {tp:TProg}
theorem WO.fdiv {P:Program} {tp:TProg} {a:Regs} {h:TH} {K:Regs→TH→Prop} {rest:List TOper} {d:Option Tmp} {ty:TypeId} {i:Nat} {x y:Operand} {t u:TypeId} {k:FloatKind} {b c r:Nat} (hx:getO a x=some (.float k b)) (hy:getO a y=some (.float k c)) (hb:nanB k b=false) (hc:nanB k c=false) (hr:k.format.div b c=some r) (hn:nanB k r=false)
  (w:WO P tp rest (a.put d (.float k r)) h K):WO P tp (⟨d,.binOp .quo t x y u,ty,none,[],i⟩::rest) a h K:=by
 have ex:=getO_eval hx
 have ey:=getO_eval hy
 refine WO.plainly rfl rfl rfl (by simp [fastOp,fastBin,ex,ey,hb,hc]) rfl (plainOp_of (by rfl) (fun q hq=>?_) ?_ (plain_float hn)) w
 ·simp only [Op.operands] at hq
  simp at hq
  rcases hq with rfl | rfl
  ·rw [ex];exact plain_float hb
  ·rw [ey];exact plain_float hc
 ·simp [toOper,execOp,pv_bind,pv_map,pv_pure,ex,ey,eqGuard,binOp,Op.floatArith,hr]
def smp (n:Int):Nat:=(Ieee.single.div (FloatKind.f32.nearest n) 1098907648).getD 0
theorem smp_ok {n:Int} (hn:n.natAbs≤16384):Ieee.single.div (FloatKind.f32.nearest n) 1098907648=some (smp n)∧nanB .f32 (FloatKind.f32.nearest n)=false∧Samp (smp n) n:=by
 obtain ⟨r,h1,h2,h3⟩:=sample_of hn
 have:smp n=r:=by unfold smp;rw [h1];rfl
 rw [this]
 exact ⟨h1,h2,h3⟩
theorem smp_zero:smp 0=0:=by decide
theorem k111 (H:Has tp) {b:Nat} {n:Int} (s:Samp b n) (h:TH):CallW Tryz.prog tp (.func (.func 146) #[] #[]) #[.float .f32 b] h fun v h'=>v=.int .i64 n∧h'=h:=by
 obtain ⟨c,h1,h2,h3,h4,h5⟩:=s.toInt
 refine CallW.full (H.fn 146 f111 rfl rfl) rfl ?_
 refine W.seq (W.reg (WO.as rfl (WO.nil ?_)))
 refine W.seq (W.reg (WO.mv rfl (WO.fmul rfl rfl (by decide) s.nan h1 h2 (WO.conv rfl (plain_float h2) (conv_f2i u25 u3 h3 h4 h5) rfl (WO.as rfl (WO.nil (W.ret ?_)))))))
 exact ⟨.inr rfl,_,rfl,rfl,rfl⟩
theorem k95 (H:Has tp) {b:Nat} {n:Int} (s:Samp b n) (h:TH):CallW Tryz.prog tp (.func (.func 78) #[] #[]) #[.float .f32 b] h fun v h'=>v=.int .i64 n∧h'=h:=by
 obtain ⟨c,h1,h2,h3,h4,h5⟩:=s.toInt
 refine CallW.full (H.fn 78 f95 rfl rfl) rfl ?_
 refine W.seq (W.reg (WO.as rfl (WO.nil ?_)))
 refine W.seq (W.reg (WO.mv rfl (WO.fmul rfl rfl (by decide) s.nan h1 h2 (WO.conv rfl (plain_float h2) (conv_f2i u25 u3 h3 h4 h5) rfl (WO.as rfl (WO.nil (W.ret ?_)))))))
 exact ⟨.inr rfl,_,rfl,rfl,rfl⟩
end Go.Tidy
namespace Go.Tidy
open Go Go.Proofs Tab
variable {tp:TProg}
def Lev (F:List Nat) (L:List Int):Prop:=F.length=L.length∧∀ (i b:Nat) (n:Int),F[i]?=some b→L[i]?=some n→Samp b n
def all1 (L:List Int):List (Int × Bool):=L.map fun n=>(n,true)
end Go.Tidy
namespace Go.Tidy
open Go Go.Proofs Tab
variable {tp:TProg}
def clrL (C:List (Int × Bool)) (p:Int × Int):List (Int × Bool):=C.take p.1.toNat ++ (List.replicate (p.2.toNat - p.1.toNat) (0,false) ++ C.drop p.2.toNat)
def cellsL (L:List Int) (S:List (Int × Int)):List (Int × Bool):=S.foldl clrL (all1 L)
def In (m:Nat) (S:List (Int × Int)):Prop:=∀ p,p ∈ S→0≤p.1∧p.1≤p.2∧p.2≤m
theorem clrL_len {C:List (Int × Bool)} {p:Int × Int} (h1:0≤p.1) (h2:p.1≤p.2) (h3:p.2≤C.length):(clrL C p).length=C.length:=by
 unfold clrL;simp;omega
theorem foldl_len {m:Nat}:∀ (S:List (Int × Int)) (C:List (Int × Bool)),C.length=m→In m S→(S.foldl clrL C).length=m
 | [],C,h,_=>h
 | p::S,C,h,hin=>by
  obtain ⟨h1,h2,h3⟩:=hin p (by simp)
  exact foldl_len S (clrL C p) (by rw [clrL_len h1 h2 (by omega)];exact h) fun q hq=>hin q (by simp [hq])
end Go.Tidy
namespace Go.Tidy
open Go Go.Proofs Tab
variable {tp:TProg}
def hstep (B:List Bool) (acc:List (Int × Int)) (i:Nat):List (Int × Int) :=
 if B.getD i false=true then acc
 else if 0 < i∧B.getD (i - 1) false=false then acc.set (acc.length - 1) ((acc.getD (acc.length - 1) (0,0)).1,(i:Int)+1)
 else acc ++ [((i:Int),(i:Int)+1)]
def holesN (B:List Bool):Nat→List (Int × Int)
 | 0=>[]
 | i+1=>hstep B (holesN B i) i
def holesOf (B:List Bool):List (Int × Int):=holesN B B.length
def extS (acc:List (Int × Int)) (i:Nat):List (Int × Int) :=
 if acc≠[]∧(acc.getD (acc.length - 1) (0,0)).2=i then acc.set (acc.length - 1) ((acc.getD (acc.length - 1) (0,0)).1,(i:Int)+1)
 else acc ++ [((i:Int),(i:Int)+1)]
set_option maxHeartbeats 1000000 in
set_option maxRecDepth 10000 in
theorem k165 (H:Has tp) {v:Value} {acc:List (Int × Int)} {i n0:Nat} {h:TH} (O:OwnL encS n0 h v 27 acc) (hl:acc.length≤900000) (hi:i≤900000) (f:Free0 n0 h) (hn:n0≤h.next) :
  CallW Tryz.prog tp (.func (.func 87) #[] #[]) #[v,.int .i64 (i:Nat)] h fun v' h'=>OwnL encS n0 h' v' 27 (extS acc i)∧∀ h0,HX h0 h→h0.next≤n0→HX h0 h':=by
 refine CallW.fnL (H.fn 87 f165 rfl rfl) ?_
 refine WL.sr<|WOL.as rfl<|WOL.nil<|keep [(0,_),(1,_)] ⟨rfl,rfl,trivial⟩ ?_
 have push:extS acc i=acc ++ [((i:Int),(i:Int)+1)]→∀ a,Kn [(0,v),(1,.int .i64 (i:Nat))] a→W Tryz.prog tp false (.seq (.reg r165_5) .ret) a h (Fin Tryz.prog [.tmp 4] fun v' h'=>OwnL encS n0 h' v' 27 (extS acc i)∧∀ h0,HX h0 h→h0.next≤n0→HX h0 h'):=by
  intro he
  rw [he]
  refine WL.sr<|WOL.mv rfl<|WOL.mv rfl<|WOL.mv rfl ?_
  refine WOL.bi (v:=.int .i64 ((i+1:Nat):Int)) rfl rfl (by show some (Value.int .i64 (fwrap .i64 ((i:Int)+1)))=_;rw [fwrap_i64 (by omega) (by omega)];rfl) ?_
  refine WOL.bd rfl bd48 ?_
  refine WOL.bs2 rfl u44 tp48 fun h4 N4=>?_
  obtain ⟨w5,h5,ap,O5,x5,_,_,_⟩:=own_push (sT:=23) (x:=((i:Int),((i+1:Nat):Int))) eS u44 tp48 (O.hx N4.hx) (SlC.own (sz:=2) (m:=1) rfl N4.at_) (f.hx N4.hx) (by omega) (by have:=N4.hx.next;omega)
  refine WOL.ap rfl rfl ap<|WOL.as rfl<|WOL.nil<|keep [(4,_)] ⟨rfl,trivial⟩ ?_
  exact WL.done rfl ⟨O5,fun h0 a b=>x5 h0 (a.trans N4.hx) b⟩
 refine WL.seq<|WL.sr ?_
 refine WOL.mv rfl ?_
 refine WOL.len rfl (O.sl eS) u44 ?_
 by_cases hne:acc=[]
 ·subst hne
  refine WOL.bi (v:=.int .i64 (-1)) rfl rfl rfl<|WOL.as rfl<|WOL.nil<|keep [(0,_),(1,_),(5,_)] ⟨rfl,rfl,rfl,trivial⟩ ?_
  refine WL.sr<|WOL.mv rfl<|WOL.bi (v:=.bool false) rfl rfl rfl<|WOL.mv rfl ?_
  refine WOL.skp (b:=false) rfl rfl<|WOL.skp (b:=false) rfl rfl<|WOL.skp (b:=false) rfl rfl<|WOL.skp (b:=false) rfl rfl<|WOL.skp (b:=false) rfl rfl<|WOL.skp (b:=false) rfl rfl<|WOL.skp (b:=false) rfl rfl ?_
  refine WOL.pkf rfl rfl<|WOL.nil<|WL.no rfl<|WL.skip ?_
  exact kto (push (by unfold extS;rw [if_neg (fun q=>q.1 rfl)])) ⟨rfl,rfl,trivial⟩
 ·have hm:0 < acc.length:=List.length_pos_iff.2 hne
  have hp:acc[acc.length - 1]?=some acc[acc.length - 1]:=List.getElem?_eq_getElem (by omega)
  have hg:acc.getD (acc.length - 1) (0,0)=acc[acc.length - 1]:=by simp [List.getD,hp]
  generalize acc[acc.length - 1]=p at *
  have O':=O
  rcases O with ⟨_,he0⟩ | ⟨_,bO,rfl,hbO,AO⟩
  ·exact absurd he0 hne
  refine WOL.bi (v:=.int .i64 ((acc.length - 1:Nat):Int)) rfl rfl (by show some (Value.int .i64 (fwrap .i64 ((acc.length:Int) - 1)))=_;rw [fwrap_i64 (by omega) (by omega)];congr 2;omega) ?_
  refine WOL.as rfl<|WOL.nil<|keep [(0,_),(1,_),(5,_)] ⟨rfl,rfl,rfl,trivial⟩ ?_
  refine WL.sr<|WOL.mv rfl<|WOL.bi (v:=.bool true) rfl rfl (by show some (Value.bool (decide (((acc.length - 1:Nat):Int) ≥ 0)))=_;rw [decide_eq_true (by omega)])<|WOL.mv rfl ?_
  refine WOL.now (b:=true) rfl rfl<|WOL.mv rfl<|WOL.now (b:=true) rfl rfl<|WOL.mv rfl<|WOL.now (b:=true) rfl rfl ?_
  obtain ⟨b,o,cc,fix,wr,el,e1,e2,e3,e4,e5⟩:=(O'.sl eS).at eS u44 tp48 hp .i64
  refine WOL.ix rfl rfl e1<|WOL.now (b:=true) rfl rfl<|WOL.fa rfl (fa_of fo48_1)<|WOL.now (b:=true) rfl rfl ?_
  refine WOL.ld rfl (load_one tp3 e2 (e5 1 (by decide))) ?_
  refine WOL.now (b:=true) rfl rfl<|WOL.mv rfl<|WOL.now (b:=true) rfl rfl ?_
  refine WOL.bi (v:=.bool (decide (p.2=(i:Int)))) rfl rfl rfl ?_
  refine WOL.pkt rfl rfl<|WOL.nil<|keep [(0,_),(1,_),(5,_),(19,_)] ⟨rfl,rfl,rfl,rfl,trivial⟩ ?_
  by_cases hq:p.2=(i:Int)
  ·rw [decide_eq_true hq]
   have he:extS acc i=acc.set (acc.length - 1) (p.1,((i+1:Nat):Int)):=by unfold extS;rw [hg,if_pos ⟨hne,hq⟩];rfl
   refine WL.yes rfl ?_
   refine WL.sr<|WOL.mv rfl<|WOL.mv rfl ?_
   refine WOL.ix rfl rfl e1<|WOL.fa rfl (fa_of fo48_1) ?_
   refine WOL.ld rfl (load_one tp3 e2 (e5 1 (by decide))) ?_
   refine WOL.bi (v:=.int .i64 ((i+1:Nat):Int)) rfl rfl (by show some (Value.int .i64 (fwrap .i64 (p.2+1)))=_;rw [hq,fwrap_i64 (by omega) (by omega)];rfl) ?_
   refine WOL.ix rfl rfl (indexAddr_tp u44 tp48 (by omega))<|WOL.fa rfl (fa_of fo48_1) ?_
   refine WOL.sto rfl rfl tp3 AO rfl rfl (by rw [eS.cat_len];omega) rfl f hbO fun h4 P4=>?_
   have A4:=P4.at_
   rw [show (0:Nat)+(acc.length - 1)*2+1=(acc.length - 1)*2+1 by omega,show (Value.int .i64 ((i+1:Nat):Int)).cells.toList=[Value.int .i64 ((i+1:Nat):Int)] from rfl,splice_one _ _ _ (by rw [eS.cat_len];omega),set_one _ _ _ _ hp] at A4
   refine WOL.nil<|keep [(0,_)] ⟨rfl,trivial⟩ ?_
   refine WL.sr<|WOL.mv rfl<|WOL.as rfl<|WOL.nil<|keep [(4,_)] ⟨rfl,trivial⟩ ?_
   refine WL.ret ?_
   refine WL.end_ rfl ⟨?_,fun h0 a b=>P4.hx _ a (by omega)⟩
   rw [he]
   exact .inr ⟨fun e=>hne (by simpa using congrArg List.length e),bO,by rw [List.length_set];rfl,hbO,A4⟩
  ·rw [decide_eq_false hq]
   refine WL.no rfl<|WL.skip ?_
   exact kto (push (by unfold extS;rw [hg,if_neg (fun q=>hq q.2)])) ⟨rfl,rfl,trivial⟩
end Go.Tidy
namespace Go.Tidy
open Go Go.Proofs Tab
variable {tp:TProg}
def SErr (F:List Nat) (es:List Int):Prop:=F.length=es.length∧∀ (i b:Nat) (e:Int),F[i]?=some b→es[i]?=some e→SampleE b e
theorem serr_ex:∀ F:List Nat,∃ es,SErr F es
 | []=>⟨[],rfl,fun i b e h=>by simp at h⟩
 | b::F=>by
  obtain ⟨es,h1,h2⟩:=serr_ex F
  obtain ⟨e,he⟩:=sampleE_ex b
  refine ⟨e::es,by simp [h1],fun i b' e' hb he'=>?_⟩
  cases i with
  | zero=>simp at hb he';subst hb he';exact he
  | succ i=>exact h2 i b' e' (by simpa using hb) (by simpa using he')
theorem firstNZ_zero:∀ {l:List Int},firstNZ l=0→∀ x,x ∈ l→x=0
  | [],_,_,h=>by cases h
  | y::l,h,x,hx=>by
    unfold firstNZ at h
    by_cases hy:y=0
    · subst hy
      rcases List.mem_cons.1 hx with rfl | hx
      · rfl
      · exact firstNZ_zero (by simpa using h) x hx
    · have:(y != 0)=true:=by simpa using hy
      rw [this] at h
      exact absurd h hy
theorem firstNZ_skip (l m:List Int) (h:∀ x,x ∈ l→x=0):firstNZ (l ++ m)=firstNZ m:=by
 induction l with
 | nil=>rfl
 | cons x l ih =>
  have:x=0:=h x (by simp)
  subst this
  show firstNZ (l ++ m)=_
  exact ih fun y hy=>h y (by simp [hy])
theorem lev_ex:∀ (F:List Nat) (es:List Int),SErr F es→(∀ e,e ∈ es→e=0)→∃ L,Lev F L
 | [],_,_,_=>⟨[],rfl,fun i b n h=>by simp at h⟩
 | b::F,[],h,_=>by have:=h.1;simp at this
 | b::F,e::es,h,hz=>by
  obtain ⟨L,l1,l2⟩:=lev_ex F es ⟨by have:=h.1;simpa using this,fun i b e hb he=>h.2 (i+1) b e (by simpa using hb) (by simpa using he)⟩ (fun e he=>hz e (by simp [he]))
  have h0:=h.2 0 b e rfl rfl
  obtain rfl:e=0:=hz e (by simp)
  obtain ⟨n,hn⟩:=samp_of h0
  refine ⟨n::L,by simp [l1],fun i b' n' hb hn'=>?_⟩
  cases i with
  | zero=>simp at hb hn';subst hb hn';exact hn
  | succ i=>exact l2 i b' n' (by simpa using hb) (by simpa using hn')
theorem firstNZ_at {l:List Int} {i:Nat} {e:Int} (h:l[i]?=some e) (h0:∀ x,x ∈ l.take i→x=0) (he:e≠0):firstNZ l=e:=by
 have hlt:=(List.getElem?_eq_some_iff.1 h).1
 have hv:=(List.getElem?_eq_some_iff.1 h).2
 rw [← List.take_append_drop i l,firstNZ_skip _ _ h0,List.drop_eq_getElem_cons hlt,hv]
 unfold firstNZ
 have:(e != 0)=true:=by simpa using he
 rw [this];rfl
theorem firstNZ_all {l:List Int} (h0:∀ x,x ∈ l→x=0):firstNZ l=0:=by
 have:=firstNZ_skip l [] h0
 rwa [List.append_nil] at this
theorem take_more {l:List Int} {i:Nat} {e:Int} (h:l[i]?=some e) (h0:∀ x,x ∈ l.take i→x=0) (he:e=0):∀ x,x ∈ l.take (i+1)→x=0:=by
 have hlt:=(List.getElem?_eq_some_iff.1 h).1
 have hv:=(List.getElem?_eq_some_iff.1 h).2
 intro x hx
 rw [← List.take_append_getElem hlt,List.mem_append] at hx
 rcases hx with hx | hx
 ·exact h0 x hx
 ·simp only [List.mem_singleton] at hx
  rw [hx,hv,he]
theorem k144 (H:Has tp) (X:HasX tp) {v:Value} {F:List Nat} {es:List Int} {h:TH} (s:SlL encF 1 h v F) (hE:SErr F es) (hF:F.length≤1000000) :
  CallW Tryz.prog tp (.func (.func 190) #[] #[]) #[v,.func (.func 191) #[] #[]] h fun v' h'=>v'=.int .i64 (firstNZ es)∧h'=h:=by
 refine CallW.full (H.fn 190 f144 rfl rfl) rfl ?_
 refine W.seq (W.reg (WO.as rfl (WO.nil ?_)))
 refine W.seq (W.seq (W.reg (WO.mv rfl (WO.lenC rfl s u43 (WO.mv rfl (WO.nil ?_))))))
 refine W.block (W.loop (fun k a h2=>h2=h∧∃ i:Nat,i≤F.length∧k=F.length - i∧(∀ x,x ∈ es.take i→x=0)∧Full 21 a∧Tr.get a 1=some (.func (.func 191) #[] #[])∧Tr.get a 8=some v∧Tr.get a 9=some (.int .i64 F.length)∧Tr.get a 10=some (.int .i64 (i:Nat)))
  ?_ F.length _ _ ⟨rfl,0,by omega,by omega,by simp,(by repeat (first | with_reducible refine Full.put ?_ (by decide) _ | with_reducible refine Full.putn ?_ _ | with_reducible exact Full.of _ _ rfl | with_reducible exact Full.start _ _ (Nat.le_of_ble_eq_true rfl) | exact Full.start _ _ (Nat.le_of_ble_eq_true rfl))),rfl,rfl,rfl,rfl⟩)
 rintro k a h2 ⟨rfl,i,hi,rfl,hz,hf,i1,i8,i9,i10⟩
 (obtain ⟨rl0,hrl0,rfl⟩:=hf;obtain ⟨s0,s1,s2,s3,s4,s5,s6,s7,rl1,rfl,hrl1⟩:=cons8 hrl0;obtain ⟨s8,s9,s10,s11,s12,s13,s14,s15,rl2,rfl,hrl2⟩:=cons8 hrl1;obtain ⟨s16,rl3,rfl,hrl3⟩:=cons_of hrl2;obtain ⟨s17,rl4,rfl,hrl4⟩:=cons_of hrl3;obtain ⟨s18,rl5,rfl,hrl5⟩:=cons_of hrl4;obtain ⟨s19,rl6,rfl,hrl6⟩:=cons_of hrl5;obtain ⟨s20,rl7,rfl,hrl7⟩:=cons_of hrl6;obtain rfl:=nil_of hrl7;clear hrl0 hrl1 hrl2 hrl3 hrl4 hrl5 hrl6 hrl7;obtain rfl:s1=_:=Option.some.inj (show some s1=some _ from i1);clear i1;obtain rfl:s8=_:=Option.some.inj (show some s8=some _ from i8);clear i8;obtain rfl:s9=_:=Option.some.inj (show some s9=some _ from i9);clear i9;obtain rfl:s10=_:=Option.some.inj (show some s10=some _ from i10);clear i10)
 refine W.seq (W.reg (WO.bi rfl rfl rfl (WO.nil ?_)))
 by_cases hlt:i < F.length
 ·rw [show decide ((i:Int) < (F.length:Int))=true by simpa using hlt]
  refine W.seq (W.cd rfl (OnB.yes (W.skip ?_)))
  have hF1:F[i]?=some F[i]:=List.getElem?_eq_getElem hlt
  have hie:i < es.length:=by rw [← hE.1];exact hlt
  have hE1:es[i]?=some es[i]:=List.getElem?_eq_getElem hie
  obtain ⟨b,o,cc,fix,wr,el,e1,e2,e3,e4,e5⟩:=s.at eF u43 tp25 hF1 .i64
  refine W.seq (W.block (W.seq (W.reg (WO.ix rfl rfl e1 (WO.ld rfl (load_one tp25 e2 (e5 0 (by decide))) (WO.as rfl (WO.nil ?_)))))))
  refine W.seq (W.reg (WO.mv rfl (WO.mv rfl (WO.cl1 rfl rfl ((k21 H X (hE.2 i _ _ hF1 hE1) h2).mono ?_)))))
  rintro v3 h3 ⟨rfl,rfl⟩
  refine WO.as rfl (WO.nil ?_)
  refine W.seq (W.reg (WO.mv rfl (WO.bi rfl rfl rfl (WO.nil ?_))))
  generalize es[i]=e at hE1
  by_cases he:e=0
  ·rw [show (e != 0)=false by simpa using he]
   refine W.cd rfl (OnB.no (W.skip ?_))
   refine W.reg (WO.bi rfl rfl rfl (WO.mv rfl (WO.nil ?_)))
   refine ⟨F.length - (i+1),by omega,rfl,i+1,by omega,rfl,take_more hE1 hz he,(by repeat (first | with_reducible refine Full.put ?_ (by decide) _ | with_reducible refine Full.putn ?_ _ | with_reducible exact Full.of _ _ rfl | with_reducible exact Full.start _ _ (Nat.le_of_ble_eq_true rfl) | exact Full.start _ _ (Nat.le_of_ble_eq_true rfl))),rfl,rfl,rfl,?_⟩
   show some (Value.int .i64 (fwrap .i64 ((i:Int)+1)))=_
   rw [fwrap_i64 (by omega) (by omega)]
   rfl
  ·rw [show (e != 0)=true by simpa using he]
   refine W.cd rfl (OnB.yes (W.seq (W.reg (WO.mv rfl (WO.as rfl (WO.nil (W.ret ?_)))))))
   exact ⟨.inr rfl,_,rfl,by rw [firstNZ_at hE1 hz he];rfl,rfl⟩
 ·rw [show decide ((i:Int) < (F.length:Int))=false by simpa using hlt]
  refine W.seq (W.cd rfl (OnB.no (W.exit ?_)))
  obtain rfl:i=F.length:=by omega
  refine W.seq (W.reg (WO.as rfl (WO.nil (W.ret ?_))))
  rw [hE.1,List.take_length] at hz
  exact ⟨.inr rfl,_,rfl,by rw [firstNZ_all hz];rfl,rfl⟩
theorem k99 (H:Has tp) (X:HasX tp) {v:Value} {F:List Nat} {es:List Int} {h:TH} (s:SlL encF 1 h v F) (hE:SErr F es) (hF:F.length≤1000000) :
  CallW Tryz.prog tp (.func (.func 143) #[] #[]) #[v] h fun v' h'=>v'=.int .i64 (firstNZ es)∧h'=h:=by
 refine CallW.full (H.fn 143 f99 rfl rfl) rfl ?_
 refine W.seq (W.reg (WO.as rfl (WO.nil ?_)))
 refine W.seq (W.reg (WO.mv rfl (WO.cl2 rfl rfl rfl ((k144 H X s hE hF).mono ?_))))
 rintro v3 h3 ⟨rfl,rfl⟩
 exact WO.as rfl (WO.nil (W.ret ⟨.inr rfl,_,rfl,rfl,rfl⟩))
theorem k141 (H:Has tp) {v:Value} {F:List Nat} {es:List Int} {h:TH} (s:SlL encF 1 h v F) (hE:SErr F es) (hF:F.length≤1000000) :
  CallW Tryz.prog tp (.func (.func 149) #[] #[]) #[v] h fun v' h'=>v'=.int .i64 (firstNZ es)∧h'=h:=by
 refine CallW.full (H.fn 149 f141 rfl rfl) rfl ?_
 refine W.seq (W.reg (WO.as rfl (WO.nil ?_)))
 refine W.seq (W.seq (W.reg (WO.as rfl (WO.nil ?_))))
 refine W.block (W.loop (fun k a h2=>h2=h∧∃ i:Nat,i≤F.length∧k=F.length - i∧(∀ x,x ∈ es.take i→x=0)∧Full 19 a∧Tr.get a 0=some v∧Tr.get a 3=some (.int .i64 (i:Nat)))
  ?_ F.length _ _ ⟨rfl,0,by omega,by omega,by simp,(by repeat (first | with_reducible refine Full.put ?_ (by decide) _ | with_reducible refine Full.putn ?_ _ | with_reducible exact Full.of _ _ rfl | with_reducible exact Full.start _ _ (Nat.le_of_ble_eq_true rfl) | exact Full.start _ _ (Nat.le_of_ble_eq_true rfl))),rfl,rfl⟩)
 rintro k a h2 ⟨rfl,i,hi,rfl,hz,hf,i0,i3⟩
 (obtain ⟨rl0,hrl0,rfl⟩:=hf;obtain ⟨s0,s1,s2,s3,s4,s5,s6,s7,rl1,rfl,hrl1⟩:=cons8 hrl0;obtain ⟨s8,s9,s10,s11,s12,s13,s14,s15,rl2,rfl,hrl2⟩:=cons8 hrl1;obtain ⟨s16,rl3,rfl,hrl3⟩:=cons_of hrl2;obtain ⟨s17,rl4,rfl,hrl4⟩:=cons_of hrl3;obtain ⟨s18,rl5,rfl,hrl5⟩:=cons_of hrl4;obtain rfl:=nil_of hrl5;clear hrl0 hrl1 hrl2 hrl3 hrl4 hrl5;obtain rfl:s0=_:=Option.some.inj (show some s0=some _ from i0);clear i0;obtain rfl:s3=_:=Option.some.inj (show some s3=some _ from i3);clear i3)
 refine W.seq (W.seq (W.reg (WO.mv rfl (WO.mv rfl (WO.lenC rfl s u43 (WO.bi rfl rfl rfl (WO.nil ?_)))))))
 by_cases hlt:i < F.length
 ·rw [show decide ((i:Int) < (F.length:Int))=true by simpa using hlt]
  refine W.cd rfl (OnB.yes (W.skip ?_))
  have hF1:F[i]?=some F[i]:=List.getElem?_eq_getElem hlt
  have hie:i < es.length:=by rw [← hE.1];exact hlt
  have hE1:es[i]?=some es[i]:=List.getElem?_eq_getElem hie
  obtain ⟨b,o,cc,fix,wr,el,e1,e2,e3,e4,e5⟩:=s.at eF u43 tp25 hF1 .i64
  refine W.seq (W.block (W.seq (W.reg (WO.mv rfl (WO.mv rfl (WO.ix rfl rfl e1 (WO.ld rfl (load_one tp25 e2 (e5 0 (by decide))) (WO.cl1 rfl rfl ((k22 H (hE.2 i _ _ hF1 hE1) h2).mono ?_)))))))))
  rintro v3 h3 ⟨rfl,rfl⟩
  refine WO.as rfl (WO.nil ?_)
  refine W.seq (W.reg (WO.mv rfl (WO.bi rfl rfl rfl (WO.nil ?_))))
  generalize es[i]=e at hE1
  by_cases he:e=0
  ·rw [show (e != 0)=false by simpa using he]
   refine W.cd rfl (OnB.no (W.skip ?_))
   refine W.reg (WO.mv rfl (WO.bi rfl rfl rfl (WO.as rfl (WO.nil ?_))))
   refine ⟨F.length - (i+1),by omega,rfl,i+1,by omega,rfl,take_more hE1 hz he,(by repeat (first | with_reducible refine Full.put ?_ (by decide) _ | with_reducible refine Full.putn ?_ _ | with_reducible exact Full.of _ _ rfl | with_reducible exact Full.start _ _ (Nat.le_of_ble_eq_true rfl) | exact Full.start _ _ (Nat.le_of_ble_eq_true rfl))),rfl,?_⟩
   show some (Value.int .i64 (fwrap .i64 ((i:Int)+1)))=_
   rw [fwrap_i64 (by omega) (by omega)]
   rfl
  ·rw [show (e != 0)=true by simpa using he]
   refine W.cd rfl (OnB.yes (W.seq (W.reg (WO.mv rfl (WO.as rfl (WO.nil (W.ret ?_)))))))
   exact ⟨.inr rfl,_,rfl,by rw [firstNZ_at hE1 hz he];rfl,rfl⟩
 ·rw [show decide ((i:Int) < (F.length:Int))=false by simpa using hlt]
  refine W.cd rfl (OnB.no (W.exit ?_))
  obtain rfl:i=F.length:=by omega
  refine W.seq (W.reg (WO.as rfl (WO.nil (W.ret ?_))))
  rw [hE.1,List.take_length] at hz
  exact ⟨.inr rfl,_,rfl,by rw [firstNZ_all hz];rfl,rfl⟩
end Go.Tidy
namespace Go.Tidy
open Go Go.Proofs Tab
variable {tp:TProg}
def badS (m:Nat) (p:Int × Int):Bool:=decide (p.1 < 0) || (decide (p.2≤p.1) || decide ((m:Int) < p.2))
def holeE (m:Nat):Int→List (Int × Int)→Int
 | _,[]=>0
 | prev,p::r=>cond (badS m p) 14 (cond (decide (p.1≤prev)) 11 (holeE m p.2 r))
theorem holeE_cons (m:Nat) (prev:Int) (p:Int × Int) (r:List (Int × Int)):holeE m prev (p::r)=cond (badS m p) 14 (cond (decide (p.1≤prev)) 11 (holeE m p.2 r)):=rfl
theorem holeE_in {m:Nat}:∀ {S:List (Int × Int)} {prev:Int},holeE m prev S=0→In m S
  | [],_,_=>fun p hp=>by cases hp
  | p::r,prev,h=>by
    unfold holeE at h
    cases hb:badS m p with
    | true=>rw [hb] at h;cases h
    | false =>
      rw [hb] at h
      cases hc:decide (p.1≤prev) with
      | true=>rw [hc] at h;cases h
      | false =>
        rw [hc] at h
        have ih:=holeE_in (S:=r) h
        unfold badS at hb
        simp only [Bool.or_eq_false_iff,decide_eq_false_iff_not] at hb
        intro q hq
        rcases List.mem_cons.1 hq with rfl | hq
        · omega
        · exact ih q hq
set_option maxRecDepth 10000 in
theorem k100a (H:Has tp) {v1 v2:Value} {F:List Nat} {S:List (Int × Int)} {h:TH} (r:RunH h v1 v2 F S) (hF:F.length≤1000000) (hS:S.length≤1000000) (f:Free0 h.next h) {a:Regs} {Q:Exit→Regs→TH→Prop} (hf:Full 73 a)
    (i0:Tr.get a 0=some v1) (i1:Tr.get a 1=some v2) (i5:Tr.get a 5=some (.int .i64 (-1)))
    (q1:∀ a' h',HX h h'→holeE F.length (-1) S≠0→Tr.get a' 4=some (.int .i64 (holeE F.length (-1) S))→Q .ret a' h')
    (q2:∀ a' h',HX h h'→holeE F.length (-1) S=0→Full 73 a'→Tr.get a' 0=some v1→Tr.get a' 1=some v2→Q .normal a' h') :
    W Tryz.prog tp false (.seq (.reg r100_2) (.block 0 (.loop (.seq (.reg r100_3) (.seq (.cond (.tmp 17) .skip (.exit 0)) (.seq (.block 1 (.seq (.reg r100_4) (.seq (.reg r100_5) (.seq (.seq (.reg r100_6) (.cond (.tmp 46) (.seq (.reg r100_7) .ret) .skip)) (.reg r100_8))))) (.reg r100_9))))))) a h Q:=by
  (obtain ⟨rl0,hrl0,rfl⟩:=hf;obtain ⟨s0,s1,s2,s3,s4,s5,s6,s7,rl1,rfl,hrl1⟩:=cons8 hrl0;obtain ⟨s8,s9,s10,s11,s12,s13,s14,s15,rl2,rfl,hrl2⟩:=cons8 hrl1;obtain ⟨s16,s17,s18,s19,s20,s21,s22,s23,rl3,rfl,hrl3⟩:=cons8 hrl2;obtain ⟨s24,s25,s26,s27,s28,s29,s30,s31,rl4,rfl,hrl4⟩:=cons8 hrl3;obtain ⟨s32,s33,s34,s35,s36,s37,s38,s39,rl5,rfl,hrl5⟩:=cons8 hrl4;obtain ⟨s40,s41,s42,s43,s44,s45,s46,s47,rl6,rfl,hrl6⟩:=cons8 hrl5;obtain ⟨s48,s49,s50,s51,s52,s53,s54,s55,rl7,rfl,hrl7⟩:=cons8 hrl6;obtain ⟨s56,s57,s58,s59,s60,s61,s62,s63,rl8,rfl,hrl8⟩:=cons8 hrl7;obtain ⟨s64,s65,s66,s67,s68,s69,s70,s71,rl9,rfl,hrl9⟩:=cons8 hrl8;obtain ⟨s72,rl10,rfl,hrl10⟩:=cons_of hrl9;obtain rfl:=nil_of hrl10;clear hrl0 hrl1 hrl2 hrl3 hrl4 hrl5 hrl6 hrl7 hrl8 hrl9 hrl10;obtain rfl:s0=_:=Option.some.inj (show some s0=some _ from i0);clear i0;obtain rfl:s1=_:=Option.some.inj (show some s1=some _ from i1);clear i1;obtain rfl:s5=_:=Option.some.inj (show some s5=some _ from i5);clear i5)
  refine W.seq (W.reg (WO.mv rfl (WO.lenC rfl r.s u44 (WO.mv rfl (WO.nil ?_)))))
  refine W.block (W.loop (fun k a h2=>∃ (i:Nat) (prev:Int),i≤S.length∧k=S.length - i∧HX h h2∧holeE F.length (-1) S=holeE F.length prev (S.drop i)∧Full 73 a∧Tr.get a 0=some s0∧Tr.get a 1=some s1∧Tr.get a 5=some (.int .i64 prev)∧Tr.get a 14=some s1∧Tr.get a 15=some (.int .i64 S.length)∧Tr.get a 16=some (.int .i64 (i:Nat)))
    ?_ S.length _ _ ⟨0,-1,by omega,by omega,HX.refl h,rfl,(by repeat (first | with_reducible refine Full.put ?_ (by decide) _ | with_reducible refine Full.putn ?_ _ | with_reducible exact Full.of _ _ rfl | with_reducible exact Full.start _ _ (Nat.le_of_ble_eq_true rfl) | exact Full.start _ _ (Nat.le_of_ble_eq_true rfl))),rfl,rfl,rfl,rfl,rfl,rfl⟩)
  rintro k a h2 ⟨i,prev,hi,rfl,X2,hE,hf,i0,i1,i5,i14,i15,i16⟩
  (obtain ⟨rl0,hrl0,rfl⟩:=hf;obtain ⟨s0,s1,s2,s3,s4,s5,s6,s7,rl1,rfl,hrl1⟩:=cons8 hrl0;obtain ⟨s8,s9,s10,s11,s12,s13,s14,s15,rl2,rfl,hrl2⟩:=cons8 hrl1;obtain ⟨s16,s17,s18,s19,s20,s21,s22,s23,rl3,rfl,hrl3⟩:=cons8 hrl2;obtain ⟨s24,s25,s26,s27,s28,s29,s30,s31,rl4,rfl,hrl4⟩:=cons8 hrl3;obtain ⟨s32,s33,s34,s35,s36,s37,s38,s39,rl5,rfl,hrl5⟩:=cons8 hrl4;obtain ⟨s40,s41,s42,s43,s44,s45,s46,s47,rl6,rfl,hrl6⟩:=cons8 hrl5;obtain ⟨s48,s49,s50,s51,s52,s53,s54,s55,rl7,rfl,hrl7⟩:=cons8 hrl6;obtain ⟨s56,s57,s58,s59,s60,s61,s62,s63,rl8,rfl,hrl8⟩:=cons8 hrl7;obtain ⟨s64,s65,s66,s67,s68,s69,s70,s71,rl9,rfl,hrl9⟩:=cons8 hrl8;obtain ⟨s72,rl10,rfl,hrl10⟩:=cons_of hrl9;obtain rfl:=nil_of hrl10;clear hrl0 hrl1 hrl2 hrl3 hrl4 hrl5 hrl6 hrl7 hrl8 hrl9 hrl10;obtain rfl:s0=_:=Option.some.inj (show some s0=some _ from i0);clear i0;obtain rfl:s1=_:=Option.some.inj (show some s1=some _ from i1);clear i1;obtain rfl:s5=_:=Option.some.inj (show some s5=some _ from i5);clear i5;obtain rfl:s14=_:=Option.some.inj (show some s14=some _ from i14);clear i14;obtain rfl:s15=_:=Option.some.inj (show some s15=some _ from i15);clear i15;obtain rfl:s16=_:=Option.some.inj (show some s16=some _ from i16);clear i16)
  refine W.seq (W.reg (WO.bi rfl rfl rfl (WO.nil ?_)))
  by_cases hlt:i < S.length
  · rw [show decide ((i:Int) < (S.length:Int))=true by simpa using hlt]
    refine W.seq (W.cd rfl (OnB.yes (W.skip ?_)))
    have hS1:S[i]?=some S[i]:=List.getElem?_eq_getElem hlt
    have hdrop:S.drop i=S[i]::S.drop (i+1):=List.drop_eq_getElem_cons hlt
    obtain ⟨b,o,cc,fix,wr,el,e1,e2,e3,e4,e5⟩:=(r.s.hx X2).at eS u44 tp48 hS1 .i64
    refine W.seq (W.block (W.seq (W.reg (WO.ix rfl rfl e1 (WO.ld rfl (load_row tp48 e2 e4 e3) ?_)))))
    refine WO.alA tp48 fun h3 N3=>WO.stA rfl rfl tp48 N3.at_ rfl rfl (Nat.le_of_ble_eq_true rfl) rfl (f.hx (X2.trans N3.hx)) X2.next fun h4 P4=>WO.nil ?_
    have X4:=P4.hx _ (X2.trans N3.hx) X2.next
    have A4:=P4.at_
    clear e1 e2 e3 e4 e5 hS1
    generalize S[i]=p at *
    obtain ⟨p1,p2⟩:=p
    refine W.seq (W.reg (WO.cut 17 (WO.mono (Q:=fun a' h'=>h'=h4∧Full 73 a'∧Tr.get a' 0=some s0∧Tr.get a' 1=some s14∧Tr.get a' 5=some (.int .i64 prev)∧Tr.get a' 7=some (.pointer (some ⟨h2.next,0,none⟩))∧Tr.get a' 14=some s14∧Tr.get a' 15=some (.int .i64 S.length)∧Tr.get a' 16=some (.int .i64 (i:Nat))∧Tr.get a' 36=some (.bool (badS F.length (p1,p2)))) ?_ ?_)))
    · refine WO.fa rfl (fa_of fo48_0) (WO.ld rfl (load_one tp3 A4 rfl) (WO.bi rfl rfl rfl ?_))
      by_cases c1:p1 < 0
      · rw [show decide ((p1,p2).1 < 0)=true by simpa using c1]
        refine WO.mv rfl (WO.skp (b:=true) rfl rfl (WO.skp (b:=true) rfl rfl (WO.skp (b:=true) rfl rfl (WO.skp (b:=true) rfl rfl (WO.skp (b:=true) rfl rfl (WO.pk rfl rfl rfl (OnB.yes ?_)))))))
        refine WO.mv rfl (WO.skp (b:=true) rfl rfl (WO.skp (b:=true) rfl rfl (WO.skp (b:=true) rfl rfl (WO.skp (b:=true) rfl rfl (WO.skp (b:=true) rfl rfl (WO.pk rfl rfl rfl (OnB.yes (WO.nil ?_))))))))
        refine ⟨rfl,(by repeat (first | with_reducible refine Full.put ?_ (by decide) _ | with_reducible refine Full.putn ?_ _ | with_reducible exact Full.of _ _ rfl | with_reducible exact Full.start _ _ (Nat.le_of_ble_eq_true rfl) | exact Full.start _ _ (Nat.le_of_ble_eq_true rfl))),rfl,rfl,rfl,rfl,rfl,rfl,rfl,?_⟩
        simp [badS,c1]
        rfl
      · rw [show decide ((p1,p2).1 < 0)=false by simpa using c1]
        refine WO.mv rfl (WO.now (b:=false) rfl rfl (WO.fa rfl (fa_of fo48_0) (WO.now (b:=false) rfl rfl (WO.ld rfl (load_one tp3 A4 rfl) (WO.now (b:=false) rfl rfl (WO.fa rfl (fa_of fo48_1) (WO.now (b:=false) rfl rfl (WO.ld rfl (load_one tp3 A4 rfl) (WO.now (b:=false) rfl rfl (WO.bi rfl rfl rfl (WO.pk rfl rfl rfl (OnB.no ?_))))))))))))
        by_cases c2:p2≤p1
        · rw [show decide ((p1,p2).1 ≥ (p1,p2).2)=true by simpa using c2]
          refine WO.mv rfl (WO.skp (b:=true) rfl rfl (WO.skp (b:=true) rfl rfl (WO.skp (b:=true) rfl rfl (WO.skp (b:=true) rfl rfl (WO.skp (b:=true) rfl rfl (WO.pk rfl rfl rfl (OnB.yes (WO.nil ?_))))))))
          refine ⟨rfl,(by repeat (first | with_reducible refine Full.put ?_ (by decide) _ | with_reducible refine Full.putn ?_ _ | with_reducible exact Full.of _ _ rfl | with_reducible exact Full.start _ _ (Nat.le_of_ble_eq_true rfl) | exact Full.start _ _ (Nat.le_of_ble_eq_true rfl))),rfl,rfl,rfl,rfl,rfl,rfl,rfl,?_⟩
          simp [badS,c2]
          rfl
        · rw [show decide ((p1,p2).1 ≥ (p1,p2).2)=false by simpa using c2]
          refine WO.mv rfl (WO.now (b:=false) rfl rfl (WO.fa rfl (fa_of fo48_1) (WO.now (b:=false) rfl rfl (WO.ld rfl (load_one tp3 A4 rfl) (WO.now (b:=false) rfl rfl (WO.mv rfl (WO.now (b:=false) rfl rfl (WO.lenC rfl (r.f.hx X4) u43 (WO.now (b:=false) rfl rfl (WO.bi rfl rfl rfl (WO.pk rfl rfl rfl (OnB.no (WO.nil ?_)))))))))))))
          refine ⟨rfl,(by repeat (first | with_reducible refine Full.put ?_ (by decide) _ | with_reducible refine Full.putn ?_ _ | with_reducible exact Full.of _ _ rfl | with_reducible exact Full.start _ _ (Nat.le_of_ble_eq_true rfl) | exact Full.start _ _ (Nat.le_of_ble_eq_true rfl))),rfl,rfl,rfl,rfl,rfl,rfl,rfl,?_⟩
          show some (Value.bool (decide (p2 > (F.length:Int))))=_
          simp [badS,c1,c2]
    · rintro a' h' ⟨rfl,hf',j0,j1,j5,j7,j14,j15,j16,j36⟩
      (obtain ⟨rl0,hrl0,rfl⟩:=hf';obtain ⟨s0,s1,s2,s3,s4,s5,s6,s7,rl1,rfl,hrl1⟩:=cons8 hrl0;obtain ⟨s8,s9,s10,s11,s12,s13,s14,s15,rl2,rfl,hrl2⟩:=cons8 hrl1;obtain ⟨s16,s17,s18,s19,s20,s21,s22,s23,rl3,rfl,hrl3⟩:=cons8 hrl2;obtain ⟨s24,s25,s26,s27,s28,s29,s30,s31,rl4,rfl,hrl4⟩:=cons8 hrl3;obtain ⟨s32,s33,s34,s35,s36,s37,s38,s39,rl5,rfl,hrl5⟩:=cons8 hrl4;obtain ⟨s40,s41,s42,s43,s44,s45,s46,s47,rl6,rfl,hrl6⟩:=cons8 hrl5;obtain ⟨s48,s49,s50,s51,s52,s53,s54,s55,rl7,rfl,hrl7⟩:=cons8 hrl6;obtain ⟨s56,s57,s58,s59,s60,s61,s62,s63,rl8,rfl,hrl8⟩:=cons8 hrl7;obtain ⟨s64,s65,s66,s67,s68,s69,s70,s71,rl9,rfl,hrl9⟩:=cons8 hrl8;obtain ⟨s72,rl10,rfl,hrl10⟩:=cons_of hrl9;obtain rfl:=nil_of hrl10;clear hrl0 hrl1 hrl2 hrl3 hrl4 hrl5 hrl6 hrl7 hrl8 hrl9 hrl10;obtain rfl:s0=_:=Option.some.inj (show some s0=some _ from j0);clear j0;obtain rfl:s1=_:=Option.some.inj (show some s1=some _ from j1);clear j1;obtain rfl:s5=_:=Option.some.inj (show some s5=some _ from j5);clear j5;obtain rfl:s7=_:=Option.some.inj (show some s7=some _ from j7);clear j7;obtain rfl:s14=_:=Option.some.inj (show some s14=some _ from j14);clear j14;obtain rfl:s15=_:=Option.some.inj (show some s15=some _ from j15);clear j15;obtain rfl:s16=_:=Option.some.inj (show some s16=some _ from j16);clear j16;obtain rfl:s36=_:=Option.some.inj (show some s36=some _ from j36);clear j36)
      refine WO.fa rfl (fa_of fo48_0) (WO.ld rfl (load_one tp3 A4 rfl) (WO.mv rfl (WO.bi rfl rfl rfl ?_)))
      refine WO.lk2 rfl rfl rfl fun LL=>(k77 H _ _ _).mono ?_
      rintro v5 h5 ⟨rfl,rfl⟩
      rw [TH.relock]
      refine WO.cl2 rfl rfl rfl ((k77 H _ _ _).mono ?_)
      rintro v5 h5 ⟨rfl,rfl⟩
      refine WO.bslA rfl u166 tp30 (by decide) (by decide) (by decide) (filled_ints _ _) fun h6 N6=>?_
      refine WO.cl1 rfl rfl ((k71 H (l:=[_,_]) N6.at_.get (by simp)).mono ?_)
      rintro v7 h7 ⟨rfl,rfl⟩
      have X6:=X4.trans N6.hx
      refine WO.as rfl (WO.nil ?_)
      have hstep:holeE F.length prev ((p1,p2)::S.drop (i+1))=cond (firstNZ [cond (badS F.length (p1,p2)) 14 0,cond (decide (p1≤prev)) 11 0] != 0) (firstNZ [cond (badS F.length (p1,p2)) 14 0,cond (decide (p1≤prev)) 11 0]) (holeE F.length p2 (S.drop (i+1))):=by
        rw [holeE_cons]
        show cond (badS F.length (p1,p2)) 14 (cond (decide (p1≤prev)) 11 (holeE F.length p2 (S.drop (i+1))))=_
        cases badS F.length (p1,p2) <;> cases decide (p1≤prev) <;> rfl
      rw [hdrop,hstep] at hE
      refine W.seq (W.seq (W.reg (WO.mv rfl (WO.bi rfl rfl rfl (WO.nil ?_)))))
      show W Tryz.prog tp false _ (Regs.put _ (some 46) (.bool (firstNZ [cond (badS F.length (p1,p2)) 14 0,cond (decide (p1≤prev)) 11 0] != 0))) _ _
      generalize firstNZ [cond (badS F.length (p1,p2)) 14 0,cond (decide (p1≤prev)) 11 0]=e at *
      by_cases he:e=0
      · rw [show (e != 0)=false by simpa using he] at *
        refine W.cd rfl (OnB.no (W.skip ?_))
        refine W.reg (WO.fa rfl (fa_of fo48_1) (WO.ld rfl (load_one tp3 (A4.hx N6.hx) rfl) (WO.as rfl (WO.nil ?_))))
        refine W.reg (WO.bi rfl rfl rfl (WO.mv rfl (WO.nil ?_)))
        refine ⟨S.length - (i+1),by omega,i+1,p2,by omega,rfl,X6,hE,(by repeat (first | with_reducible refine Full.put ?_ (by decide) _ | with_reducible refine Full.putn ?_ _ | with_reducible exact Full.of _ _ rfl | with_reducible exact Full.start _ _ (Nat.le_of_ble_eq_true rfl) | exact Full.start _ _ (Nat.le_of_ble_eq_true rfl))),rfl,rfl,rfl,rfl,rfl,?_⟩
        show some (Value.int .i64 (fwrap .i64 ((i:Int)+1)))=_
        rw [fwrap_i64 (by omega) (by omega)]
        rfl
      · rw [show (e != 0)=true by simpa using he] at *
        refine W.cd rfl (OnB.yes (W.seq (W.reg (WO.mv rfl (WO.as rfl (WO.nil (W.ret ?_)))))))
        rw [Bool.cond_true] at hE
        exact q1 _ _ X6 (by rw [hE];exact he) (by rw [hE];rfl)
  · rw [show decide ((i:Int) < (S.length:Int))=false by simpa using hlt]
    refine W.seq (W.cd rfl (OnB.no (W.exit ?_)))
    obtain rfl:i=S.length:=by omega
    rw [List.drop_length] at hE
    exact q2 _ _ X2 hE (by repeat (first | with_reducible refine Full.put ?_ (by decide) _ | with_reducible refine Full.putn ?_ _ | with_reducible exact Full.of _ _ rfl | with_reducible exact Full.start _ _ (Nat.le_of_ble_eq_true rfl) | exact Full.start _ _ (Nat.le_of_ble_eq_true rfl))) rfl rfl
end Go.Tidy
namespace Go.Tidy
open Go Go.Proofs Tab
variable {tp:TProg}
def anyIn (L:List Int) (p:Int × Int):Bool:=((L.drop p.1.toNat).take (p.2.toNat - p.1.toNat)).any (· != 0)
def formE (L:List Int) (S:List (Int × Int)):Int:=cond (S.any (anyIn L)) 1 0
theorem zero_samp:Samp 0 0:=by
 have:=(smp_ok (n:=0) (by decide)).2.2
 rwa [smp_zero] at this
theorem WO.fne {P:Program} {a:Regs} {h:TH} {K:Regs→TH→Prop} {rest:List TOper} {d:Option Tmp} {ty:TypeId} {i:Nat} {x y:Operand} {t u:TypeId} {b:Nat} (hx:getO a x=some (.float .f32 b)) (hy:getO a y=some (.float .f32 0))
  (w:∀ r:Bool,(∀ n,Samp b n→r=!decide (n=0))→WO P tp rest (a.put d (.bool r)) h K):WO P tp (⟨d,.binOp .neq t x y u,ty,none,[],i⟩::rest) a h K:=by
 by_cases hb:nanB .f32 b=true
 ·refine WO.fnan hx hy (by rw [hb];rfl) (v:=.bool true) rfl (w true fun n hn=>?_)
  rw [hn.nan] at hb;cases hb
 ·have hb:nanB .f32 b=false:=by simpa using hb
  obtain ⟨r,hr⟩:∃ r,cmpF .neq .f32 b 0=some r:=⟨_,rfl⟩
  refine WO.fcmp hx hy hb (by decide) hr (w r fun n hn=>?_)
  have:=(hn.cmp zero_samp).2
  rw [hr] at this
  exact Option.some.inj this
end Go.Tidy
namespace Go.Tidy
open Go Go.Proofs Tab
variable {tp:TProg}
theorem Lev.part {F:List Nat} {L:List Int} (h:Lev F L) (lo k:Nat):Lev ((F.drop lo).take k) ((L.drop lo).take k):=by
 refine ⟨by simp [h.1],fun i b n hb hn=>?_⟩
 by_cases hi:i < k
 ·rw [List.getElem?_take_of_lt hi,List.getElem?_drop] at hb hn
  exact h.2 _ b n hb hn
 ·rw [List.getElem?_eq_none (by simp;omega)] at hb
  cases hb
theorem Lev.get {F:List Nat} {L:List Int} (h:Lev F L) {i:Nat} {b:Nat} (hb:F[i]?=some b):∃ n,L[i]?=some n∧Samp b n:=by
 have hlt:=(List.getElem?_eq_some_iff.1 hb).1
 have:i < L.length:=by rw [← h.1];exact hlt
 exact ⟨L[i],List.getElem?_eq_getElem this,h.2 i b _ hb (List.getElem?_eq_getElem this)⟩
theorem holeE_lt {m:Nat}:∀ {S:List (Int × Int)} {prev:Int},holeE m prev S=0→∀ p,p ∈ S→p.1 < p.2
  | [],_,_=>fun p hp=>by cases hp
  | p::r,prev,h=>by
    rw [holeE_cons] at h
    cases hb:badS m p with
    | true=>rw [hb] at h;cases h
    | false =>
      rw [hb] at h
      cases hc:decide (p.1≤prev) with
      | true=>rw [hc] at h;cases h
      | false =>
        rw [hc] at h
        have ih:=holeE_lt (S:=r) h
        unfold badS at hb
        simp only [Bool.or_eq_false_iff,decide_eq_false_iff_not] at hb
        intro q hq
        rcases List.mem_cons.1 hq with rfl | hq
        · omega
        · exact ih q hq
theorem k99in (H:Has tp) {w:Value} {G:List Nat} {h:TH} (s:SlL encF 1 h w G) (hG:G.length≤1000000) {a:Regs} {Q:Exit→Regs→TH→Prop} (hf:Full 73 a) {x0 x1 x51 x52 x53:Value}
  (i0:Tr.get a 0=some x0) (i9:Tr.get a 9=some (.float .f32 0)) (i51:Tr.get a 51=some x51) (i52:Tr.get a 52=some x52) (i53:Tr.get a 53=some x53) (i62:Tr.get a 62=some w) (i63:Tr.get a 63=some (.int .i64 G.length)) (i64:Tr.get a 64=some (.int .i64 0))
  (q1:∀ a',(∀ L,Lev G L→L.any (· != 0)=true)→Tr.get a' 4=some (.int .i64 1)→Q .ret a' h)
  (q2:∀ a',(∀ L,Lev G L→L.any (· != 0)=false)→Full 73 a'→Tr.get a' 0=some x0→Tr.get a' 9=some (.float .f32 0)→Tr.get a' 51=some x51→Tr.get a' 52=some x52→Tr.get a' 53=some x53→Q .normal a' h) :
  W Tryz.prog tp false (.block 4 (.loop (.seq (.reg r100_15) (.seq (.cond (.tmp 65) .skip (.exit 4)) (.seq (.block 5 (.seq (.reg r100_16) (.seq (.reg r100_17) (.cond (.tmp 70) (.seq (.reg r100_18) .ret) .skip)))) (.reg r100_19)))))) a h Q:=by
 refine W.block (W.loop (fun k a h2=>h2=h∧∃ j:Nat,j≤G.length∧k=G.length - j∧(∀ L,Lev G L→(L.take j).any (· != 0)=false)∧Full 73 a∧Tr.get a 0=some x0∧Tr.get a 9=some (.float .f32 0)∧Tr.get a 51=some x51∧Tr.get a 52=some x52∧Tr.get a 53=some x53∧Tr.get a 62=some w∧Tr.get a 63=some (.int .i64 G.length)∧Tr.get a 64=some (.int .i64 (j:Nat)))
  ?_ G.length _ _ ⟨rfl,0,by omega,by omega,fun L _=>by simp,hf,i0,i9,i51,i52,i53,i62,i63,i64⟩)
 clear hf i0 i9 i51 i52 i53 i62 i63 i64
 rintro k a h2 ⟨rfl,j,hj,rfl,hz,hf,i0,i9,i51,i52,i53,i62,i63,i64⟩
 (obtain ⟨rl0,hrl0,rfl⟩:=hf;obtain ⟨s0,s1,s2,s3,s4,s5,s6,s7,rl1,rfl,hrl1⟩:=cons8 hrl0;obtain ⟨s8,s9,s10,s11,s12,s13,s14,s15,rl2,rfl,hrl2⟩:=cons8 hrl1;obtain ⟨s16,s17,s18,s19,s20,s21,s22,s23,rl3,rfl,hrl3⟩:=cons8 hrl2;obtain ⟨s24,s25,s26,s27,s28,s29,s30,s31,rl4,rfl,hrl4⟩:=cons8 hrl3;obtain ⟨s32,s33,s34,s35,s36,s37,s38,s39,rl5,rfl,hrl5⟩:=cons8 hrl4;obtain ⟨s40,s41,s42,s43,s44,s45,s46,s47,rl6,rfl,hrl6⟩:=cons8 hrl5;obtain ⟨s48,s49,s50,s51,s52,s53,s54,s55,rl7,rfl,hrl7⟩:=cons8 hrl6;obtain ⟨s56,s57,s58,s59,s60,s61,s62,s63,rl8,rfl,hrl8⟩:=cons8 hrl7;obtain ⟨s64,s65,s66,s67,s68,s69,s70,s71,rl9,rfl,hrl9⟩:=cons8 hrl8;obtain ⟨s72,rl10,rfl,hrl10⟩:=cons_of hrl9;obtain rfl:=nil_of hrl10;clear hrl0 hrl1 hrl2 hrl3 hrl4 hrl5 hrl6 hrl7 hrl8 hrl9 hrl10;obtain rfl:s0=_:=Option.some.inj (show some s0=some _ from i0);clear i0;obtain rfl:s9=_:=Option.some.inj (show some s9=some _ from i9);clear i9;obtain rfl:s51=_:=Option.some.inj (show some s51=some _ from i51);clear i51;obtain rfl:s52=_:=Option.some.inj (show some s52=some _ from i52);clear i52;obtain rfl:s53=_:=Option.some.inj (show some s53=some _ from i53);clear i53;obtain rfl:s62=_:=Option.some.inj (show some s62=some _ from i62);clear i62;obtain rfl:s63=_:=Option.some.inj (show some s63=some _ from i63);clear i63;obtain rfl:s64=_:=Option.some.inj (show some s64=some _ from i64);clear i64)
 refine W.seq (W.reg (WO.bi rfl rfl rfl (WO.nil ?_)))
 by_cases hlt:j < G.length
 ·rw [show decide ((j:Int) < (G.length:Int))=true by simpa using hlt]
  refine W.seq (W.cd rfl (OnB.yes (W.skip ?_)))
  have hG1:G[j]?=some G[j]:=List.getElem?_eq_getElem hlt
  obtain ⟨b,o,cc,fix,wr,el,e1,e2,e3,e4,e5⟩:=s.at eF u43 tp25 hG1 .i64
  refine W.seq (W.block (W.seq (W.reg (WO.ix rfl rfl e1 (WO.ld rfl (load_one tp25 e2 (e5 0 (by decide))) (WO.as rfl (WO.nil ?_)))))))
  refine W.seq (W.reg (WO.mv rfl (WO.mv rfl (WO.fne rfl rfl fun q hq=>WO.nil ?_))))
  have step:∀ L,Lev G L→(L.take (j+1)).any (· != 0)=q:=fun L hL=>by
   obtain ⟨n,hn,hs⟩:=hL.get hG1
   have hlt':=(List.getElem?_eq_some_iff.1 hn).1
   have hv:=(List.getElem?_eq_some_iff.1 hn).2
   rw [← List.take_append_getElem hlt',List.any_append,hz L hL,hv,hq n hs]
   simp [bne]
   by_cases h0:n=0 <;> simp [h0]
  cases q with
  | true =>
   refine W.cd rfl (OnB.yes (W.seq (W.reg (WO.as rfl (WO.nil (W.ret ?_))))))
   refine q1 _ (fun L hL=>?_) rfl
   rw [← List.take_append_drop (j+1) L,List.any_append,step L hL];rfl
  | false =>
   refine W.cd rfl (OnB.no (W.skip ?_))
   refine W.reg (WO.bi rfl rfl rfl (WO.mv rfl (WO.nil ?_)))
   refine ⟨G.length - (j+1),by omega,rfl,j+1,by omega,rfl,step,(by repeat (first | with_reducible refine Full.put ?_ (by decide) _ | with_reducible refine Full.putn ?_ _ | with_reducible exact Full.of _ _ rfl | with_reducible exact Full.start _ _ (Nat.le_of_ble_eq_true rfl) | exact Full.start _ _ (Nat.le_of_ble_eq_true rfl))),rfl,rfl,rfl,rfl,rfl,rfl,rfl,?_⟩
   show some (Value.int .i64 (fwrap .i64 ((j:Int)+1)))=_
   rw [fwrap_i64 (by omega) (by omega)]
   rfl
 ·rw [show decide ((j:Int) < (G.length:Int))=false by simpa using hlt]
  refine W.seq (W.cd rfl (OnB.no (W.exit ?_)))
  obtain rfl:j=G.length:=by omega
  refine q2 _ (fun L hL=>?_) (by repeat (first | with_reducible refine Full.put ?_ (by decide) _ | with_reducible refine Full.putn ?_ _ | with_reducible exact Full.of _ _ rfl | with_reducible exact Full.start _ _ (Nat.le_of_ble_eq_true rfl) | exact Full.start _ _ (Nat.le_of_ble_eq_true rfl))) rfl rfl rfl rfl rfl
  have:=hz L hL
  rwa [hL.1,List.take_length] at this
end Go.Tidy
namespace Go.Tidy
open Go Go.Proofs Tab
variable {tp:TProg}
theorem res_tmp {P:Program} {a:Regs} {h:TH} {t:Nat} {v:Value} (hv:Tr.get a t=some v):resultsT P [.tmp t] a h=some [v]:=by
 simp [resultsT,Regs.at_,hv]
set_option maxRecDepth 100000 in
theorem k100b (H:Has tp) {v1 v2:Value} {F:List Nat} {S:List (Int × Int)} {h:TH} (r:RunH h v1 v2 F S) (hF:F.length≤1000000) (hS:S.length≤1000000) (f:Free0 h.next h) (hin:In F.length S) (hlt0:∀ p,p ∈ S→p.1 < p.2) {n0:Nat} {h1:TH} (X1:HX h h1) {a:Regs} {Q:Exit→Regs→TH→Prop} (hf:Full 73 a)
    (i0:Tr.get a 0=some v1) (i1:Tr.get a 1=some v2) (i9:Tr.get a 9=some (.float .f32 0))
    (q1:∀ a' h',HX h h'→(∀ L,Lev F L→S.any (anyIn L)=true)→Tr.get a' 4=some (.int .i64 1)→Q .ret a' h')
    (q2:∀ a' h',HX h h'→(∀ L,Lev F L→S.any (anyIn L)=false)→Full 73 a'→Q .normal a' h') :
    W Tryz.prog tp false (.seq (.reg r100_11) (.block 2 (.loop (.seq (.reg r100_12) (.seq (.cond (.tmp 54) .skip (.exit 2)) (.seq (.block 3 (.seq (.reg r100_13) (.seq (.reg r100_14) (.block 4 (.loop (.seq (.reg r100_15) (.seq (.cond (.tmp 65) .skip (.exit 4)) (.seq (.block 5 (.seq (.reg r100_16) (.seq (.reg r100_17) (.cond (.tmp 70) (.seq (.reg r100_18) .ret) .skip)))) (.reg r100_19))))))))) (.reg r100_20))))))) a h1 Q:=by
  (obtain ⟨rl0,hrl0,rfl⟩:=hf;obtain ⟨s0,s1,s2,s3,s4,s5,s6,s7,rl1,rfl,hrl1⟩:=cons8 hrl0;obtain ⟨s8,s9,s10,s11,s12,s13,s14,s15,rl2,rfl,hrl2⟩:=cons8 hrl1;obtain ⟨s16,s17,s18,s19,s20,s21,s22,s23,rl3,rfl,hrl3⟩:=cons8 hrl2;obtain ⟨s24,s25,s26,s27,s28,s29,s30,s31,rl4,rfl,hrl4⟩:=cons8 hrl3;obtain ⟨s32,s33,s34,s35,s36,s37,s38,s39,rl5,rfl,hrl5⟩:=cons8 hrl4;obtain ⟨s40,s41,s42,s43,s44,s45,s46,s47,rl6,rfl,hrl6⟩:=cons8 hrl5;obtain ⟨s48,s49,s50,s51,s52,s53,s54,s55,rl7,rfl,hrl7⟩:=cons8 hrl6;obtain ⟨s56,s57,s58,s59,s60,s61,s62,s63,rl8,rfl,hrl8⟩:=cons8 hrl7;obtain ⟨s64,s65,s66,s67,s68,s69,s70,s71,rl9,rfl,hrl9⟩:=cons8 hrl8;obtain ⟨s72,rl10,rfl,hrl10⟩:=cons_of hrl9;obtain rfl:=nil_of hrl10;clear hrl0 hrl1 hrl2 hrl3 hrl4 hrl5 hrl6 hrl7 hrl8 hrl9 hrl10;obtain rfl:s0=_:=Option.some.inj (show some s0=some _ from i0);clear i0;obtain rfl:s1=_:=Option.some.inj (show some s1=some _ from i1);clear i1;obtain rfl:s9=_:=Option.some.inj (show some s9=some _ from i9);clear i9)
  refine W.seq (W.reg (WO.mv rfl (WO.lenC rfl (r.s.hx X1) u44 (WO.mv rfl (WO.nil ?_)))))
  refine W.block (W.loop (fun k a h2=>∃ (i:Nat),i≤S.length∧k=S.length - i∧HX h h2∧(∀ L,Lev F L→(S.take i).any (anyIn L)=false)∧Full 73 a∧Tr.get a 0=some s0∧Tr.get a 9=some (.float .f32 0)∧Tr.get a 51=some s1∧Tr.get a 52=some (.int .i64 S.length)∧Tr.get a 53=some (.int .i64 (i:Nat)))
    ?_ S.length _ _ ⟨0,by omega,by omega,X1,fun L _=>by simp,(by repeat (first | with_reducible refine Full.put ?_ (by decide) _ | with_reducible refine Full.putn ?_ _ | with_reducible exact Full.of _ _ rfl | with_reducible exact Full.start _ _ (Nat.le_of_ble_eq_true rfl) | exact Full.start _ _ (Nat.le_of_ble_eq_true rfl))),rfl,rfl,rfl,rfl,rfl⟩)
  rintro k a h2 ⟨i,hi,rfl,X2,hz,hf,i0,i9,i51,i52,i53⟩
  (obtain ⟨rl0,hrl0,rfl⟩:=hf;obtain ⟨s0,s1,s2,s3,s4,s5,s6,s7,rl1,rfl,hrl1⟩:=cons8 hrl0;obtain ⟨s8,s9,s10,s11,s12,s13,s14,s15,rl2,rfl,hrl2⟩:=cons8 hrl1;obtain ⟨s16,s17,s18,s19,s20,s21,s22,s23,rl3,rfl,hrl3⟩:=cons8 hrl2;obtain ⟨s24,s25,s26,s27,s28,s29,s30,s31,rl4,rfl,hrl4⟩:=cons8 hrl3;obtain ⟨s32,s33,s34,s35,s36,s37,s38,s39,rl5,rfl,hrl5⟩:=cons8 hrl4;obtain ⟨s40,s41,s42,s43,s44,s45,s46,s47,rl6,rfl,hrl6⟩:=cons8 hrl5;obtain ⟨s48,s49,s50,s51,s52,s53,s54,s55,rl7,rfl,hrl7⟩:=cons8 hrl6;obtain ⟨s56,s57,s58,s59,s60,s61,s62,s63,rl8,rfl,hrl8⟩:=cons8 hrl7;obtain ⟨s64,s65,s66,s67,s68,s69,s70,s71,rl9,rfl,hrl9⟩:=cons8 hrl8;obtain ⟨s72,rl10,rfl,hrl10⟩:=cons_of hrl9;obtain rfl:=nil_of hrl10;clear hrl0 hrl1 hrl2 hrl3 hrl4 hrl5 hrl6 hrl7 hrl8 hrl9 hrl10;obtain rfl:s0=_:=Option.some.inj (show some s0=some _ from i0);clear i0;obtain rfl:s9=_:=Option.some.inj (show some s9=some _ from i9);clear i9;obtain rfl:s51=_:=Option.some.inj (show some s51=some _ from i51);clear i51;obtain rfl:s52=_:=Option.some.inj (show some s52=some _ from i52);clear i52;obtain rfl:s53=_:=Option.some.inj (show some s53=some _ from i53);clear i53)
  refine W.seq (W.reg (WO.bi rfl rfl rfl (WO.nil ?_)))
  by_cases hlt:i < S.length
  · rw [show decide ((i:Int) < (S.length:Int))=true by simpa using hlt]
    refine W.seq (W.cd rfl (OnB.yes (W.skip ?_)))
    have hS1:S[i]?=some S[i]:=List.getElem?_eq_getElem hlt
    obtain ⟨g1,g2,g3⟩:=hin S[i] (List.getElem_mem hlt)
    have g4:=hlt0 S[i] (List.getElem_mem hlt)
    have hany:∀ L,(S.take (i+1)).any (anyIn L)=((S.take i).any (anyIn L) || anyIn L S[i]):=fun L=>by
      rw [← List.take_append_getElem hlt,List.any_append];simp
    obtain ⟨b,o,cc,fix,wr,el,e1,e2,e3,e4,e5⟩:=(r.s.hx X2).at eS u44 tp48 hS1 .i64
    refine W.seq (W.block (W.seq (W.reg (WO.ix rfl rfl e1 (WO.ld rfl (load_row tp48 e2 e4 e3) ?_)))))
    refine WO.alA tp48 fun h3 N3=>WO.stA rfl rfl tp48 N3.at_ rfl rfl (Nat.le_of_ble_eq_true rfl) rfl (f.hx (X2.trans N3.hx)) X2.next fun h4 P4=>WO.nil ?_
    have X4:=P4.hx _ (X2.trans N3.hx) X2.next
    have A4:=P4.at_
    clear e1 e2 e3 e4 e5 hS1
    have hmem:S[i] ∈ S:=List.getElem_mem hlt
    generalize S[i]=p at *
    obtain ⟨p1,p2⟩:=p
    obtain ⟨lo,rfl⟩:=Int.eq_ofNat_of_zero_le g1
    obtain ⟨hh,rfl⟩:=Int.eq_ofNat_of_zero_le (Int.le_trans g1 g2)
    have g4':lo < hh:=Int.ofNat_lt.1 g4
    have g3':hh≤F.length:=Int.ofNat_le.1 g3
    have sF:=r.f.hx X4
    have gF:=r.g.hx X4
    obtain ⟨w,w1,w2,w3⟩:=sliceT_C (k:=.i64) (k':=.i64) (lo:=lo) (hi:=hh) u43 tp25 sF (by omega) g3' (fun b off cap cc fix wr el hv hg=>by
      obtain ⟨cc',fix',wr',el',k1,k2⟩:=gF b off _ cap hv
      rw [k1.get] at hg
      cases hg
      exact k2)
    rcases w3 with ⟨_,_,_,w3⟩ | ⟨b',off',cap',rfl,rfl⟩
    · omega
    refine W.seq (W.reg (WO.mv rfl (WO.fa rfl (fa_of fo48_0) (WO.ld rfl (load_one tp3 A4 rfl) (WO.fa rfl (fa_of fo48_1) (WO.ld rfl (load_one tp3 A4 rfl) (WO.sl rfl rfl rfl w1 ?_)))))))
    have sG:SlL encF 1 h4 (.slice (some ⟨b',off'+lo*1,none⟩) (hh - lo) (cap' - lo)) ((F.drop lo).take (hh - lo)):=by
      have hl:((F.drop lo).take (hh - lo)).length=hh - lo:=by simp;omega
      rw [eF.part] at w2
      unfold SlL
      rw [hl]
      exact w2
    have hGl:((F.drop lo).take (hh - lo)).length=hh - lo:=by simp;omega
    refine WO.lenC rfl w2 u43 (WO.mv rfl (WO.nil ?_))
    have hpart:∀ L,Lev F L→Lev ((F.drop lo).take (hh - lo)) ((L.drop lo).take (hh - lo)):=fun L hL=>hL.part lo (hh - lo)
    have hval:∀ L,anyIn L ((lo:Int),(hh:Int))=((L.drop lo).take (hh - lo)).any (· != 0):=fun L=>rfl
    refine k99in H sG (by omega) (by repeat (first | with_reducible refine Full.put ?_ (by decide) _ | with_reducible refine Full.putn ?_ _ | with_reducible exact Full.of _ _ rfl | with_reducible exact Full.start _ _ (Nat.le_of_ble_eq_true rfl) | exact Full.start _ _ (Nat.le_of_ble_eq_true rfl))) (x0:=.slice (some ⟨b',off',none⟩) F.length cap') (x1:=undef) (x51:=s51) (x52:=.int .i64 S.length) (x53:=.int .i64 (i:Nat)) rfl rfl rfl rfl rfl rfl (by rw [hGl];rfl) rfl (fun a' ha h4'=>?_) (fun a' ha hf' j0 j9 j51 j52 j53=>?_)
    · exact q1 _ _ X4 (fun L hL=>List.any_eq_true.2 ⟨_,hmem,by rw [hval];exact ha _ (hpart L hL)⟩) h4'
    · (obtain ⟨rl0,hrl0,rfl⟩:=hf';obtain ⟨s0,s1,s2,s3,s4,s5,s6,s7,rl1,rfl,hrl1⟩:=cons8 hrl0;obtain ⟨s8,s9,s10,s11,s12,s13,s14,s15,rl2,rfl,hrl2⟩:=cons8 hrl1;obtain ⟨s16,s17,s18,s19,s20,s21,s22,s23,rl3,rfl,hrl3⟩:=cons8 hrl2;obtain ⟨s24,s25,s26,s27,s28,s29,s30,s31,rl4,rfl,hrl4⟩:=cons8 hrl3;obtain ⟨s32,s33,s34,s35,s36,s37,s38,s39,rl5,rfl,hrl5⟩:=cons8 hrl4;obtain ⟨s40,s41,s42,s43,s44,s45,s46,s47,rl6,rfl,hrl6⟩:=cons8 hrl5;obtain ⟨s48,s49,s50,s51,s52,s53,s54,s55,rl7,rfl,hrl7⟩:=cons8 hrl6;obtain ⟨s56,s57,s58,s59,s60,s61,s62,s63,rl8,rfl,hrl8⟩:=cons8 hrl7;obtain ⟨s64,s65,s66,s67,s68,s69,s70,s71,rl9,rfl,hrl9⟩:=cons8 hrl8;obtain ⟨s72,rl10,rfl,hrl10⟩:=cons_of hrl9;obtain rfl:=nil_of hrl10;clear hrl0 hrl1 hrl2 hrl3 hrl4 hrl5 hrl6 hrl7 hrl8 hrl9 hrl10;obtain rfl:s0=_:=Option.some.inj (show some s0=some _ from j0);clear j0;obtain rfl:s9=_:=Option.some.inj (show some s9=some _ from j9);clear j9;obtain rfl:s51=_:=Option.some.inj (show some s51=some _ from j51);clear j51;obtain rfl:s52=_:=Option.some.inj (show some s52=some _ from j52);clear j52;obtain rfl:s53=_:=Option.some.inj (show some s53=some _ from j53);clear j53)
      refine W.reg (WO.bi rfl rfl rfl (WO.mv rfl (WO.nil ?_)))
      refine ⟨S.length - (i+1),by omega,i+1,by omega,rfl,X4,fun L hL=>?_,(by repeat (first | with_reducible refine Full.put ?_ (by decide) _ | with_reducible refine Full.putn ?_ _ | with_reducible exact Full.of _ _ rfl | with_reducible exact Full.start _ _ (Nat.le_of_ble_eq_true rfl) | exact Full.start _ _ (Nat.le_of_ble_eq_true rfl))),rfl,rfl,rfl,rfl,?_⟩
      · rw [hany,hz L hL,hval,ha _ (hpart L hL)];rfl
      · show some (Value.int .i64 (fwrap .i64 ((i:Int)+1)))=_
        rw [fwrap_i64 (by omega) (by omega)]
        rfl
  · rw [show decide ((i:Int) < (S.length:Int))=false by simpa using hlt]
    refine W.seq (W.cd rfl (OnB.no (W.exit ?_)))
    obtain rfl:i=S.length:=by omega
    refine q2 _ _ X2 (fun L hL=>?_) (by repeat (first | with_reducible refine Full.put ?_ (by decide) _ | with_reducible refine Full.putn ?_ _ | with_reducible exact Full.of _ _ rfl | with_reducible exact Full.start _ _ (Nat.le_of_ble_eq_true rfl) | exact Full.start _ _ (Nat.le_of_ble_eq_true rfl)))
    have:=hz L hL
    rwa [List.take_length] at this
theorem k100 (H:Has tp) {v1 v2:Value} {F:List Nat} {S:List (Int × Int)} {h:TH} (r:RunH h v1 v2 F S) (hF:F.length≤1000000) (hS:S.length≤1000000) (f:Free0 h.next h) :
  CallW Tryz.prog tp (.func (.func 144) #[] #[]) #[v1,v2] h fun v h'=>HX h h'∧∃ e:Int,v=.int .i64 e∧(∀ L,Lev F L→e=cond (holeE F.length (-1) S != 0) (holeE F.length (-1) S) (formE L S)):=by
 refine CallW.full (H.fn 144 f100 rfl rfl) rfl ?_
 refine W.seq (W.reg (WO.as rfl (WO.nil ?_)))
 refine W.seq (W.reg (WO.as rfl (WO.nil ?_)))
 refine W.seq (k100a H r hF hS f (by repeat (first | with_reducible refine Full.put ?_ (by decide) _ | with_reducible refine Full.putn ?_ _ | with_reducible exact Full.of _ _ rfl | with_reducible exact Full.start _ _ (Nat.le_of_ble_eq_true rfl) | exact Full.start _ _ (Nat.le_of_ble_eq_true rfl))) rfl rfl rfl (fun a' h' X he h4=>?_) (fun a' h' X he hf j0 j1=>?_))
 ·have hb:(holeE F.length (-1) S != 0)=true:=by simpa using he
  generalize holeE F.length (-1) S=e at *
  exact ⟨.inr rfl,[.int .i64 e],res_tmp h4,X,e,rfl,fun L _=>by rw [hb];rfl⟩
 ·have hin:=holeE_in he
  have hlt:=holeE_lt he
  (obtain ⟨rl0,hrl0,rfl⟩:=hf;obtain ⟨s0,s1,s2,s3,s4,s5,s6,s7,rl1,rfl,hrl1⟩:=cons8 hrl0;obtain ⟨s8,s9,s10,s11,s12,s13,s14,s15,rl2,rfl,hrl2⟩:=cons8 hrl1;obtain ⟨s16,s17,s18,s19,s20,s21,s22,s23,rl3,rfl,hrl3⟩:=cons8 hrl2;obtain ⟨s24,s25,s26,s27,s28,s29,s30,s31,rl4,rfl,hrl4⟩:=cons8 hrl3;obtain ⟨s32,s33,s34,s35,s36,s37,s38,s39,rl5,rfl,hrl5⟩:=cons8 hrl4;obtain ⟨s40,s41,s42,s43,s44,s45,s46,s47,rl6,rfl,hrl6⟩:=cons8 hrl5;obtain ⟨s48,s49,s50,s51,s52,s53,s54,s55,rl7,rfl,hrl7⟩:=cons8 hrl6;obtain ⟨s56,s57,s58,s59,s60,s61,s62,s63,rl8,rfl,hrl8⟩:=cons8 hrl7;obtain ⟨s64,s65,s66,s67,s68,s69,s70,s71,rl9,rfl,hrl9⟩:=cons8 hrl8;obtain ⟨s72,rl10,rfl,hrl10⟩:=cons_of hrl9;obtain rfl:=nil_of hrl10;clear hrl0 hrl1 hrl2 hrl3 hrl4 hrl5 hrl6 hrl7 hrl8 hrl9 hrl10;obtain rfl:s0=_:=Option.some.inj (show some s0=some _ from j0);clear j0;obtain rfl:s1=_:=Option.some.inj (show some s1=some _ from j1);clear j1)
  refine W.seq (W.reg (WO.as rfl (WO.nil ?_)))
  refine W.seq (k100b H r hF hS f hin hlt (n0:=0) X (by repeat (first | with_reducible refine Full.put ?_ (by decide) _ | with_reducible refine Full.putn ?_ _ | with_reducible exact Full.of _ _ rfl | with_reducible exact Full.start _ _ (Nat.le_of_ble_eq_true rfl) | exact Full.start _ _ (Nat.le_of_ble_eq_true rfl))) rfl rfl rfl (fun a' h' X' ha h4=>?_) (fun a' h' X' ha hf'=>?_))
  ·refine ⟨.inr rfl,[.int .i64 1],res_tmp h4,X',1,rfl,fun L hL=>?_⟩
   rw [he];unfold formE;rw [ha L hL];rfl
  ·(obtain ⟨rl0,hrl0,rfl⟩:=hf';obtain ⟨s0,s1,s2,s3,s4,s5,s6,s7,rl1,rfl,hrl1⟩:=cons8 hrl0;obtain ⟨s8,s9,s10,s11,s12,s13,s14,s15,rl2,rfl,hrl2⟩:=cons8 hrl1;obtain ⟨s16,s17,s18,s19,s20,s21,s22,s23,rl3,rfl,hrl3⟩:=cons8 hrl2;obtain ⟨s24,s25,s26,s27,s28,s29,s30,s31,rl4,rfl,hrl4⟩:=cons8 hrl3;obtain ⟨s32,s33,s34,s35,s36,s37,s38,s39,rl5,rfl,hrl5⟩:=cons8 hrl4;obtain ⟨s40,s41,s42,s43,s44,s45,s46,s47,rl6,rfl,hrl6⟩:=cons8 hrl5;obtain ⟨s48,s49,s50,s51,s52,s53,s54,s55,rl7,rfl,hrl7⟩:=cons8 hrl6;obtain ⟨s56,s57,s58,s59,s60,s61,s62,s63,rl8,rfl,hrl8⟩:=cons8 hrl7;obtain ⟨s64,s65,s66,s67,s68,s69,s70,s71,rl9,rfl,hrl9⟩:=cons8 hrl8;obtain ⟨s72,rl10,rfl,hrl10⟩:=cons_of hrl9;obtain rfl:=nil_of hrl10;clear hrl0 hrl1 hrl2 hrl3 hrl4 hrl5 hrl6 hrl7 hrl8 hrl9 hrl10)
   refine W.seq (W.reg (WO.as rfl (WO.nil (W.ret ?_))))
   refine ⟨.inr rfl,_,rfl,X',0,rfl,fun L hL=>?_⟩
   rw [he];unfold formE;rw [ha L hL];rfl
end Go.Tidy
namespace Go.Tidy
open Go Go.Proofs Tab
variable {tp:TProg}
def headE (s:ByteArray) (n:Int) (m:Nat):Int:=firstNZ [cond (!nameB s) 8 0,outB n 0 100000000,cond (decide ((m:Int) > 4096)) 5 0]
def tailE (m:Nat) (S:List (Int × Int)) (L:List Int):Int:=cond (holeE m (-1) S != 0) (holeE m (-1) S) (formE L S)
def runE (s:ByteArray) (n:Int) (m:Nat) (S:List (Int × Int)) (es L:List Int):Int :=
 cond (headE s n m != 0) (headE s n m) (firstNZ [firstNZ es,cond (decide (n+m > 100000000)) 4 0,tailE m S L])
theorem headE_zero {s:ByteArray} {n:Int} {m:Nat} (h:headE s n m=0):nameB s=true∧0≤n∧n≤100000000∧m≤4096:=by
  have hz:=firstNZ_zero h
  have h1:=hz _ (List.mem_cons_self ..)
  have h2:=hz (outB n 0 100000000) (by simp)
  have h3:=hz (cond (decide ((m:Int) > 4096)) 5 0) (by simp)
  refine ⟨?_,?_⟩
  · cases hb:nameB s with
    | true=>rfl
    | false=>rw [hb] at h1;cases h1
  · unfold outB at h2
    by_cases a1:n < 0
    · rw [decide_eq_true a1] at h2;cases h2
    · by_cases a2:n > 100000000
      · rw [decide_eq_true a2,Bool.or_true] at h2;cases h2
      · by_cases a3:(m:Int) > 4096
        · rw [decide_eq_true a3] at h3;cases h3
        · omega
set_option maxRecDepth 10000 in
theorem k41 (H:Has tp) (X:HasX tp) {s:ByteArray} {n:Int} {v1 v2:Value} {F:List Nat} {S:List (Int × Int)} {es L:List Int} {h:TH} (r:RunH h v1 v2 F S) (hE:SErr F es) (hL:firstNZ es=0→Lev F L) (hF:F.length≤1000000) (hS:S.length≤1000000) (f:Free0 h.next h) :
  CallW Tryz.prog tp (.func (.func 70) #[] #[]) #[runV s n v1 v2] h fun v h'=>v=.int .i64 (runE s n F.length S es L)∧HX h h':=by
 refine CallW.full (H.fn 70 f41 rfl rfl) rfl ?_
 refine W.seq (W.reg (WO.boxA rfl fun h1 N1=>WO.as rfl (WO.nil ?_)))
 have q1:=N1.next
 have f1:=f.next N1.hx N1.hx.next
 refine W.seq (W.reg (WO.fa rfl (fa_of fo52_2) (WO.ld rfl (load_one tp43 N1.at_ rfl) (WO.lenC rfl (r.f.hx N1.hx) u43 (WO.as rfl (WO.nil ?_))))))
 refine W.seq (W.reg (WO.fa rfl (fa_of fo52_0) (WO.ld rfl (load_one tp9 N1.at_ rfl) (WO.fa rfl (fa_of fo52_1) (WO.ld rfl (load_one tp3 N1.at_ rfl) (WO.mv rfl (WO.bi rfl rfl rfl ?_)))))))
 refine WO.lq1 [h.next] rfl rfl rfl fun LL hLL=>(k16 H s (h1.withLock LL) (f1.held hLL (by simp;omega))).mono ?_
 rintro v2' h2 ⟨rfl,X2⟩
 have X2:=X2.relock
 generalize h2.withLock h1.lock=h2 at *
 have Y2:=N1.hx.trans X2
 have A2:=N1.at_.hx X2
 refine WO.nt rfl (WO.lk2 rfl rfl rfl fun LL=>(k77 H _ _ _).mono ?_)
 rintro v5 h5 ⟨rfl,rfl⟩
 rw [TH.relock]
 refine WO.cl3 rfl rfl rfl rfl ((k72 H _ _ _ _).mono ?_)
 rintro v5 h5 ⟨rfl,rfl⟩
 refine WO.cl2 rfl rfl rfl ((k77 H _ _ _).mono ?_)
 rintro v5 h5 ⟨rfl,rfl⟩
 refine WO.bslA rfl u166 tp30 (by decide) (by decide) (by decide) (filled_ints3 _ _ _) fun h6 N6=>?_
 refine WO.cl1 rfl rfl ((k71 H (l:=[_,_,_]) N6.at_.get (by simp)).mono ?_)
 rintro v7 h7 ⟨rfl,rfl⟩
 have Y6:=Y2.trans N6.hx
 have A6:=A2.hx N6.hx
 refine WO.as rfl (WO.nil ?_)
 refine W.seq (W.seq (W.reg (WO.mv rfl (WO.bi rfl rfl rfl (WO.nil ?_)))))
 show W Tryz.prog tp false _ (Regs.put _ (some 22) (.bool (headE s n F.length != 0))) _ _
 have hhead:firstNZ [cond (!nameB s) 8 0,outB n 0 100000000,cond (decide ((F.length:Int) > 4096)) 5 0]=headE s n F.length:=rfl
 rw [hhead]
 by_cases he:headE s n F.length=0
 ·rw [show (headE s n F.length != 0)=false by simpa using he]
  refine W.cd rfl (OnB.no (W.skip ?_))
  obtain ⟨_,hn1,hn2,hm⟩:=headE_zero he
  refine W.seq (W.reg (WO.fa rfl (fa_of fo52_2) (WO.ld rfl (load_one tp43 A6 rfl) (WO.fa rfl (fa_of fo52_1) (WO.ld rfl (load_one tp3 A6 rfl) (WO.mv rfl (WO.bi (v:=.int .i64 (n+F.length)) rfl rfl ?_ ?_)))))))
  ·show some (Value.int .i64 (fwrap .i64 (n+(F.length:Int))))=_
   rw [fwrap_i64 (by omega) (by omega)]
  refine WO.bi rfl rfl rfl (WO.fa rfl (fa_of fo52_2) (WO.ld rfl (load_one tp43 A6 rfl) (WO.fa rfl (fa_of fo52_3) (WO.ld rfl (load_one tp44 A6 rfl) ?_))))
  refine WO.lk1 rfl rfl fun LL=>(k99 H X ((r.f.hx Y6).relock LL) hE hF).mono ?_
  rintro v8 h8 ⟨rfl,rfl⟩
  rw [TH.relock]
  refine WO.lk2 rfl rfl rfl fun LL=>(k77 H _ _ _).mono ?_
  rintro v8 h8 ⟨rfl,rfl⟩
  rw [TH.relock]
  refine WO.cl2 rfl rfl rfl ((k100 H (r.hx Y6) hF hS (f.next Y6 Y6.next)).mono ?_)
  rintro v9 h9 ⟨X9,e9,rfl,he9⟩
  refine WO.bslA rfl u166 tp30 (by decide) (by decide) (by decide) (filled_ints3 _ _ _) fun h10 N10=>?_
  refine WO.cl1 rfl rfl ((k71 H (l:=[_,_,_]) N10.at_.get (by simp)).mono ?_)
  rintro v7 h7 ⟨rfl,rfl⟩
  refine WO.as rfl (WO.nil (W.ret ?_))
  refine ⟨.inr rfl,_,rfl,?_,(Y6.trans X9).trans N10.hx⟩
  show Value.int .i64 _=Value.int .i64 _
  congr 1
  unfold runE
  rw [show (headE s n F.length != 0)=false by simpa using he,Bool.cond_false]
  by_cases h0:firstNZ es=0
  ·rw [he9 L (hL h0)];rfl
  ·have hb:(firstNZ es != 0)=true:=by simpa using h0
   simp only [firstNZ] at hb ⊢
   rw [hb];rfl
 ·rw [show (headE s n F.length != 0)=true by simpa using he]
  refine W.cd rfl (OnB.yes (W.seq (W.reg (WO.mv rfl (WO.as rfl (WO.nil (W.ret ?_)))))))
  refine ⟨.inr rfl,_,rfl,?_,Y6⟩
  show Value.int .i64 _=Value.int .i64 _
  unfold runE
  rw [show (headE s n F.length != 0)=true by simpa using he,Bool.cond_true]
end Go.Tidy
namespace Go.Tidy
open Go Go.Proofs Tab
variable {tp:TProg}
def spanE (m:Nat) (p:Int × Int):Int:=cond (decide (p.1 < 0) || (decide (p.2 < p.1) || decide ((m:Int) < p.2))) 14 0
theorem k166 (H:Has tp) {p1 p2:Int} {m:Nat} {h:TH}:CallW Tryz.prog tp (.func (.func 196) #[] #[]) #[.agg #[.int .i64 p1,.int .i64 p2],.int .i64 m] h fun v h'=>v=.int .i64 (spanE m (p1,p2))∧HX h h':=by
 refine CallW.full (H.fn 196 f166 rfl rfl) rfl ?_
 refine W.seq (W.reg (WO.boxA rfl fun h1 N1=>WO.as rfl (WO.nil ?_)))
 have A1:=N1.at_
 refine W.seq (W.reg (WO.fa rfl (fa_of fo48_0) (WO.ld rfl (load_one tp3 A1 rfl) (WO.bi rfl rfl rfl ?_))))
 by_cases c1:p1 < 0
 ·rw [show decide (p1 < 0)=true by simpa using c1]
  refine WO.mv rfl (WO.skp (b:=true) rfl rfl (WO.skp (b:=true) rfl rfl (WO.skp (b:=true) rfl rfl (WO.skp (b:=true) rfl rfl (WO.skp (b:=true) rfl rfl (WO.pk rfl rfl rfl (OnB.yes ?_)))))))
  refine WO.mv rfl (WO.skp (b:=true) rfl rfl (WO.skp (b:=true) rfl rfl (WO.skp (b:=true) rfl rfl (WO.skp (b:=true) rfl rfl (WO.pk rfl rfl rfl (OnB.yes (WO.cl2 rfl rfl rfl ((k32 H _ _ _).mono ?_))))))))
  rintro v2 h2 ⟨rfl,rfl⟩
  refine WO.as rfl (WO.nil (W.ret ⟨.inr rfl,_,rfl,?_,N1.hx⟩))
  simp [spanE,c1];rfl
 ·rw [show decide (p1 < 0)=false by simpa using c1]
  refine WO.mv rfl (WO.now (b:=false) rfl rfl (WO.fa rfl (fa_of fo48_0) (WO.now (b:=false) rfl rfl (WO.ld rfl (load_one tp3 A1 rfl) (WO.now (b:=false) rfl rfl (WO.fa rfl (fa_of fo48_1) (WO.now (b:=false) rfl rfl (WO.ld rfl (load_one tp3 A1 rfl) (WO.now (b:=false) rfl rfl (WO.bi rfl rfl rfl (WO.pk rfl rfl rfl (OnB.no ?_))))))))))))
  by_cases c2:p2 < p1
  ·rw [show decide (p1 > p2)=true by simpa using c2]
   refine WO.mv rfl (WO.skp (b:=true) rfl rfl (WO.skp (b:=true) rfl rfl (WO.skp (b:=true) rfl rfl (WO.skp (b:=true) rfl rfl (WO.pk rfl rfl rfl (OnB.yes (WO.cl2 rfl rfl rfl ((k32 H _ _ _).mono ?_))))))))
   rintro v2 h2 ⟨rfl,rfl⟩
   refine WO.as rfl (WO.nil (W.ret ⟨.inr rfl,_,rfl,?_,N1.hx⟩))
   simp [spanE,c2];rfl
  ·rw [show decide (p1 > p2)=false by simpa using c2]
   refine WO.mv rfl (WO.now (b:=false) rfl rfl (WO.fa rfl (fa_of fo48_1) (WO.now (b:=false) rfl rfl (WO.ld rfl (load_one tp3 A1 rfl) (WO.now (b:=false) rfl rfl (WO.mv rfl (WO.now (b:=false) rfl rfl (WO.bi rfl rfl rfl (WO.pk rfl rfl rfl (OnB.no (WO.cl2 rfl rfl rfl ((k32 H _ _ _).mono ?_))))))))))))
   rintro v2 h2 ⟨rfl,rfl⟩
   refine WO.as rfl (WO.nil (W.ret ⟨.inr rfl,_,rfl,?_,N1.hx⟩))
   show Value.int .i64 (cond (decide (p2 > (m:Int))) 14 0)=_
   simp [spanE,c1,c2]
theorem full_eq (m:Nat) (p:Int × Int):firstNZ [spanE m p,cond (p.1 == p.2) 14 0]=cond (badS m p) 14 0:=by
  unfold spanE badS
  by_cases c1:p.1 < 0
  · simp [c1,firstNZ]
  · by_cases c2:p.2 < p.1
    · have c3:p.2≤p.1:=by omega
      simp [c2,c3,firstNZ]
    · by_cases c3:p.1=p.2
      · have c6:¬ p.2 < 0:=by omega
        by_cases c4:(m:Int) < p.2 <;> simp [c6,c3,c4,firstNZ]
      · have c5:¬ p.2≤p.1:=by omega
        have c6:(p.1 == p.2)=false:=by simpa using c3
        by_cases c4:(m:Int) < p.2 <;> simp [c1,c2,c6,c4,c5,firstNZ]
theorem k142 (H:Has tp) {p1 p2:Int} {m:Nat} {h:TH}:CallW Tryz.prog tp (.func (.func 150) #[] #[]) #[.agg #[.int .i64 p1,.int .i64 p2],.int .i64 m] h fun v h'=>v=.int .i64 (cond (badS m (p1,p2)) 14 0)∧HX h h':=by
 refine CallW.full (H.fn 150 f142 rfl rfl) rfl ?_
 refine W.seq (W.reg (WO.boxA rfl fun h1 N1=>WO.as rfl (WO.nil ?_)))
 have A1:=N1.at_
 refine W.seq (W.reg (WO.ld rfl (load_row tp48 A1 rfl (Nat.le_of_ble_eq_true rfl)) (WO.mv rfl (WO.fa rfl (fa_of fo48_0) (WO.ld rfl (load_one tp3 A1 rfl) (WO.fa rfl (fa_of fo48_1) (WO.ld rfl (load_one tp3 A1 rfl) (WO.bi rfl rfl rfl ?_))))))))
 refine WO.lk2 rfl rfl rfl fun LL=>(k166 H (p1:=p1) (p2:=p2)).mono ?_
 rintro v2 h2 ⟨rfl,X2⟩
 have X2:=X2.relock
 generalize h2.withLock h1.lock=h2 at *
 refine WO.cl2 rfl rfl rfl ((k32 H _ _ _).mono ?_)
 rintro v3 h3 ⟨rfl,rfl⟩
 refine WO.bslA rfl u29 tp3 (by decide) (by decide) (by decide) (filled_ints _ _) fun h6 N6=>?_
 refine WO.cl1 rfl rfl ((k13 H (l:=[_,_]) N6.at_.get (by simp)).mono ?_)
 rintro v7 h7 ⟨rfl,rfl⟩
 refine WO.as rfl (WO.nil (W.ret ⟨.inr rfl,_,rfl,?_,(N1.hx.trans X2).trans N6.hx⟩))
 rw [← full_eq]
 rfl
theorem k92 (H:Has tp) {s:ByteArray} {h:TH}:CallW Tryz.prog tp (.func (.func 75) #[] #[]) #[.string s] h fun v h'=>v=.int .i64 (cond (!nameB s) 8 0)∧h'=h:=by
 refine CallW.full (H.fn 75 f92 rfl rfl) rfl ?_
 refine W.seq (W.reg (WO.as rfl (WO.nil ?_)))
 refine W.seq (W.reg (WO.mv rfl (WO.cl1 rfl rfl ((k17 H s h).mono ?_))))
 rintro v2 h2 ⟨rfl,rfl⟩
 refine WO.nt rfl (WO.cl2 rfl rfl rfl ((k32 H _ _ _).mono ?_))
 rintro v2 h3 ⟨rfl,rfl⟩
 exact WO.as rfl (WO.nil (W.ret ⟨.inr rfl,_,rfl,rfl,rfl⟩))
theorem k93 (H:Has tp) {v:Value} {F:List Nat} {es:List Int} {h:TH} (s:SlL encF 1 h v F) (hE:SErr F es) (hF:F.length≤1000000) :
  CallW Tryz.prog tp (.func (.func 76) #[] #[]) #[v] h fun v' h'=>v'=.int .i64 (firstNZ [cond (decide ((F.length:Int) > 4096)) 5 0,firstNZ es])∧HX h h':=by
 refine CallW.full (H.fn 76 f93 rfl rfl) rfl ?_
 refine W.seq (W.reg (WO.as rfl (WO.nil ?_)))
 refine W.seq (W.reg (WO.mv rfl (WO.lenC rfl s u43 (WO.bi rfl rfl rfl (WO.cl2 rfl rfl rfl ((k32 H _ _ _).mono ?_))))))
 rintro v2 h2 ⟨rfl,rfl⟩
 refine WO.mv rfl (WO.cl1 rfl rfl ((k141 H s hE hF).mono ?_))
 rintro v3 h3 ⟨rfl,rfl⟩
 refine WO.bslA rfl u29 tp3 (by decide) (by decide) (by decide) (filled_ints _ _) fun h6 N6=>?_
 refine WO.cl1 rfl rfl ((k13 H (l:=[_,_]) N6.at_.get (by simp)).mono ?_)
 rintro v7 h7 ⟨rfl,rfl⟩
 exact WO.as rfl (WO.nil (W.ret ⟨.inr rfl,_,rfl,rfl,N6.hx⟩))
end Go.Tidy
namespace Go.Tidy
open Go Go.Proofs Tab
variable {tp:TProg}
set_option maxRecDepth 10000 in
theorem k94 (H:Has tp) {v2:Value} {S:List (Int × Int)} {m:Nat} {h:TH} (s:SlL encS 2 h v2 S) (hS:S.length≤1000000) :
    CallW Tryz.prog tp (.func (.func 77) #[] #[]) #[v2,.int .i64 m] h fun v h'=>v=.int .i64 (holeE m (-1) S)∧HX h h':=by
  refine CallW.full (H.fn 77 f94 rfl rfl) rfl ?_
  refine W.seq (W.reg (WO.as rfl (WO.nil ?_)))
  refine W.seq (W.seq (W.reg (WO.as rfl (WO.nil ?_))))
  refine W.block (W.loop (fun k a h2=>∃ (i:Nat) (prev:Int),i≤S.length∧k=S.length - i∧HX h h2∧holeE m (-1) S=holeE m prev (S.drop i)∧((i=0∧prev=-1)∨(0 < i∧∃ q,S[i - 1]?=some q∧q.2=prev))∧Full 42 a∧Tr.get a 0=some v2∧Tr.get a 1=some (.int .i64 m)∧Tr.get a 5=some (.int .i64 (i:Nat)))
    ?_ S.length _ _ ⟨0,-1,by omega,by omega,HX.refl h,rfl,.inl ⟨rfl,rfl⟩,(by repeat (first | with_reducible refine Full.put ?_ (by decide) _ | with_reducible refine Full.putn ?_ _ | with_reducible exact Full.of _ _ rfl | with_reducible exact Full.start _ _ (Nat.le_of_ble_eq_true rfl) | exact Full.start _ _ (Nat.le_of_ble_eq_true rfl))),rfl,rfl,rfl⟩)
  rintro k a h2 ⟨i,prev,hi,rfl,X2,hE,hprev,hf,i0,i1,i5⟩
  (obtain ⟨rl0,hrl0,rfl⟩:=hf;obtain ⟨s0,s1,s2,s3,s4,s5,s6,s7,rl1,rfl,hrl1⟩:=cons8 hrl0;obtain ⟨s8,s9,s10,s11,s12,s13,s14,s15,rl2,rfl,hrl2⟩:=cons8 hrl1;obtain ⟨s16,s17,s18,s19,s20,s21,s22,s23,rl3,rfl,hrl3⟩:=cons8 hrl2;obtain ⟨s24,s25,s26,s27,s28,s29,s30,s31,rl4,rfl,hrl4⟩:=cons8 hrl3;obtain ⟨s32,s33,s34,s35,s36,s37,s38,s39,rl5,rfl,hrl5⟩:=cons8 hrl4;obtain ⟨s40,rl6,rfl,hrl6⟩:=cons_of hrl5;obtain ⟨s41,rl7,rfl,hrl7⟩:=cons_of hrl6;obtain rfl:=nil_of hrl7;clear hrl0 hrl1 hrl2 hrl3 hrl4 hrl5 hrl6 hrl7;obtain rfl:s0=_:=Option.some.inj (show some s0=some _ from i0);clear i0;obtain rfl:s1=_:=Option.some.inj (show some s1=some _ from i1);clear i1;obtain rfl:s5=_:=Option.some.inj (show some s5=some _ from i5);clear i5)
  refine W.seq (W.seq (W.reg (WO.mv rfl (WO.mv rfl (WO.lenC rfl (s.hx X2) u44 (WO.bi rfl rfl rfl (WO.nil ?_)))))))
  by_cases hlt:i < S.length
  · rw [show decide ((i:Int) < (S.length:Int))=true by simpa using hlt]
    refine W.cd rfl (OnB.yes (W.skip ?_))
    have hS1:S[i]?=some S[i]:=List.getElem?_eq_getElem hlt
    have hdrop:S.drop i=S[i]::S.drop (i+1):=List.drop_eq_getElem_cons hlt
    obtain ⟨b,o,cc,fix,wr,el,e1,e2,e3,e4,e5⟩:=(s.hx X2).at eS u44 tp48 hS1 .i64
    have p0:=e5 0 (by decide)
    refine W.seq (W.block (W.seq (W.reg (WO.mv rfl (WO.mv rfl (WO.ix rfl rfl e1 (WO.ld rfl (load_row tp48 e2 e4 e3) (WO.mv rfl (WO.mv rfl (WO.bi rfl rfl rfl ?_)))))))))) 
    have hnext:((i+1=0∧(S[i]).2=-1)∨(0 < i+1∧∃ q,S[i+1 - 1]?=some q∧q.2=(S[i]).2)):=.inr ⟨by omega,S[i],by rw [Nat.add_sub_cancel];exact hS1,rfl⟩
    generalize hp:S[i]=p at *
    obtain ⟨p1,p2⟩:=p
    refine WO.cl2 rfl rfl rfl ((k142 H (p1:=p1) (p2:=p2)).mono ?_)
    rintro v3 h3 ⟨rfl,X3⟩
    have Y3:=X2.trans X3
    refine WO.cut 15 (WO.mono (Q:=fun a' h'=>h'=h3∧Full 42 a'∧Tr.get a' 0=some s0∧Tr.get a' 1=some (.int .i64 m)∧Tr.get a' 5=some (.int .i64 (i:Nat))∧Tr.get a' 18=some (.int .i64 (cond (badS m (p1,p2)) 14 0))∧∃ q:Bool,Tr.get a' 35=some (.bool q)∧(badS m (p1,p2)=false→q=decide (p1≤prev))) ?_ ?_)
    · rcases hprev with ⟨rfl,rfl⟩ | ⟨h0,q,hq1,hq2⟩
      · refine WO.mv rfl ?_
        rw [show decide (((0:Nat):Int) > 0)=false by decide]
        refine WO.skp (b:=false) rfl rfl (WO.skp (b:=false) rfl rfl (WO.skp (b:=false) rfl rfl (WO.skp (b:=false) rfl rfl (WO.skp (b:=false) rfl rfl (WO.skp (b:=false) rfl rfl (WO.skp (b:=false) rfl rfl (WO.skp (b:=false) rfl rfl (WO.skp (b:=false) rfl rfl (WO.skp (b:=false) rfl rfl (WO.skp (b:=false) rfl rfl (WO.skp (b:=false) rfl rfl (WO.skp (b:=false) rfl rfl (WO.pk rfl rfl rfl (OnB.no (WO.nil ?_)))))))))))))))
        refine ⟨rfl,(by repeat (first | with_reducible refine Full.put ?_ (by decide) _ | with_reducible refine Full.putn ?_ _ | with_reducible exact Full.of _ _ rfl | with_reducible exact Full.start _ _ (Nat.le_of_ble_eq_true rfl) | exact Full.start _ _ (Nat.le_of_ble_eq_true rfl))),rfl,rfl,rfl,rfl,false,rfl,fun hb=>?_⟩
        unfold badS at hb
        simp only [Bool.or_eq_false_iff,decide_eq_false_iff_not] at hb
        exact (decide_eq_false (by omega)).symm
      · refine WO.mv rfl ?_
        rw [show decide ((i:Int) > 0)=true by simpa using h0]
        obtain ⟨b',o',cc',fix',wr',el',g1,g2,g3,g4,g5⟩:=(s.hx Y3).at eS u44 tp48 hq1 .i64
        refine WO.now (b:=true) rfl rfl (WO.mv rfl (WO.now (b:=true) rfl rfl (WO.mv rfl (WO.now (b:=true) rfl rfl (WO.ix rfl rfl e1 (WO.now (b:=true) rfl rfl (WO.fa rfl (fa_of fo48_0) (WO.now (b:=true) rfl rfl (WO.ld rfl (load_one tp3 (e2.hx X3) (e5 0 (by decide))) ?_)))))))))
        refine WO.now (b:=true) rfl rfl (WO.mv rfl (WO.now (b:=true) rfl rfl (WO.mv rfl (WO.now (b:=true) rfl rfl (WO.bi (v:=.int .i64 ((i - 1:Nat):Int)) rfl rfl ?_ ?_)))))
        · show some (Value.int .i64 (fwrap .i64 ((i:Int) - 1)))=_
          rw [fwrap_i64 (by omega) (by omega)]
          congr 2
          omega
        refine WO.now (b:=true) rfl rfl (WO.max rfl rfl ?_)
        rw [show max (0:Int) ((i - 1:Nat):Int)=((i - 1:Nat):Int) by omega]
        refine WO.now (b:=true) rfl rfl (WO.ix rfl rfl g1 (WO.now (b:=true) rfl rfl (WO.fa rfl (fa_of fo48_1) (WO.now (b:=true) rfl rfl (WO.ld rfl (load_one tp3 g2 (g5 1 (by decide))) (WO.now (b:=true) rfl rfl (WO.bi rfl rfl rfl (WO.pk rfl rfl rfl (OnB.yes (WO.nil ?_))))))))))
        refine ⟨rfl,(by repeat (first | with_reducible refine Full.put ?_ (by decide) _ | with_reducible refine Full.putn ?_ _ | with_reducible exact Full.of _ _ rfl | with_reducible exact Full.start _ _ (Nat.le_of_ble_eq_true rfl) | exact Full.start _ _ (Nat.le_of_ble_eq_true rfl))),rfl,rfl,rfl,rfl,decide (p1≤q.2),rfl,fun _=>by rw [hq2]⟩
    · rintro a' h' ⟨rfl,hf',j0,j1,j5,j18,q,j35,hq⟩
      (obtain ⟨rl0,hrl0,rfl⟩:=hf';obtain ⟨s0,s1,s2,s3,s4,s5,s6,s7,rl1,rfl,hrl1⟩:=cons8 hrl0;obtain ⟨s8,s9,s10,s11,s12,s13,s14,s15,rl2,rfl,hrl2⟩:=cons8 hrl1;obtain ⟨s16,s17,s18,s19,s20,s21,s22,s23,rl3,rfl,hrl3⟩:=cons8 hrl2;obtain ⟨s24,s25,s26,s27,s28,s29,s30,s31,rl4,rfl,hrl4⟩:=cons8 hrl3;obtain ⟨s32,s33,s34,s35,s36,s37,s38,s39,rl5,rfl,hrl5⟩:=cons8 hrl4;obtain ⟨s40,rl6,rfl,hrl6⟩:=cons_of hrl5;obtain ⟨s41,rl7,rfl,hrl7⟩:=cons_of hrl6;obtain rfl:=nil_of hrl7;clear hrl0 hrl1 hrl2 hrl3 hrl4 hrl5 hrl6 hrl7;obtain rfl:s0=_:=Option.some.inj (show some s0=some _ from j0);clear j0;obtain rfl:s1=_:=Option.some.inj (show some s1=some _ from j1);clear j1;obtain rfl:s5=_:=Option.some.inj (show some s5=some _ from j5);clear j5;obtain rfl:s18=_:=Option.some.inj (show some s18=some _ from j18);clear j18;obtain rfl:s35=_:=Option.some.inj (show some s35=some _ from j35);clear j35)
      refine WO.cl2 rfl rfl rfl ((k32 H _ _ _).mono ?_)
      rintro v5 h5 ⟨rfl,rfl⟩
      refine WO.bslA rfl u29 tp3 (by decide) (by decide) (by decide) (filled_ints _ _) fun h6 N6=>?_
      refine WO.cl1 rfl rfl ((k13 H (l:=[_,_]) N6.at_.get (by simp)).mono ?_)
      rintro v7 h7 ⟨rfl,rfl⟩
      have X6:=Y3.trans N6.hx
      refine WO.as rfl (WO.nil ?_)
      have hstep:holeE m prev ((p1,p2)::S.drop (i+1))=cond (firstNZ [cond (badS m (p1,p2)) 14 0,cond q 11 0] != 0) (firstNZ [cond (badS m (p1,p2)) 14 0,cond q 11 0]) (holeE m p2 (S.drop (i+1))):=by
        rw [holeE_cons]
        show cond (badS m (p1,p2)) 14 (cond (decide (p1≤prev)) 11 (holeE m p2 (S.drop (i+1))))=_
        cases hb:badS m (p1,p2) with
        | true=>rfl
        | false=>rw [hq hb];cases decide (p1≤prev) <;> rfl
      rw [hdrop,hstep] at hE
      refine W.seq (W.reg (WO.mv rfl (WO.bi rfl rfl rfl (WO.nil ?_))))
      show W Tryz.prog tp false _ (Regs.put _ (some 40) (.bool (firstNZ [cond (badS m (p1,p2)) 14 0,cond q 11 0] != 0))) _ _
      generalize firstNZ [cond (badS m (p1,p2)) 14 0,cond q 11 0]=e at *
      by_cases he:e=0
      · rw [show (e != 0)=false by simpa using he] at *
        refine W.cd rfl (OnB.no (W.skip ?_))
        refine W.reg (WO.mv rfl (WO.bi rfl rfl rfl (WO.as rfl (WO.nil ?_))))
        refine ⟨S.length - (i+1),by omega,i+1,p2,by omega,rfl,X6,hE,hnext,(by repeat (first | with_reducible refine Full.put ?_ (by decide) _ | with_reducible refine Full.putn ?_ _ | with_reducible exact Full.of _ _ rfl | with_reducible exact Full.start _ _ (Nat.le_of_ble_eq_true rfl) | exact Full.start _ _ (Nat.le_of_ble_eq_true rfl))),rfl,rfl,?_⟩
        show some (Value.int .i64 (fwrap .i64 ((i:Int)+1)))=_
        rw [fwrap_i64 (by omega) (by omega)]
        rfl
      · rw [show (e != 0)=true by simpa using he] at *
        rw [Bool.cond_true] at hE
        refine W.cd rfl (OnB.yes (W.seq (W.reg (WO.mv rfl (WO.as rfl (WO.nil (W.ret ?_)))))))
        exact ⟨.inr rfl,_,rfl,by rw [hE];rfl,X6⟩
  · rw [show decide ((i:Int) < (S.length:Int))=false by simpa using hlt]
    refine W.cd rfl (OnB.no (W.exit ?_))
    obtain rfl:i=S.length:=by omega
    rw [List.drop_length] at hE
    refine W.seq (W.reg (WO.as rfl (WO.nil (W.ret ?_))))
    exact ⟨.inr rfl,_,rfl,by rw [hE];rfl,X2⟩
end Go.Tidy
namespace Go.Tidy
open Go Go.Proofs Tab
variable {tp:TProg}
def inS (x:Int) (p:Int × Int):Bool:=decide (x ≥ p.1) && decide (x < p.2)
def knownB (S:List (Int × Int)) (x:Int):Bool:=!S.any (inS x)
set_option maxRecDepth 10000 in
theorem k39 (H:Has tp) {s:ByteArray} {n x:Int} {v1 v2:Value} {S:List (Int × Int)} {h:TH} (r:SlL encS 2 h v2 S) (hS:S.length≤1000000) :
    CallW Tryz.prog tp (.func (.func 35) #[] #[]) #[runV s n v1 v2,.int .i64 x] h fun v h'=>v=.bool (knownB S x)∧HX h h':=by
  refine CallW.full (H.fn 35 f39 rfl rfl) rfl ?_
  refine W.seq (W.reg (WO.boxA rfl fun h1 N1=>WO.as rfl (WO.nil ?_)))
  have A1:=N1.at_
  have s1:=r.hx N1.hx
  refine W.seq (W.seq (W.reg (WO.as rfl (WO.nil ?_))))
  refine W.block (W.loop (fun k a h2=>h2=h1∧∃ (i:Nat),i≤S.length∧k=S.length - i∧(S.take i).any (inS x)=false∧Full 31 a∧Tr.get a 1=some (.int .i64 x)∧Tr.get a 2=some (.pointer (some ⟨h.next,0,none⟩))∧Tr.get a 5=some (.int .i64 (i:Nat)))
    ?_ S.length _ _ ⟨rfl,0,by omega,by omega,rfl,(by repeat (first | with_reducible refine Full.put ?_ (by decide) _ | with_reducible refine Full.putn ?_ _ | with_reducible exact Full.of _ _ rfl | with_reducible exact Full.start _ _ (Nat.le_of_ble_eq_true rfl) | exact Full.start _ _ (Nat.le_of_ble_eq_true rfl))),rfl,rfl,rfl⟩)
  rintro k a h2 ⟨rfl,i,hi,rfl,hz,hf,i1,i2,i5⟩
  (obtain ⟨rl0,hrl0,rfl⟩:=hf;obtain ⟨s0,s1,s2,s3,s4,s5,s6,s7,rl1,rfl,hrl1⟩:=cons8 hrl0;obtain ⟨s8,s9,s10,s11,s12,s13,s14,s15,rl2,rfl,hrl2⟩:=cons8 hrl1;obtain ⟨s16,s17,s18,s19,s20,s21,s22,s23,rl3,rfl,hrl3⟩:=cons8 hrl2;obtain ⟨s24,rl4,rfl,hrl4⟩:=cons_of hrl3;obtain ⟨s25,rl5,rfl,hrl5⟩:=cons_of hrl4;obtain ⟨s26,rl6,rfl,hrl6⟩:=cons_of hrl5;obtain ⟨s27,rl7,rfl,hrl7⟩:=cons_of hrl6;obtain ⟨s28,rl8,rfl,hrl8⟩:=cons_of hrl7;obtain ⟨s29,rl9,rfl,hrl9⟩:=cons_of hrl8;obtain ⟨s30,rl10,rfl,hrl10⟩:=cons_of hrl9;obtain rfl:=nil_of hrl10;clear hrl0 hrl1 hrl2 hrl3 hrl4 hrl5 hrl6 hrl7 hrl8 hrl9 hrl10;obtain rfl:s1=_:=Option.some.inj (show some s1=some _ from i1);clear i1;obtain rfl:s2=_:=Option.some.inj (show some s2=some _ from i2);clear i2;obtain rfl:s5=_:=Option.some.inj (show some s5=some _ from i5);clear i5)
  refine W.seq (W.seq (W.reg (WO.mv rfl (WO.fa rfl (fa_of fo46_3) (WO.ld rfl (load_one tp44 A1 rfl) (WO.lenC rfl s1 u44 (WO.bi rfl rfl rfl (WO.nil ?_))))))))
  by_cases hlt:i < S.length
  · rw [show decide ((i:Int) < (S.length:Int))=true by simpa using hlt]
    refine W.cd rfl (OnB.yes (W.skip ?_))
    have hS1:S[i]?=some S[i]:=List.getElem?_eq_getElem hlt
    have hany:(S.take (i+1)).any (inS x)=inS x S[i]:=by rw [← List.take_append_getElem hlt,List.any_append,hz];simp
    have hmem:S[i] ∈ S:=List.getElem_mem hlt
    obtain ⟨b,o,cc,fix,wr,el,e1,e2,e3,e4,e5⟩:=s1.at eS u44 tp48 hS1 .i64
    generalize S[i]=p at *
    obtain ⟨p1,p2⟩:=p
    refine W.seq (W.block (W.seq (W.mono (Q:=fun y a' h'=>y=.normal∧h'=h2∧Full 31 a'∧Tr.get a' 1=some (.int .i64 x)∧Tr.get a' 2=some (.pointer (some ⟨h.next,0,none⟩))∧Tr.get a' 5=some (.int .i64 (i:Nat))∧Tr.get a' 30=some (.bool (inS x (p1,p2)))) ?_ ?_)))
    · refine W.reg (WO.mv rfl (WO.fa rfl (fa_of fo46_3) (WO.ld rfl (load_one tp44 A1 rfl) (WO.mv rfl (WO.ix rfl rfl e1 (WO.fa rfl (fa_of fo48_0) (WO.ld rfl (load_one tp3 e2 (e5 0 (by decide))) (WO.bi rfl rfl rfl ?_))))))))
      by_cases c1:x ≥ p1
      · rw [show decide (x ≥ p1)=true by simpa using c1]
        refine WO.mv rfl (WO.now (b:=true) rfl rfl (WO.mv rfl (WO.now (b:=true) rfl rfl (WO.fa rfl (fa_of fo46_3) (WO.now (b:=true) rfl rfl (WO.ld rfl (load_one tp44 A1 rfl) (WO.now (b:=true) rfl rfl (WO.mv rfl (WO.now (b:=true) rfl rfl (WO.ix rfl rfl e1 ?_))))))))))
        refine WO.now (b:=true) rfl rfl (WO.fa rfl (fa_of fo48_1) (WO.now (b:=true) rfl rfl (WO.ld rfl (load_one tp3 e2 (e5 1 (by decide))) (WO.now (b:=true) rfl rfl (WO.bi rfl rfl rfl (WO.pk rfl rfl rfl (OnB.yes (WO.nil ?_))))))))
        refine ⟨rfl,rfl,(by repeat (first | with_reducible refine Full.put ?_ (by decide) _ | with_reducible refine Full.putn ?_ _ | with_reducible exact Full.of _ _ rfl | with_reducible exact Full.start _ _ (Nat.le_of_ble_eq_true rfl) | exact Full.start _ _ (Nat.le_of_ble_eq_true rfl))),rfl,rfl,rfl,?_⟩
        show some (Value.bool (decide (x < p2)))=_
        simp [inS,c1]
      · rw [show decide (x ≥ p1)=false by simpa using c1]
        refine WO.mv rfl (WO.skp (b:=false) rfl rfl (WO.skp (b:=false) rfl rfl (WO.skp (b:=false) rfl rfl (WO.skp (b:=false) rfl rfl (WO.skp (b:=false) rfl rfl (WO.skp (b:=false) rfl rfl (WO.skp (b:=false) rfl rfl (WO.skp (b:=false) rfl rfl (WO.pk rfl rfl rfl (OnB.no (WO.nil ?_)))))))))))
        refine ⟨rfl,rfl,(by repeat (first | with_reducible refine Full.put ?_ (by decide) _ | with_reducible refine Full.putn ?_ _ | with_reducible exact Full.of _ _ rfl | with_reducible exact Full.start _ _ (Nat.le_of_ble_eq_true rfl) | exact Full.start _ _ (Nat.le_of_ble_eq_true rfl))),rfl,rfl,rfl,?_⟩
        simp [inS,c1]
        rfl
    · rintro y a' h' ⟨rfl,rfl,hf',j1,j2,j5,j30⟩
      (obtain ⟨rl0,hrl0,rfl⟩:=hf';obtain ⟨s0,s1,s2,s3,s4,s5,s6,s7,rl1,rfl,hrl1⟩:=cons8 hrl0;obtain ⟨s8,s9,s10,s11,s12,s13,s14,s15,rl2,rfl,hrl2⟩:=cons8 hrl1;obtain ⟨s16,s17,s18,s19,s20,s21,s22,s23,rl3,rfl,hrl3⟩:=cons8 hrl2;obtain ⟨s24,rl4,rfl,hrl4⟩:=cons_of hrl3;obtain ⟨s25,rl5,rfl,hrl5⟩:=cons_of hrl4;obtain ⟨s26,rl6,rfl,hrl6⟩:=cons_of hrl5;obtain ⟨s27,rl7,rfl,hrl7⟩:=cons_of hrl6;obtain ⟨s28,rl8,rfl,hrl8⟩:=cons_of hrl7;obtain ⟨s29,rl9,rfl,hrl9⟩:=cons_of hrl8;obtain ⟨s30,rl10,rfl,hrl10⟩:=cons_of hrl9;obtain rfl:=nil_of hrl10;clear hrl0 hrl1 hrl2 hrl3 hrl4 hrl5 hrl6 hrl7 hrl8 hrl9 hrl10;obtain rfl:s1=_:=Option.some.inj (show some s1=some _ from j1);clear j1;obtain rfl:s2=_:=Option.some.inj (show some s2=some _ from j2);clear j2;obtain rfl:s5=_:=Option.some.inj (show some s5=some _ from j5);clear j5;obtain rfl:s30=_:=Option.some.inj (show some s30=some _ from j30);clear j30)
      cases hq:inS x (p1,p2) with
      | true =>
        refine W.cd rfl (OnB.yes (W.seq (W.reg (WO.as rfl (WO.nil (W.ret ?_))))))
        refine ⟨.inr rfl,_,rfl,?_,N1.hx⟩
        have:S.any (inS x)=true:=List.any_eq_true.2 ⟨_,hmem,hq⟩
        unfold knownB
        rw [this];rfl
      | false =>
        refine W.cd rfl (OnB.no (W.skip ?_))
        refine W.reg (WO.mv rfl (WO.bi rfl rfl rfl (WO.as rfl (WO.nil ?_))))
        refine ⟨S.length - (i+1),by omega,rfl,i+1,by omega,rfl,by rw [hany];exact hq,(by repeat (first | with_reducible refine Full.put ?_ (by decide) _ | with_reducible refine Full.putn ?_ _ | with_reducible exact Full.of _ _ rfl | with_reducible exact Full.start _ _ (Nat.le_of_ble_eq_true rfl) | exact Full.start _ _ (Nat.le_of_ble_eq_true rfl))),rfl,rfl,?_⟩
        show some (Value.int .i64 (fwrap .i64 ((i:Int)+1)))=_
        rw [fwrap_i64 (by omega) (by omega)]
        rfl
  · rw [show decide ((i:Int) < (S.length:Int))=false by simpa using hlt]
    refine W.cd rfl (OnB.no (W.exit ?_))
    obtain rfl:i=S.length:=by omega
    refine W.seq (W.reg (WO.as rfl (WO.nil (W.ret ?_))))
    rw [List.take_length] at hz
    refine ⟨.inr rfl,_,rfl,?_,N1.hx⟩
    unfold knownB
    rw [hz];rfl
end Go.Tidy
namespace Go.Tidy
open Go Go.Proofs Tab
variable {tp:TProg}
theorem anyIn_iff {L:List Int} {p:Int × Int} (h1:0≤p.1) (h2:p.1≤p.2):anyIn L p=true ↔ ∃ (j:Nat) (x:Int),L[j]?=some x∧x≠0∧inS j p=true:=by
 unfold anyIn
 rw [List.any_eq_true]
 constructor
 ·rintro ⟨x,hx,h0⟩
  obtain ⟨k,hk⟩:=List.mem_iff_getElem?.1 hx
  have hlt:k < p.2.toNat - p.1.toNat:=by
   have:=(List.getElem?_eq_some_iff.1 hk).1
   simp at this
   omega
  rw [List.getElem?_take_of_lt hlt,List.getElem?_drop] at hk
  refine ⟨p.1.toNat+k,x,hk,by simpa using h0,?_⟩
  unfold inS
  rw [decide_eq_true (by omega),decide_eq_true (by omega)];rfl
 ·rintro ⟨j,x,hj,h0,hin⟩
  unfold inS at hin
  simp only [Bool.and_eq_true,decide_eq_true_eq] at hin
  refine ⟨x,List.mem_iff_getElem?.2 ⟨j - p.1.toNat,?_⟩,by simpa using h0⟩
  rw [List.getElem?_take_of_lt (by omega),List.getElem?_drop,show p.1.toNat+(j - p.1.toNat)=j by omega]
  exact hj
theorem form_iff {L:List Int} {S:List (Int × Int)} {m:Nat} (hin:In m S):S.any (anyIn L)=true ↔ ∃ (j:Nat) (x:Int),L[j]?=some x∧x≠0∧knownB S j=false:=by
 rw [List.any_eq_true]
 constructor
 ·rintro ⟨p,hp,ha⟩
  obtain ⟨g1,g2,g3⟩:=hin p hp
  obtain ⟨j,x,hj,h0,hk⟩:=(anyIn_iff g1 g2).1 ha
  refine ⟨j,x,hj,h0,?_⟩
  unfold knownB
  rw [List.any_eq_true.2 ⟨p,hp,hk⟩];rfl
 ·rintro ⟨j,x,hj,h0,hk⟩
  unfold knownB at hk
  have hk:S.any (inS j)=true:=by simpa using hk
  obtain ⟨p,hp,hpj⟩:=List.any_eq_true.1 hk
  obtain ⟨g1,g2,g3⟩:=hin p hp
  exact ⟨p,hp,(anyIn_iff g1 g2).2 ⟨j,x,hj,h0,hpj⟩⟩
theorem nz_cases (a:Int):a=0∨(a != 0)=true:=by
 by_cases h:a=0
 ·exact .inl h
 ·exact .inr (by simpa using h)
theorem first_mix (a b c d g g':Int) (hg:c=0→g'=g):firstNZ [a,b,firstNZ [c,d],g']=cond (firstNZ [a,b,c] != 0) (firstNZ [a,b,c]) (firstNZ [d,g]):=by
  rcases nz_cases a with rfl | ha
  · rcases nz_cases b with rfl | hb
    · rcases nz_cases c with rfl | hc
      · rw [hg rfl]
        rcases nz_cases d with rfl | hd
        · simp [firstNZ]
        · simp [firstNZ,hd]
      · simp [firstNZ,hc]
    · simp [firstNZ,hb]
  · simp [firstNZ,ha]
theorem first_more (a b c:Int):firstNZ [a,b,c]=cond (firstNZ [a,b] != 0) (firstNZ [a,b]) c:=by
 rcases nz_cases a with rfl | ha
 ·rcases nz_cases b with rfl | hb
  ·rcases nz_cases c with rfl | hc
   ·simp [firstNZ]
   ·simp [firstNZ,hc]
  ·simp [firstNZ,hb]
 ·simp [firstNZ,ha]
def lookE (s:ByteArray) (n:Int) (m:Nat) (es:List Int):Int:=firstNZ [cond (!nameB s) 8 0,outB n 0 100000000,firstNZ [cond (decide ((m:Int) > 4096)) 5 0,firstNZ es],cond (decide (n > 100000000 - m) && decide ((m:Int)≤4096)) 4 0]
theorem runE_look (s:ByteArray) (n:Int) (m:Nat) (S:List (Int × Int)) (es L:List Int):runE s n m S es L=cond (lookE s n m es != 0) (lookE s n m es) (tailE m S L):=by
 unfold runE
 rw [first_more]
 have:lookE s n m es=cond (headE s n m != 0) (headE s n m) (firstNZ [firstNZ es,cond (decide (n+m > 100000000)) 4 0]):=by
  unfold lookE headE
  refine first_mix _ _ _ _ _ _ fun hc=>?_
  by_cases hm:(m:Int) > 4096
  ·rw [decide_eq_true hm] at hc;cases hc
  ·rw [decide_eq_true (show (m:Int)≤4096 by omega),Bool.and_true]
   congr 1
   exact decide_eq_decide.2 (by omega)
 rw [this]
 by_cases h1:headE s n m=0
 ·rw [show (headE s n m != 0)=false by simpa using h1];rfl
 ·rw [show (headE s n m != 0)=true by simpa using h1]
  simp only [Bool.cond_true]
  rw [show (headE s n m != 0)=true by simpa using h1];rfl
theorem lookE_zero {s:ByteArray} {n:Int} {m:Nat} {es:List Int} (h:lookE s n m es=0):firstNZ es=0:=by
 have h1:=firstNZ_zero h (firstNZ [cond (decide ((m:Int) > 4096)) 5 0,firstNZ es]) (by simp)
 exact firstNZ_zero h1 (firstNZ es) (by simp)
set_option maxRecDepth 10000 in
theorem k31 (H:Has tp) {s:ByteArray} {n:Int} {v1 v2:Value} {F:List Nat} {S:List (Int × Int)} {es L:List Int} {h:TH} (r:RunH h v1 v2 F S) (hE:SErr F es) (hL:firstNZ es=0→Lev F L) (hF:F.length≤1000000) (hS:S.length≤1000000) :
    CallW Tryz.prog tp (.func (.func 13) #[] #[]) #[runV s n v1 v2] h fun v h'=>v=.int .i64 (runE s n F.length S es L)∧HX h h':=by
  refine CallW.full (H.fn 13 f31 rfl rfl) rfl ?_
  refine W.seq (W.reg (WO.boxA rfl fun h1 N1=>WO.as rfl (WO.nil ?_)))
  have A1:=N1.at_
  refine W.seq (W.seq (W.reg (WO.fa rfl (fa_of fo46_0) (WO.ld rfl (load_one tp9 A1 rfl) (WO.fa rfl (fa_of fo46_1) (WO.ld rfl (load_one tp3 A1 rfl) (WO.fa rfl (fa_of fo46_2) (WO.ld rfl (load_one tp43 A1 rfl) (WO.fa rfl (fa_of fo46_1) (WO.ld rfl (load_one tp3 A1 rfl) (WO.fa rfl (fa_of fo46_2) (WO.ld rfl (load_one tp43 A1 rfl) (WO.lenC rfl (r.f.hx N1.hx) u43 (WO.bi (v:=.int .i64 (100000000 - F.length)) rfl rfl ?_ ?_))))))))))))))
  · show some (Value.int .i64 (fwrap .i64 (100000000 - (F.length:Int))))=_
    rw [fwrap_i64 (by omega) (by omega)]
  refine WO.bi rfl rfl rfl (WO.lk1 rfl rfl fun LL=>(k92 H).mono ?_)
  rintro v2' h2 ⟨rfl,rfl⟩
  rw [TH.relock]
  refine WO.lk3 rfl rfl rfl rfl fun LL=>(k14 H _ _ _ _).mono ?_
  rintro v2' h2 ⟨rfl,rfl⟩
  rw [TH.relock]
  refine WO.lk1 rfl rfl fun LL=>(k93 H ((r.f.hx N1.hx).relock LL) hE hF).mono ?_
  rintro v2' h2 ⟨rfl,X2⟩
  have X2:=X2.relock
  generalize h2.withLock h1.lock=h2 at *
  have Y2:=N1.hx.trans X2
  have A2:=A1.hx X2
  refine WO.cut 6 (WO.mono (Q:=fun a' h'=>h'=h2∧Full 62 a'∧Tr.get a' 1=some (.pointer (some ⟨h.next,0,none⟩))∧Tr.get a' 8=some (.int .i64 (cond (!nameB s) 8 0))∧Tr.get a' 11=some (.int .i64 (outB n 0 100000000))∧Tr.get a' 14=some (.int .i64 (firstNZ [cond (decide ((F.length:Int) > 4096)) 5 0,firstNZ es]))∧Tr.get a' 27=some (.bool (decide (n > 100000000 - F.length) && decide ((F.length:Int)≤4096)))) ?_ ?_)
  · by_cases c1:n > 100000000 - F.length
    · rw [show decide (n > 100000000 - (F.length:Int))=true by simpa using c1]
      refine WO.mv rfl (WO.now (b:=true) rfl rfl (WO.fa rfl (fa_of fo46_2) (WO.now (b:=true) rfl rfl (WO.ld rfl (load_one tp43 A2 rfl) (WO.now (b:=true) rfl rfl (WO.lenC rfl (r.f.hx Y2) u43 (WO.now (b:=true) rfl rfl (WO.bi rfl rfl rfl (WO.pk rfl rfl rfl (OnB.yes (WO.nil ?_)))))))))))
      exact ⟨rfl,(by repeat (first | with_reducible refine Full.put ?_ (by decide) _ | with_reducible refine Full.putn ?_ _ | with_reducible exact Full.of _ _ rfl | with_reducible exact Full.start _ _ (Nat.le_of_ble_eq_true rfl) | exact Full.start _ _ (Nat.le_of_ble_eq_true rfl))),rfl,rfl,rfl,rfl,rfl⟩
    · rw [show decide (n > 100000000 - (F.length:Int))=false by simpa using c1]
      refine WO.mv rfl (WO.skp (b:=false) rfl rfl (WO.skp (b:=false) rfl rfl (WO.skp (b:=false) rfl rfl (WO.skp (b:=false) rfl rfl (WO.pk rfl rfl rfl (OnB.no (WO.nil ?_)))))))
      exact ⟨rfl,(by repeat (first | with_reducible refine Full.put ?_ (by decide) _ | with_reducible refine Full.putn ?_ _ | with_reducible exact Full.of _ _ rfl | with_reducible exact Full.start _ _ (Nat.le_of_ble_eq_true rfl) | exact Full.start _ _ (Nat.le_of_ble_eq_true rfl))),rfl,rfl,rfl,rfl,rfl⟩
  rintro a' h' ⟨rfl,hf',j1,j8,j11,j14,j27⟩
  (obtain ⟨rl0,hrl0,rfl⟩:=hf';obtain ⟨s0,s1,s2,s3,s4,s5,s6,s7,rl1,rfl,hrl1⟩:=cons8 hrl0;obtain ⟨s8,s9,s10,s11,s12,s13,s14,s15,rl2,rfl,hrl2⟩:=cons8 hrl1;obtain ⟨s16,s17,s18,s19,s20,s21,s22,s23,rl3,rfl,hrl3⟩:=cons8 hrl2;obtain ⟨s24,s25,s26,s27,s28,s29,s30,s31,rl4,rfl,hrl4⟩:=cons8 hrl3;obtain ⟨s32,s33,s34,s35,s36,s37,s38,s39,rl5,rfl,hrl5⟩:=cons8 hrl4;obtain ⟨s40,s41,s42,s43,s44,s45,s46,s47,rl6,rfl,hrl6⟩:=cons8 hrl5;obtain ⟨s48,s49,s50,s51,s52,s53,s54,s55,rl7,rfl,hrl7⟩:=cons8 hrl6;obtain ⟨s56,rl8,rfl,hrl8⟩:=cons_of hrl7;obtain ⟨s57,rl9,rfl,hrl9⟩:=cons_of hrl8;obtain ⟨s58,rl10,rfl,hrl10⟩:=cons_of hrl9;obtain ⟨s59,rl11,rfl,hrl11⟩:=cons_of hrl10;obtain ⟨s60,rl12,rfl,hrl12⟩:=cons_of hrl11;obtain ⟨s61,rl13,rfl,hrl13⟩:=cons_of hrl12;obtain rfl:=nil_of hrl13;clear hrl0 hrl1 hrl2 hrl3 hrl4 hrl5 hrl6 hrl7 hrl8 hrl9 hrl10 hrl11 hrl12 hrl13;obtain rfl:s1=_:=Option.some.inj (show some s1=some _ from j1);clear j1;obtain rfl:s8=_:=Option.some.inj (show some s8=some _ from j8);clear j8;obtain rfl:s11=_:=Option.some.inj (show some s11=some _ from j11);clear j11;obtain rfl:s14=_:=Option.some.inj (show some s14=some _ from j14);clear j14;obtain rfl:s27=_:=Option.some.inj (show some s27=some _ from j27);clear j27)
  refine WO.cl2 rfl rfl rfl ((k32 H _ _ _).mono ?_)
  rintro v5 h5 ⟨rfl,rfl⟩
  refine WO.bslA rfl u29 tp3 (by decide) (by decide) (by decide) (filled_ints4 _ _ _ _) fun h6 N6=>?_
  refine WO.cl1 rfl rfl ((k13 H (l:=[_,_,_,_]) N6.at_.get (by simp)).mono ?_)
  rintro v7 h7 ⟨rfl,rfl⟩
  have Y6:=Y2.trans N6.hx
  have A6:=A2.hx N6.hx
  refine WO.as rfl (WO.nil ?_)
  refine W.seq (W.reg (WO.mv rfl (WO.bi rfl rfl rfl (WO.nil ?_))))
  have hlook:firstNZ [cond (!nameB s) 8 0,outB n 0 100000000,firstNZ [cond (decide ((F.length:Int) > 4096)) 5 0,firstNZ es],cond (decide (n > 100000000 - F.length) && decide ((F.length:Int)≤4096)) 4 0]=lookE s n F.length es:=rfl
  rw [hlook]
  show W Tryz.prog tp false _ (Regs.put _ (some 32) (.bool (lookE s n F.length es != 0))) _ _
  rw [runE_look]
  by_cases he:lookE s n F.length es=0
  · have hlev:=hL (lookE_zero he)
    rw [show (lookE s n F.length es != 0)=false by simpa using he]
    refine W.cd rfl (OnB.no (W.skip ?_))
    refine W.seq (W.seq (W.reg (WO.fa rfl (fa_of fo46_3) (WO.ld rfl (load_one tp44 A6 rfl) (WO.fa rfl (fa_of fo46_2) (WO.ld rfl (load_one tp43 A6 rfl) (WO.lenC rfl (r.f.hx Y6) u43 (WO.cl2 rfl rfl rfl ((k94 H (r.s.hx Y6) hS).mono ?_)))))))))
    rintro v8 h8 ⟨rfl,X8⟩
    have Y8:=Y6.trans X8
    have A8:=A6.hx X8
    refine WO.as rfl (WO.nil ?_)
    refine W.seq (W.reg (WO.mv rfl (WO.bi rfl rfl rfl (WO.nil ?_))))
    by_cases h0:holeE F.length (-1) S=0
    · rw [show (holeE F.length (-1) S != 0)=false by simpa using h0]
      refine W.cd rfl (OnB.no (W.skip ?_))
      have hin:=holeE_in h0
      have htail:tailE F.length S L=formE L S:=by unfold tailE;rw [h0];rfl
      rw [Bool.cond_false,htail]
      refine W.seq (W.seq (W.reg (WO.as rfl (WO.nil ?_))))
      refine W.block (W.loop (fun k a h2=>∃ (i:Nat),i≤F.length∧k=F.length - i∧HX h h2∧At h2 h.next (.cells (runV s n v1 v2).cells.toList true true 25)∧(∀ (j:Nat) (x:Int),j < i→L[j]?=some x→x≠0→knownB S j=true)∧Full 62 a∧Tr.get a 1=some (.pointer (some ⟨h.next,0,none⟩))∧Tr.get a 5=some (.int .i64 (i:Nat)))
        ?_ F.length _ _ ⟨0,by omega,by omega,Y8,A8,fun j x hj=>by omega,(by repeat (first | with_reducible refine Full.put ?_ (by decide) _ | with_reducible refine Full.putn ?_ _ | with_reducible exact Full.of _ _ rfl | with_reducible exact Full.start _ _ (Nat.le_of_ble_eq_true rfl) | exact Full.start _ _ (Nat.le_of_ble_eq_true rfl))),rfl,rfl⟩)
      rintro k a h9 ⟨i,hi,rfl,Y9,A9,hz,hf,i1,i5⟩
      (obtain ⟨rl0,hrl0,rfl⟩:=hf;obtain ⟨s0,s1,s2,s3,s4,s5,s6,s7,rl1,rfl,hrl1⟩:=cons8 hrl0;obtain ⟨s8,s9,s10,s11,s12,s13,s14,s15,rl2,rfl,hrl2⟩:=cons8 hrl1;obtain ⟨s16,s17,s18,s19,s20,s21,s22,s23,rl3,rfl,hrl3⟩:=cons8 hrl2;obtain ⟨s24,s25,s26,s27,s28,s29,s30,s31,rl4,rfl,hrl4⟩:=cons8 hrl3;obtain ⟨s32,s33,s34,s35,s36,s37,s38,s39,rl5,rfl,hrl5⟩:=cons8 hrl4;obtain ⟨s40,s41,s42,s43,s44,s45,s46,s47,rl6,rfl,hrl6⟩:=cons8 hrl5;obtain ⟨s48,s49,s50,s51,s52,s53,s54,s55,rl7,rfl,hrl7⟩:=cons8 hrl6;obtain ⟨s56,rl8,rfl,hrl8⟩:=cons_of hrl7;obtain ⟨s57,rl9,rfl,hrl9⟩:=cons_of hrl8;obtain ⟨s58,rl10,rfl,hrl10⟩:=cons_of hrl9;obtain ⟨s59,rl11,rfl,hrl11⟩:=cons_of hrl10;obtain ⟨s60,rl12,rfl,hrl12⟩:=cons_of hrl11;obtain ⟨s61,rl13,rfl,hrl13⟩:=cons_of hrl12;obtain rfl:=nil_of hrl13;clear hrl0 hrl1 hrl2 hrl3 hrl4 hrl5 hrl6 hrl7 hrl8 hrl9 hrl10 hrl11 hrl12 hrl13;obtain rfl:s1=_:=Option.some.inj (show some s1=some _ from i1);clear i1;obtain rfl:s5=_:=Option.some.inj (show some s5=some _ from i5);clear i5)
      refine W.seq (W.seq (W.reg (WO.mv rfl (WO.fa rfl (fa_of fo46_2) (WO.ld rfl (load_one tp43 A9 rfl) (WO.lenC rfl (r.f.hx Y9) u43 (WO.bi rfl rfl rfl (WO.nil ?_))))))))
      by_cases hlt:i < F.length
      · rw [show decide ((i:Int) < (F.length:Int))=true by simpa using hlt]
        refine W.cd rfl (OnB.yes (W.skip ?_))
        have hF1:F[i]?=some F[i]:=List.getElem?_eq_getElem hlt
        obtain ⟨x,hx,hsx⟩:=hlev.get hF1
        obtain ⟨b,o,cc,fix,wr,el,e1,e2,e3,e4,e5⟩:=(r.f.hx Y9).at eF u43 tp25 hF1 .i64
        refine W.seq (W.block (W.seq (W.mono (Q:=fun y a' h'=>y=.normal∧HX h9 h'∧Full 62 a'∧Tr.get a' 1=some (.pointer (some ⟨h.next,0,none⟩))∧Tr.get a' 5=some (.int .i64 (i:Nat))∧Tr.get a' 61=some (.bool (!decide (x=0) && !knownB S i))) ?_ ?_)))
        · refine W.reg (WO.fa rfl (fa_of fo46_2) (WO.ld rfl (load_one tp43 A9 rfl) (WO.mv rfl (WO.ix rfl rfl e1 (WO.ld rfl (load_one tp25 e2 (e5 0 (by decide))) (WO.fne rfl rfl fun q hq=>?_))))))
          rw [← hq x hsx]
          cases q with
          | false =>
            refine WO.mv rfl (WO.skp (b:=false) rfl rfl (WO.skp (b:=false) rfl rfl (WO.skp (b:=false) rfl rfl (WO.skp (b:=false) rfl rfl (WO.pk rfl rfl rfl (OnB.no (WO.nil ?_)))))))
            exact ⟨rfl,HX.refl _,(by repeat (first | with_reducible refine Full.put ?_ (by decide) _ | with_reducible refine Full.putn ?_ _ | with_reducible exact Full.of _ _ rfl | with_reducible exact Full.start _ _ (Nat.le_of_ble_eq_true rfl) | exact Full.start _ _ (Nat.le_of_ble_eq_true rfl))),rfl,rfl,rfl⟩
          | true =>
            refine WO.mv rfl (WO.now (b:=true) rfl rfl (WO.ld rfl (load_row tp46 A9 rfl (Nat.le_of_ble_eq_true rfl)) (WO.now (b:=true) rfl rfl (WO.mv rfl (WO.now (b:=true) rfl rfl (WO.cl2 rfl rfl rfl ((k39 H (s:=s) (n:=n) (v1:=v1) (r.s.hx Y9) hS).mono ?_)))))))
            rintro v10 h10 ⟨rfl,X10⟩
            refine WO.now (b:=true) rfl rfl (WO.nt rfl (WO.pk rfl rfl rfl (OnB.yes (WO.nil ?_))))
            exact ⟨rfl,X10,(by repeat (first | with_reducible refine Full.put ?_ (by decide) _ | with_reducible refine Full.putn ?_ _ | with_reducible exact Full.of _ _ rfl | with_reducible exact Full.start _ _ (Nat.le_of_ble_eq_true rfl) | exact Full.start _ _ (Nat.le_of_ble_eq_true rfl))),rfl,rfl,rfl⟩
        · rintro y a' h' ⟨rfl,X10,hf',j1,j5,j61⟩
          (obtain ⟨rl0,hrl0,rfl⟩:=hf';obtain ⟨s0,s1,s2,s3,s4,s5,s6,s7,rl1,rfl,hrl1⟩:=cons8 hrl0;obtain ⟨s8,s9,s10,s11,s12,s13,s14,s15,rl2,rfl,hrl2⟩:=cons8 hrl1;obtain ⟨s16,s17,s18,s19,s20,s21,s22,s23,rl3,rfl,hrl3⟩:=cons8 hrl2;obtain ⟨s24,s25,s26,s27,s28,s29,s30,s31,rl4,rfl,hrl4⟩:=cons8 hrl3;obtain ⟨s32,s33,s34,s35,s36,s37,s38,s39,rl5,rfl,hrl5⟩:=cons8 hrl4;obtain ⟨s40,s41,s42,s43,s44,s45,s46,s47,rl6,rfl,hrl6⟩:=cons8 hrl5;obtain ⟨s48,s49,s50,s51,s52,s53,s54,s55,rl7,rfl,hrl7⟩:=cons8 hrl6;obtain ⟨s56,rl8,rfl,hrl8⟩:=cons_of hrl7;obtain ⟨s57,rl9,rfl,hrl9⟩:=cons_of hrl8;obtain ⟨s58,rl10,rfl,hrl10⟩:=cons_of hrl9;obtain ⟨s59,rl11,rfl,hrl11⟩:=cons_of hrl10;obtain ⟨s60,rl12,rfl,hrl12⟩:=cons_of hrl11;obtain ⟨s61,rl13,rfl,hrl13⟩:=cons_of hrl12;obtain rfl:=nil_of hrl13;clear hrl0 hrl1 hrl2 hrl3 hrl4 hrl5 hrl6 hrl7 hrl8 hrl9 hrl10 hrl11 hrl12 hrl13;obtain rfl:s1=_:=Option.some.inj (show some s1=some _ from j1);clear j1;obtain rfl:s5=_:=Option.some.inj (show some s5=some _ from j5);clear j5;obtain rfl:s61=_:=Option.some.inj (show some s61=some _ from j61);clear j61)
          have Y10:=Y9.trans X10
          have A10:=A9.hx X10
          cases hq:(!decide (x=0) && !knownB S i) with
          | true =>
            simp only [Bool.and_eq_true,Bool.not_eq_true',decide_eq_false_iff_not] at hq
            refine W.cd rfl (OnB.yes (W.seq (W.reg (WO.as rfl (WO.nil (W.ret ?_))))))
            refine ⟨.inr rfl,_,rfl,?_,Y10⟩
            unfold formE
            rw [(form_iff hin).2 ⟨i,x,hx,hq.1,hq.2⟩];rfl
          | false =>
            refine W.cd rfl (OnB.no (W.skip ?_))
            refine W.reg (WO.mv rfl (WO.bi rfl rfl rfl (WO.as rfl (WO.nil ?_))))
            refine ⟨F.length - (i+1),by omega,i+1,by omega,rfl,Y10,A10,fun j x' hj hx' h0'=>?_,(by repeat (first | with_reducible refine Full.put ?_ (by decide) _ | with_reducible refine Full.putn ?_ _ | with_reducible exact Full.of _ _ rfl | with_reducible exact Full.start _ _ (Nat.le_of_ble_eq_true rfl) | exact Full.start _ _ (Nat.le_of_ble_eq_true rfl))),rfl,?_⟩
            · by_cases hji:j=i
              · subst hji
                rw [hx] at hx'
                cases hx'
                simpa [h0'] using hq
              · exact hz j x' (by omega) hx' h0'
            · show some (Value.int .i64 (fwrap .i64 ((i:Int)+1)))=_
              rw [fwrap_i64 (by omega) (by omega)]
              rfl
      · rw [show decide ((i:Int) < (F.length:Int))=false by simpa using hlt]
        refine W.cd rfl (OnB.no (W.exit ?_))
        refine W.seq (W.reg (WO.as rfl (WO.nil (W.ret ?_))))
        refine ⟨.inr rfl,_,rfl,?_,Y9⟩
        unfold formE
        have:S.any (anyIn L)=false:=by
          cases hc:S.any (anyIn L) with
          | false=>rfl
          | true =>
            obtain ⟨j,x,hj,h0',hk⟩:=(form_iff hin).1 hc
            have hjl:j < L.length:=(List.getElem?_eq_some_iff.1 hj).1
            have:=hz j x (by have:=hlev.1;omega) hj h0'
            rw [hk] at this;cases this
        rw [this];rfl
    · rw [show (holeE F.length (-1) S != 0)=true by simpa using h0]
      refine W.cd rfl (OnB.yes (W.seq (W.reg (WO.mv rfl (WO.as rfl (WO.nil (W.ret ?_)))))))
      refine ⟨.inr rfl,_,rfl,?_,Y8⟩
      unfold tailE
      rw [show (holeE F.length (-1) S != 0)=true by simpa using h0];rfl
  · rw [show (lookE s n F.length es != 0)=true by simpa using he]
    refine W.cd rfl (OnB.yes (W.seq (W.reg (WO.mv rfl (WO.as rfl (WO.nil (W.ret ?_)))))))
    exact ⟨.inr rfl,_,rfl,rfl,Y6⟩
end Go.Tidy
namespace Go.Tidy
open Go Go.Proofs Tab
variable {tp:TProg}
def knownL (S:List (Int × Int)) (m:Nat):List Bool:=(List.range m).map fun (i:Nat)=>knownB S (i:Int)
theorem knownL_len (S:List (Int × Int)) (m:Nat):(knownL S m).length=m:=by simp [knownL]
end Go.Tidy
namespace Go.Tidy
open Go Go.Proofs Tab
variable {tp:TProg}
def cellsK (L:List Int) (K:List Bool):List (Int × Bool):=List.zipWith (fun l k=>if k=true then (l,true) else (0,false)) L K
def madeF (L:List Int) (K:List Bool):List Nat:=(cellsK L K).map fun c=>smp c.1
end Go.Tidy
namespace Go.Tidy
open Go Go.Proofs Tab
variable {tp:TProg}
theorem pv_eq3 (a b:Int) (d:Nat):pv Tryz.prog (Op.equalIn (d+1) 3 (.int .i64 a) (.int .i64 b))=some (a == b):=by
 rw [Op.equalIn,pv_bind,pv_underlying u3]
 simp [pv_pure]
theorem pv_p0 (a b:Int):pv Tryz.prog (Go.part 3 #[.int .i64 a,.int .i64 b] 0)=some (.int .i64 a):=by kernel_rfl
theorem pv_p1 (a b:Int):pv Tryz.prog (Go.part 3 #[.int .i64 a,.int .i64 b] 1)=some (.int .i64 b):=by kernel_rfl
theorem pv_eq48 (a b:Int):pv Tryz.prog (Op.equal 27 (.agg #[.int .i64 a,.int .i64 b]) (.agg #[.int .i64 a,.int .i64 b]))=some true:=by
 show pv Tryz.prog (Op.equalIn (9998+1+1) 27 _ _)=_
 rw [Op.equalIn,pv_bind,pv_underlying Tryz.underlying27]
 simp only [Option.bind_some]
 rw [pv_bind,pv_program]
 simp only [Option.bind_some]
 have h0:Tryz.prog.stoodInHeld 27=false:=by kernel_rfl
 rw [h0]
 simp
 have e:∀ c:Int,pv Tryz.prog (Op.equalIn 9999 3 (.int .i64 c) (.int .i64 c))=some true:=fun c=>by rw [pv_eq3 c c 9998];simp
 simp [pv_bind,pv_p0,pv_p1,e,pv_pure]
theorem eqT_agg {P:Program} {t:TypeId} {xs ys:Array Value}:eqT P t (.agg xs) (.agg ys)=none:=by
 unfold eqT ptrEq nilEq
 cases P.underlying t with
 | none=>rfl
 | some d=>cases d <;> rfl
theorem WO.ne48 {a:Regs} {h:TH} {K:Regs→TH→Prop} {rest:List TOper} {d:Option Tmp} {ty:TypeId} {i:Nat} {x y:Operand} {u:TypeId} {p1 p2:Int} (hx:getO a x=some (.agg #[.int .i64 p1,.int .i64 p2])) (hy:getO a y=some (.agg #[.int .i64 p1,.int .i64 p2]))
    (w:WO Tryz.prog tp rest (a.put d (.bool false)) h K):WO Tryz.prog tp (⟨d,.binOp .neq 27 x y u,ty,none,[],i⟩::rest) a h K:=by
  have ex:=getO_eval hx
  have ey:=getO_eval hy
  refine WO.plainly rfl rfl rfl (by simp [fastOp,fastBin,ex,ey]) (by simp [valueOp,ex,ey,eqT_agg]) (plainOp_of (by rfl) (fun q hq=>?_) ?_ rfl) w
  · simp only [Op.operands] at hq
    simp at hq
    rcases hq with rfl | rfl
    · rw [ex];rfl
    · rw [ey];rfl
  · show pv Tryz.prog (execOp a.eval ⟨d, .binOp .neq 27 x y u, ty, "", #[], none⟩) = _
    have hg:Tryz.prog.eqGuardType Tryz.prog.depth 27=false:=by kernel_rfl
    simp [execOp,pv_bind,pv_map,pv_pure,pv_program,ex,ey,eqGuard,binOp,pv_eq48,hg]
theorem k59 (H:Has tp) {v w:Value} {S:List (Int × Int)} {h:TH} (s:SlL encS 2 h v S) (t:SlL encS 2 h w S) (hl:S.length≤1000000) :
  CallW Tryz.prog tp (.func (.func 32) #[] #[]) #[v,w] h fun v' h'=>v'=.bool true∧h'=h:=by
 refine CallW.full (H.fn 32 f59 rfl rfl) rfl ?_
 refine W.seq (W.reg (WO.as rfl (WO.nil ?_)))
 refine W.seq (W.seq (W.reg (WO.mv rfl (WO.lenC rfl s u44 (WO.mv rfl (WO.lenC rfl t u44 (WO.bi rfl rfl rfl (WO.nil ?_))))))))
 rw [show ((S.length:Int) != (S.length:Int))=false by simp]
 refine W.cd rfl (OnB.no (W.skip ?_))
 refine W.seq (W.seq (W.reg (WO.as rfl (WO.nil ?_))))
 refine W.block (W.loop (fun k a h2=>h2=h∧∃ i:Nat,i≤S.length∧k=S.length - i∧Full 26 a∧Tr.get a 0=some v∧Tr.get a 1=some w∧Tr.get a 5=some (.int .i64 (i:Nat)))
  ?_ S.length _ _ ⟨rfl,0,by omega,by omega,(by repeat (first | with_reducible refine Full.put ?_ (by decide) _ | with_reducible refine Full.putn ?_ _ | with_reducible exact Full.of _ _ rfl | with_reducible exact Full.start _ _ (Nat.le_of_ble_eq_true rfl) | exact Full.start _ _ (Nat.le_of_ble_eq_true rfl))),rfl,rfl,rfl⟩)
 rintro k a h2 ⟨rfl,i,hi,rfl,hf,i0,i1,i5⟩
 (obtain ⟨rl0,hrl0,rfl⟩:=hf;obtain ⟨s0,s1,s2,s3,s4,s5,s6,s7,rl1,rfl,hrl1⟩:=cons8 hrl0;obtain ⟨s8,s9,s10,s11,s12,s13,s14,s15,rl2,rfl,hrl2⟩:=cons8 hrl1;obtain ⟨s16,s17,s18,s19,s20,s21,s22,s23,rl3,rfl,hrl3⟩:=cons8 hrl2;obtain ⟨s24,rl4,rfl,hrl4⟩:=cons_of hrl3;obtain ⟨s25,rl5,rfl,hrl5⟩:=cons_of hrl4;obtain rfl:=nil_of hrl5;clear hrl0 hrl1 hrl2 hrl3 hrl4 hrl5;obtain rfl:s0=_:=Option.some.inj (show some s0=some _ from i0);clear i0;obtain rfl:s1=_:=Option.some.inj (show some s1=some _ from i1);clear i1;obtain rfl:s5=_:=Option.some.inj (show some s5=some _ from i5);clear i5)
 refine W.seq (W.seq (W.reg (WO.mv rfl (WO.mv rfl (WO.lenC rfl s u44 (WO.bi rfl rfl rfl (WO.nil ?_)))))))
 by_cases hlt:i < S.length
 ·rw [show decide ((i:Int) < (S.length:Int))=true by simpa using hlt]
  refine W.cd rfl (OnB.yes (W.skip ?_))
  have hS1:S[i]?=some S[i]:=List.getElem?_eq_getElem hlt
  obtain ⟨b,o,cc,fix,wr,el,e1,e2,e3,e4,e5⟩:=s.at eS u44 tp48 hS1 .i64
  obtain ⟨b',o',cc',fix',wr',el',g1,g2,g3,g4,g5⟩:=t.at eS u44 tp48 hS1 .i64
  refine W.seq (W.block (W.seq (W.reg (WO.mv rfl (WO.mv rfl (WO.ix rfl rfl e1 (WO.ld rfl (load_row tp48 e2 e4 e3) (WO.mv rfl (WO.mv rfl (WO.ix rfl rfl g1 (WO.ld rfl (load_row tp48 g2 g4 g3) (WO.ne48 rfl rfl (WO.nil ?_)))))))))))))
  refine W.cd rfl (OnB.no (W.skip ?_))
  refine W.reg (WO.mv rfl (WO.bi rfl rfl rfl (WO.as rfl (WO.nil ?_))))
  refine ⟨S.length - (i+1),by omega,rfl,i+1,by omega,rfl,(by repeat (first | with_reducible refine Full.put ?_ (by decide) _ | with_reducible refine Full.putn ?_ _ | with_reducible exact Full.of _ _ rfl | with_reducible exact Full.start _ _ (Nat.le_of_ble_eq_true rfl) | exact Full.start _ _ (Nat.le_of_ble_eq_true rfl))),rfl,rfl,?_⟩
  show some (Value.int .i64 (fwrap .i64 ((i:Int)+1)))=_
  rw [fwrap_i64 (by omega) (by omega)]
  rfl
 ·rw [show decide ((i:Int) < (S.length:Int))=false by simpa using hlt]
  refine W.cd rfl (OnB.no (W.exit ?_))
  refine W.seq (W.reg (WO.as rfl (WO.nil (W.ret ?_))))
  exact ⟨.inr rfl,_,rfl,rfl,rfl⟩
end Go.Tidy
namespace Go.Tidy
open Go Go.Proofs Tab
variable {tp:TProg}
theorem k83 (H:Has tp) {v:Value} {F:List Nat} {h:TH} (sF:SlL encF 1 h v F) :
  CallW Tryz.prog tp (.func (.func 68) #[] #[]) #[v] h fun v' h'=>v'=.bool (decide ((F.length:Int)≤40) || ((F.length:Int) == 4097))∧h'=h:=by
 refine CallW.full (H.fn 68 f83 rfl rfl) rfl ?_
 refine W.seq (W.reg (WO.as rfl (WO.nil ?_)))
 refine W.seq (W.reg (WO.mv rfl (WO.lenC rfl sF u43 (WO.bi rfl rfl rfl ?_))))
 by_cases c1:(F.length:Int)≤40
 ·rw [show decide ((F.length:Int)≤40)=true by simpa using c1]
  exact WO.mv rfl (WO.skp (b:=true) rfl rfl (WO.skp (b:=true) rfl rfl (WO.skp (b:=true) rfl rfl (WO.pk rfl rfl rfl (OnB.yes (WO.as rfl (WO.nil (W.ret ⟨.inr rfl,_,rfl,rfl,rfl⟩))))))))
 ·rw [show decide ((F.length:Int)≤40)=false by simpa using c1]
  exact WO.mv rfl (WO.now (b:=false) rfl rfl (WO.mv rfl (WO.now (b:=false) rfl rfl (WO.lenC rfl sF u43 (WO.now (b:=false) rfl rfl (WO.bi rfl rfl rfl (WO.pk rfl rfl rfl (OnB.no (WO.as rfl (WO.nil (W.ret ⟨.inr rfl,_,rfl,rfl,rfl⟩)))))))))))
def shortB (s:ByteArray) (m k:Nat):Bool:=decide ((s.size:Int)≤40) && ((decide ((m:Int)≤40) || ((m:Int) == 4097)) && decide ((k:Int)≤12))
set_option maxRecDepth 10000 in
theorem k23 (H:Has tp) {s:ByteArray} {n:Int} {v1 v2:Value} {F:List Nat} {S:List (Int × Int)} {h:TH} (sF:SlL encF 1 h v1 F) (sS:SlL encS 2 h v2 S) :
  CallW Tryz.prog tp (.func (.func 10) #[] #[]) #[runV s n v1 v2] h fun v' h'=>v'=.bool (shortB s F.length S.length)∧HX h h':=by
 refine CallW.full (H.fn 10 f23 rfl rfl) rfl ?_
 refine W.seq (W.reg (WO.boxA rfl fun h1 N1=>WO.as rfl (WO.nil ?_)))
 have A1:=N1.at_
 refine W.seq (W.reg (WO.fa rfl (fa_of fo46_0) (WO.ld rfl (load_one tp9 A1 rfl) (WO.lenS rfl u9 (WO.bi rfl rfl rfl ?_)))))
 by_cases c1:(s.size:Int)≤40
 ·rw [show decide ((s.size:Int)≤40)=true by simpa using c1]
  refine WO.mv rfl (WO.now (b:=true) rfl rfl (WO.fa rfl (fa_of fo46_2) (WO.now (b:=true) rfl rfl (WO.ld rfl (load_one tp43 A1 rfl) (WO.now (b:=true) rfl rfl (WO.cl1 rfl rfl ((k83 H (sF.hx N1.hx)).mono ?_)))))))
  rintro v3 h3 ⟨rfl,rfl⟩
  refine WO.pk rfl rfl rfl (OnB.yes ?_)
  cases hb:(decide ((F.length:Int)≤40) || ((F.length:Int) == 4097)) with
  | true =>
   refine WO.mv rfl (WO.now (b:=true) rfl rfl (WO.fa rfl (fa_of fo46_3) (WO.now (b:=true) rfl rfl (WO.ld rfl (load_one tp44 A1 rfl) (WO.now (b:=true) rfl rfl (WO.lenC rfl (sS.hx N1.hx) u44 (WO.now (b:=true) rfl rfl (WO.bi rfl rfl rfl (WO.pk rfl rfl rfl (OnB.yes (WO.as rfl (WO.nil (W.ret ⟨.inr rfl,_,rfl,?_,N1.hx⟩)))))))))))))
   unfold shortB
   rw [decide_eq_true c1,hb];rfl
  | false =>
   refine WO.mv rfl (WO.skp (b:=false) rfl rfl (WO.skp (b:=false) rfl rfl (WO.skp (b:=false) rfl rfl (WO.skp (b:=false) rfl rfl (WO.pk rfl rfl rfl (OnB.no (WO.as rfl (WO.nil (W.ret ⟨.inr rfl,_,rfl,?_,N1.hx⟩)))))))))
   unfold shortB
   rw [decide_eq_true c1,hb];rfl
 ·rw [show decide ((s.size:Int)≤40)=false by simpa using c1]
  refine WO.mv rfl (WO.skp (b:=false) rfl rfl (WO.skp (b:=false) rfl rfl (WO.skp (b:=false) rfl rfl (WO.pk rfl rfl rfl (OnB.no ?_)))))
  refine WO.mv rfl (WO.skp (b:=false) rfl rfl (WO.skp (b:=false) rfl rfl (WO.skp (b:=false) rfl rfl (WO.skp (b:=false) rfl rfl (WO.pk rfl rfl rfl (OnB.no (WO.as rfl (WO.nil (W.ret ⟨.inr rfl,_,rfl,?_,N1.hx⟩)))))))))
  unfold shortB
  rw [decide_eq_false c1];rfl
end Go.Tidy
namespace Go.Tidy
open Go Go.Proofs Tab
variable {tp:TProg}
def knownV (C:List (Int × Bool)):List Int:=(C.filter (·.2)).map (·.1)
structure Valid (s:ByteArray) (n:Int) (F:List Nat) (S:List (Int × Int)) (L:List Int):Prop where
 lev:Lev F L
 n0:0≤n
 n1:n+F.length≤100000000
 m:F.length≤4096
 hole:holeE F.length (-1) S=0
 form:S.any (anyIn L)=false
theorem valid_of {s:ByteArray} {n:Int} {F:List Nat} {S:List (Int × Int)} {es L:List Int} (hL:firstNZ es=0→Lev F L) (h:runE s n F.length S es L=0):Valid s n F S L:=by
 unfold runE at h
 rcases nz_cases (headE s n F.length) with h1 | h1
 ·rw [h1] at h
  have h:firstNZ [firstNZ es,cond (decide (n+F.length > 100000000)) 4 0,tailE F.length S L]=0:=h
  obtain ⟨_,n0,n1,hm⟩:=headE_zero h1
  have e0:=firstNZ_zero h (firstNZ es) (by simp)
  have e1:=firstNZ_zero h (cond (decide (n+F.length > 100000000)) 4 0) (by simp)
  have e2:=firstNZ_zero h (tailE F.length S L) (by simp)
  have e3:holeE F.length (-1) S=0:=by
   rcases nz_cases (holeE F.length (-1) S) with h2 | h2
   ·exact h2
   ·unfold tailE at e2;rw [h2] at e2;exact e2
  refine ⟨hL e0,n0,?_,hm,e3,?_⟩
  ·by_cases hc:n+F.length > 100000000
   ·rw [decide_eq_true hc] at e1;cases e1
   ·omega
  ·unfold tailE at e2
   rw [e3] at e2
   cases hf:S.any (anyIn L) with
   | false=>rfl
   | true=>unfold formE at e2;rw [hf] at e2;cases e2
 ·rw [h1] at h
  have:headE s n F.length=0:=h
  rw [this] at h1;cases h1
theorem Valid.in_ {s:ByteArray} {n:Int} {F:List Nat} {S:List (Int × Int)} {L:List Int} (v:Valid s n F S L):In F.length S:=holeE_in v.hole
end Go.Tidy
namespace Go.Tidy
open Go Go.Proofs Tab
variable {tp:TProg}
theorem lev_lim {F:List Nat} {L:List Int} (h:Lev F L):∀ x,x ∈ L→x.natAbs≤16384:=fun x hx=>by
 obtain ⟨i,hi⟩:=List.mem_iff_getElem?.1 hx
 have hlt:=(List.getElem?_eq_some_iff.1 hi).1
 have:i < F.length:=by rw [h.1];exact hlt
 exact (h.2 i _ x (List.getElem?_eq_getElem this) hi).lim
theorem clr_lim {C:List (Int × Bool)} {p:Int × Int} (h:∀ c,c ∈ C→c.1.natAbs≤16384):∀ c,c ∈ clrL C p→c.1.natAbs≤16384:=fun c hc=>by
 unfold clrL at hc
 rcases List.mem_append.1 hc with hc | hc
 ·exact h c (List.mem_of_mem_take hc)
 ·rcases List.mem_append.1 hc with hc | hc
  ·rw [(List.mem_replicate.1 hc).2];decide
  ·exact h c (List.mem_of_mem_drop hc)
theorem foldl_lim:∀ (S:List (Int × Int)) (C:List (Int × Bool)),(∀ c,c ∈ C→c.1.natAbs≤16384)→∀ c,c ∈ S.foldl clrL C→c.1.natAbs≤16384
 | [],_,h=>h
 | p::S,C,h=>foldl_lim S (clrL C p) (clr_lim h)
theorem cells_lim {F:List Nat} {L:List Int} (h:Lev F L) (S:List (Int × Int)):∀ c,c ∈ cellsL L S→c.1.natAbs≤16384 :=
 foldl_lim S _ fun c hc=>by
  obtain ⟨x,hx,rfl⟩:=List.mem_map.1 hc
  exact lev_lim h x hx
theorem cells_len {F:List Nat} {L:List Int} {S:List (Int × Int)} (h:Lev F L) (hin:In F.length S):(cellsL L S).length=F.length:=foldl_len S _ (by simp [all1,h.1]) hin
def sumL:List Int→Int
 | []=>0
 | x::l=>x+sumL l
end Go.Tidy
namespace Go.Tidy
open Go Go.Proofs Tab
variable {tp:TProg}
theorem clr_get {C:List (Int × Bool)} {p:Int × Int} (h1:0≤p.1) (h2:p.1≤p.2) (h3:p.2≤C.length) {i:Nat} (hi:i < C.length):(clrL C p)[i]?=if inS i p=true then some (0,false) else C[i]?:=by
 unfold clrL inS
 by_cases a1:i < p.1.toNat
 ·rw [List.getElem?_append_left (by simp;omega),List.getElem?_take_of_lt a1,if_neg (by simp;omega)]
 ·have e1:(C.take p.1.toNat).length=p.1.toNat:=by simp;omega
  rw [List.getElem?_append_right (by omega),e1]
  by_cases a2:i < p.2.toNat
  ·rw [List.getElem?_append_left (by simp;omega),List.getElem?_replicate,if_pos (by omega),if_pos (by simp;omega)]
  ·rw [List.getElem?_append_right (by simp;omega),List.getElem?_drop,if_neg (by simp;omega),List.length_replicate]
   congr 1
   omega
theorem foldl_get {m:Nat}:∀ (S:List (Int × Int)) (C:List (Int × Bool)),C.length=m→In m S→∀ i:Nat,i < m→(S.foldl clrL C)[i]?=if knownB S i=true then C[i]? else some (0,false)
 | [],C,hC,_,i,hi=>by simp [knownB]
 | p::S,C,hC,hin,i,hi=>by
  obtain ⟨h1,h2,h3⟩:=hin p (by simp)
  have hl:=clrL_len h1 h2 (show p.2≤C.length by omega)
  rw [List.foldl_cons,foldl_get S (clrL C p) (by rw [hl];exact hC) (fun q hq=>hin q (by simp [hq])) i hi,clr_get h1 h2 (by omega) (by omega)]
  unfold knownB
  rw [List.any_cons]
  cases inS i p <;> cases S.any (inS i) <;> simp
theorem cells_eq {F:List Nat} {L:List Int} {S:List (Int × Int)} (hL:Lev F L) (hin:In F.length S):cellsL L S=cellsK L (knownL S F.length):=by
 apply List.ext_getElem?
 intro i
 by_cases hi:i < F.length
 ·have hiL:i < L.length:=by rw [← hL.1];exact hi
  unfold cellsL
  rw [foldl_get S _ (by simp [all1,hL.1]) hin i hi]
  unfold cellsK knownL all1
  rw [List.getElem?_zipWith,List.getElem?_map,List.getElem?_map,List.getElem?_range hi,List.getElem?_eq_getElem hiL]
  cases hk:knownB S i <;> simp [hk]
 ·rw [List.getElem?_eq_none (by rw [cells_len hL hin];omega),List.getElem?_eq_none (by have:=hL.1;simp [cellsK,knownL];omega)]
def Dark (L:List Int) (K:List Bool):Prop:=L.length=K.length∧∀ (i:Nat) (x:Int),L[i]?=some x→K[i]?=some false→x=0
theorem Valid.dark {s:ByteArray} {n:Int} {F:List Nat} {S:List (Int × Int)} {L:List Int} (v:Valid s n F S L):Dark L (knownL S F.length):=by
 refine ⟨by rw [knownL_len,v.lev.1],fun i x hx hk=>?_⟩
 have hi:i < F.length:=by rw [v.lev.1];exact (List.getElem?_eq_some_iff.1 hx).1
 unfold knownL at hk
 rw [List.getElem?_map,List.getElem?_range hi] at hk
 have hk:knownB S i=false:=by simpa using hk
 by_cases h0:x=0
 ·exact h0
 ·have:=(form_iff v.in_).2 ⟨i,x,hx,h0,hk⟩
  rw [v.form] at this;cases this
theorem Dark.tail {l:Int} {k:Bool} {L:List Int} {K:List Bool} (d:Dark (l::L) (k::K)):Dark L K∧(k=false→l=0) :=
 ⟨⟨by have:=d.1;simpa using this,fun i x h1 h2=>d.2 (i+1) x (by simpa using h1) (by simpa using h2)⟩,fun hk=>d.2 0 l rfl (by rw [hk];rfl)⟩
theorem cellsK_cons (l:Int) (k:Bool) (L:List Int) (K:List Bool):cellsK (l::L) (k::K)=(if k=true then (l,true) else (0,false))::cellsK L K:=rfl
theorem dark_sum:∀ {L:List Int} {K:List Bool},Dark L K→sumL (knownV (cellsK L K))=sumL L
  | [],K,d=>by
    have:K=[]:=List.eq_nil_of_length_eq_zero d.1.symm
    subst this;rfl
  | l::L,[],d=>by have:=d.1;simp at this
  | l::L,k::K,d=>by
    obtain ⟨d1,d2⟩:=d.tail
    have ih:=dark_sum d1
    rw [cellsK_cons]
    cases k with
    | true=>simp only [knownV,List.filter_cons,List.map_cons,sumL,if_true] at ih ⊢;rw [ih]
    | false =>
      rw [d2 rfl]
      simp only [knownV,List.filter_cons,List.map_cons,sumL] at ih ⊢
      simpa using ih
end Go.Tidy
namespace Go.Tidy
open Go Go.Proofs Tab
variable {tp:TProg}
theorem WO.quoI {P:Program} {a:Regs} {h:TH} {K:Regs→TH→Prop} {rest:List TOper} {d:Option Tmp} {ty:TypeId} {i:Nat} {x y:Operand} {t u:TypeId} {m n:Int} (hx:getO a x=some (.int .i64 m)) (hy:getO a y=some (.int .i64 n)) (hn:n≠0)
  (w:WO P tp rest (a.put d (.int .i64 (fwrap .i64 (m.tdiv n)))) h K):WO P tp (⟨d,.binOp .quo t x y u,ty,none,[],i⟩::rest) a h K:=by
 refine WO.bi hx hy ?_ w
 have hk:Nat.beq (kindNo .i64) (kindNo .i64)=true:=Nat.beq_refl _
 have hb:(n == 0)=false:=by simpa using hn
 simp only [fastBin,hk,fastInt,hb,Bool.cond_true,Bool.cond_false]
end Go.Tidy
namespace Go.Tidy
open Go Go.Proofs Tab
variable {tp:TProg}
def Swapped {α:Type} (C D:List α) (i:Nat):Prop:=D.length=C.length∧∀ x,x < C.length→D[x]?=if x < i∨C.length≤x+i then C[C.length - 1 - x]? else C[x]?
theorem Swapped.zero {α:Type} (C:List α):Swapped C C 0:=⟨rfl,fun x hx=>by rw [if_neg (by omega)]⟩
theorem Swapped.step {α:Type} {C D:List α} {i:Nat} (s:Swapped C D i) (hi:i+i+1 < C.length) {x y:α} (hx:D[i]?=some x) (hy:D[C.length - 1 - i]?=some y):Swapped C ((D.set i y).set (C.length - 1 - i) x) (i+1):=by
 have e1:=s.2 i (by omega)
 have e2:=s.2 (C.length - 1 - i) (by omega)
 rw [if_neg (by omega),hx] at e1
 rw [if_neg (by omega),hy] at e2
 refine ⟨by rw [List.length_set,List.length_set,s.1],fun z hz=>?_⟩
 by_cases h1:z=C.length - 1 - i
 ·subst h1
  rw [List.getElem?_set_self (by rw [List.length_set,s.1];exact hz),if_pos (by omega),show C.length - 1 - (C.length - 1 - i)=i by omega]
  exact e1
 ·rw [List.getElem?_set_ne (by omega)]
  by_cases h2:z=i
  ·subst h2
   rw [List.getElem?_set_self (by rw [s.1];exact hz),if_pos (by omega)]
   exact e2
  ·rw [List.getElem?_set_ne (by omega),s.2 z hz]
   by_cases h3:z < i∨C.length≤z+i
   ·rw [if_pos h3,if_pos (by omega)]
   ·rw [if_neg h3,if_neg (by omega)]
theorem Swapped.done {α:Type} {C D:List α} {i:Nat} (s:Swapped C D i) (hi:C.length≤i+i+1):D=C.reverse:=by
 apply List.ext_getElem?
 intro x
 by_cases hx:x < C.length
 ·rw [s.2 x hx,List.getElem?_reverse hx]
  by_cases h:x < i∨C.length≤x+i
  ·rw [if_pos h]
  ·rw [if_neg h];congr 1;omega
 ·rw [List.getElem?_eq_none (by rw [s.1];omega),List.getElem?_eq_none (by simp;omega)]
end Go.Tidy
namespace Go.Tidy
open Go Go.Proofs Tab
variable {tp:TProg}
def run0:Value:=runV ⟨#[]⟩ 0 (.slice none 0 0) (.slice none 0 0)
def RunR (h h':TH) (v:Value) (s:ByteArray) (n:Int) (C:List (Int × Bool)) (e:Int):Prop :=
 HX h h'∧((e≠0∧v=.tuple #[run0,.int .i64 e])∨(e=0∧∃ w1 w2,v=.tuple #[runV s n w1 w2,.int .i64 0]∧RunO h.next h' w1 w2 (C.map fun c=>smp c.1) (holesOf (C.map fun c=>c.2))))
end Go.Tidy
namespace Go.Tidy
open Go Go.Proofs Tab
variable {tp:TProg}
theorem cellsK_snd:∀ {L:List Int} {K:List Bool},K.length=L.length→(cellsK L K).map (fun c=>c.2)=K
 | [],[],_=>rfl
 | [],_::_,h=>by simp at h
 | _::_,[],h=>by simp at h
 | l::L,k::K,h=>by
  rw [cellsK_cons,List.map_cons,cellsK_snd (by simpa using h)]
  cases k <;> rfl
theorem OwnL.some {α:Type} {enc:α→List Value} {n0:Nat} {h:TH} {v:Value} {e:TypeId} {l:List α} (o:OwnL enc n0 h v e l) (hl:0 < l.length):∃ b,v=.slice (Option.some ⟨b,0,none⟩) l.length l.length∧n0≤b∧At h b (.cells (cat enc l) false true e):=by
 rcases o with ⟨_,rfl⟩ | ⟨_,h⟩
 ·simp at hl
 ·exact h
end Go.Tidy
namespace Go.Tidy
open Go Go.Proofs Tab
variable {tp:TProg}
def okI (n:Int):Bool:=decide (-16384≤n) && decide (n≤16384)
theorem okI_iff {n:Int}:okI n=true ↔ n.natAbs≤16384:=by simp [okI];omega
end Go.Tidy
namespace Go.Tidy
open Go Go.Proofs Tab
variable {tp:TProg}
section rules
variable {P:Program} {tp:TProg} {h:TH} {K:Regs→TH→Prop} {rest:List TOper} {d:Option Tmp} {ty:TypeId} {i:Nat} {x y:Operand} {t u:TypeId} {L:Rg}
theorem CallW.fnC {k:Nat} {fn:TFun} {args cap:Array Value} {V:Value→TH→Prop} (hk:tp.fn k=some fn)
  (w:∀ a,Kn (argL 0 (args ++ cap).toList) a→W P tp false fn.body a h (Fin P fn.results V)):CallW P tp (.func (.func k) #[] cap) args h V:=by
 have w':=w (Regs.ofList (args ++ cap).toList 0 .nil) (ofList_kn _ _ _)
 unfold W at w'
 obtain ⟨n,x,a',h',e,q⟩:=w'
 obtain ⟨hx,vs,hv,q⟩:=q.out
 unfold CallW
 refine ⟨n,_,h',fun m hm=>?_,q⟩
 rcases hx with rfl | rfl
 ·simp only [callT,hk,Array.empty_append,e m hm,hv,Option.map_some]
 ·simp only [callT,hk,Array.empty_append,e m hm,hv,Option.map_some]
def opsL (L:Rg):List Operand→Option (List Value)
 | []=>some []
 | x::r=>match getL L x,opsL L r with | some v,some l=>some (v::l) | _,_=>none
theorem opsL_o {a:Regs} (k:Kn L a):∀ {xs:List Operand} {l:List Value},opsL L xs=some l→xs.map a.eval=l
  | [],l,h=>by simp only [opsL,Option.some.injEq] at h;subst h;rfl
  | x::r,l,h=>by
    simp only [opsL] at h
    split at h
    · rename_i v l' h1 h2
      simp only [Option.some.injEq] at h
      subst h
      simp only [List.map_cons,getO_eval (k.o h1),opsL_o k h2]
    · cases h
theorem WOL.mf {f:Nat} {cap:Array Operand} {vs:List Value} (hc:opsL L cap.toList=some vs) (w:∀ a,Kn (putL L d (.func (.func f) #[] vs.toArray)) a→WO P tp rest a h K):∀ a,Kn L a→WO P tp (⟨d,.makeFunc (.func f) #[] cap,ty,none,[],i⟩::rest) a h K:=fun a k=>by
 have e:=opsL_o k hc
 have e':cap.map a.eval=vs.toArray:=by apply Array.ext';simpa using e
 refine WO.op rfl rfl (fun call=>?_) (w _ (k.put d _))
 simp only [stepOp,heapFirst,fastOp,valueOp,Bool.cond_false,e',List.map_toArray,List.map_nil]
theorem WOL.add {m n:Int} (hx:getL L x=some (.int .i64 m)) (hy:getL L y=some (.int .i64 n)) (h1:-9223372036854775808≤m+n) (h2:m+n≤9223372036854775807) (w:∀ a,Kn (putL L d (.int .i64 (m+n))) a→WO P tp rest a h K):∀ a,Kn L a→WO P tp (⟨d,.binOp .add t x y u,ty,none,[],i⟩::rest) a h K :=
 WOL.bi hx hy (by show some (Value.int .i64 (fwrap .i64 (m+n)))=_;rw [fwrap_i64 h1 h2]) w
theorem WOL.sub {m n:Int} (hx:getL L x=some (.int .i64 m)) (hy:getL L y=some (.int .i64 n)) (h1:-9223372036854775808≤m - n) (h2:m - n≤9223372036854775807) (w:∀ a,Kn (putL L d (.int .i64 (m - n))) a→WO P tp rest a h K):∀ a,Kn L a→WO P tp (⟨d,.binOp .sub t x y u,ty,none,[],i⟩::rest) a h K :=
 WOL.bi hx hy (by show some (Value.int .i64 (fwrap .i64 (m - n)))=_;rw [fwrap_i64 h1 h2]) w
theorem WOL.mul {m n:Int} (hx:getL L x=some (.int .i64 m)) (hy:getL L y=some (.int .i64 n)) (h1:-9223372036854775808≤m*n) (h2:m*n≤9223372036854775807) (w:∀ a,Kn (putL L d (.int .i64 (m*n))) a→WO P tp rest a h K):∀ a,Kn L a→WO P tp (⟨d,.binOp .mul t x y u,ty,none,[],i⟩::rest) a h K :=
 WOL.bi hx hy (by show some (Value.int .i64 (fwrap .i64 (m*n)))=_;rw [fwrap_i64 h1 h2]) w
theorem WOL.quo {m n:Int} (hx:getL L x=some (.int .i64 m)) (hy:getL L y=some (.int .i64 n)) (hm:0≤m) (hn:0 < n) (h2:m≤9223372036854775807) (w:∀ a,Kn (putL L d (.int .i64 (m / n))) a→WO P tp rest a h K):∀ a,Kn L a→WO P tp (⟨d,.binOp .quo t x y u,ty,none,[],i⟩::rest) a h K:=fun a k=>by
 refine WO.quoI (k.o hx) (k.o hy) (by omega) ?_
 have h3:m / n≤m:=Int.ediv_le_self n hm
 have h4:0≤m / n:=Int.ediv_nonneg hm (by omega)
 rw [Int.tdiv_eq_ediv_of_nonneg hm,fwrap_i64 (by omega) (by omega)]
 exact w _ (k.put d _)
theorem WOL.neg {m:Int} (hx:getL L x=some (.int .i64 m)) (h1:-9223372036854775808≤-m) (h2:-m≤9223372036854775807) (w:∀ a,Kn (putL L d (.int .i64 (-m))) a→WO P tp rest a h K):∀ a,Kn L a→WO P tp (⟨d,.unOp .neg t x,ty,none,[],i⟩::rest) a h K:=fun a k=>by
 refine WO.neg (k.o hx) ?_
 rw [show IntKind.i64.wrap (-m)=-m from IntWalk.i64_in _ (by omega)]
 exact w _ (k.put d _)
end rules
def rnd (a b:Int):Int:=(2*a+b) / (2*b)
theorem floor_neg {x y:Int} (hy:0 < y):x / y=-((y - 1 - x) / y):=by
 have h1:=Int.emod_add_mul_ediv (y - 1 - x) y
 have h2:=Int.emod_nonneg (y - 1 - x) (by omega:y≠0)
 have h3:=Int.emod_lt_of_pos (y - 1 - x) hy
 generalize (y - 1 - x) / y=q at *
 generalize (y - 1 - x) % y=r at *
 have:(y - 1 - r)+y*(-q)=x:=by rw [Int.mul_neg];omega
 exact ((Int.ediv_emod_unique hy).2 ⟨this,by omega,by omega⟩).1
theorem tdiv_floor {x y:Int} (hy:0 < y):x / y=cond (decide (x.tdiv y*y > x)) (x.tdiv y - 1) (x.tdiv y):=by
 by_cases hx:0≤x
 ·have h1:=Int.emod_add_mul_ediv x y
  have h2:=Int.emod_nonneg x (by omega:y≠0)
  rw [Int.tdiv_eq_ediv_of_nonneg hx,decide_eq_false (by rw [Int.mul_comm];omega)]
  rfl
 ·obtain ⟨z,rfl⟩:∃ z,x=-z:=⟨-x,by omega⟩
  rw [Int.neg_tdiv,Int.tdiv_eq_ediv_of_nonneg (by omega)]
  have h1:=Int.emod_add_mul_ediv z y
  have h2:=Int.emod_nonneg z (by omega:y≠0)
  have h3:=Int.emod_lt_of_pos z hy
  generalize z / y=q at *
  generalize z % y=r at *
  have e:-q*y=-(y*q):=by rw [Int.neg_mul,Int.mul_comm]
  by_cases hr:r=0
  ·rw [decide_eq_false (by rw [e];omega)]
   have:(0:Int)+y*(-q)=-z:=by rw [Int.mul_neg];omega
   exact ((Int.ediv_emod_unique hy).2 ⟨this,by omega,by omega⟩).1
  ·rw [decide_eq_true (by rw [e];omega)]
   have:(y - r)+y*(-q - 1)=-z:=by rw [Int.mul_sub,Int.mul_neg,Int.mul_one];omega
   exact ((Int.ediv_emod_unique hy).2 ⟨this,by omega,by omega⟩).1
end Go.Tidy
namespace Go.Tidy
open Go Go.Proofs Tab
variable {tp:TProg}
def allOk (C:List (Int × Bool)):Bool:=C.all fun c=>okI c.1
theorem allOk_iff {C:List (Int × Bool)}:allOk C=true ↔ ∀ c,c ∈ C→c.1.natAbs≤16384:=by
 simp only [allOk,List.all_eq_true,okI_iff]
end Go.Tidy
namespace Go.Tidy
open Go Go.Proofs Tab
variable {tp:TProg}
set_option maxHeartbeats 1000000 in
theorem k87 (H:Has tp) {s:ByteArray} {n:Int} {v1 v2:Value} {F:List Nat} {S:List (Int × Int)} {h:TH} (r:RunH h v1 v2 F S) (hF:F.length≤1000000) (hS:S.length≤1000000) (f:Free0 h.next h) :
  CallW Tryz.prog tp (.func (.func 74) #[] #[]) #[runV s n v1 v2] h fun v h'=>∃ w1 w2,v=runV s n w1 w2∧HX h h'∧RunO h.next h' w1 w2 F S:=by
 refine CallW.full (H.fn 74 f87 rfl rfl) rfl ?_
 refine W.seq (W.reg (WO.boxA rfl fun h1 N1=>WO.alA tp46 fun h2 N2=>WO.nil ?_))
 have A1:=N1.at_.hx N2.hx
 have X2:=N1.hx.trans N2.hx
 refine W.seq (W.reg ?_)
 refine WO.fa rfl (fa_of fo46_0) (WO.ld rfl (load_one tp9 A1 rfl) (WO.fa rfl (fa_of fo46_1) (WO.ld rfl (load_one tp3 A1 rfl) ?_)))
 refine WO.bs0A u43 tp25 (by decide) (by decide) fun h3 N3=>?_
 have A3:=A1.hx N3.hx
 have X3:=X2.trans N3.hx
 refine WO.fa rfl (fa_of fo46_2) (WO.ld rfl (load_one tp43 A3 rfl) ?_)
 refine WO.bs0A u44 tp48 (by decide) (by decide) fun h4 N4=>?_
 have A4:=A3.hx N4.hx
 have X4:=X3.trans N4.hx
 refine WO.fa rfl (fa_of fo46_3) (WO.ld rfl (load_one tp44 A4 rfl) ?_)
 refine WO.apO rfl rfl u43 tp25 (N3.at_.hx N4.hx) (r.f.hx X4) (by omega) (eF.all F) fun h5 b5 X5 l5 s5 g5=>?_
 refine WO.apO rfl rfl u44 tp48 (N4.at_.hx X5) ((r.s.hx X4).hx X5) (by omega) (eS.all S) fun h6 b6 X6 l6 s6 g6=>?_
 have A6:=(((N2.at_.hx N3.hx).hx N4.hx).hx X5).hx X6
 have X7:=(X4.trans X5).trans X6
 refine WO.bd rfl bd46 ?_
 refine WO.stA rfl rfl tp46 A6 rfl rfl (by decide) rfl (f.hx X7) (by have:=N1.next;omega) fun h7 P7=>WO.nil (W.ret ?_)
 have q1:=N1.next
 have q2:=N2.next
 have q3:=N3.next
 have X8:=P7.hx _ X7 (by omega)
 exact ⟨.inr rfl,_,res_cell rfl (load_row tp46 P7.at_ rfl (Nat.le_of_ble_eq_true rfl)),_,_,rfl,X8,⟨(s5.hx X6).put P7 (by omega),s6.put P7 (by omega),(g5.hx X6).away P7 (Above.slice (Nat.le_refl b5)) (by omega)⟩,Above.slice (by omega),Above.slice (by omega)⟩
end Go.Tidy
namespace Go.Tidy
open Go Go.Proofs Tab
theorem lev_smp {C:List (Int × Bool)} (h:∀ c,c ∈ C→c.1.natAbs≤16384):Lev (C.map fun c=>smp c.1) (C.map fun c=>c.1):=by
 refine ⟨by simp,fun i b n hb hn=>?_⟩
 rw [List.getElem?_map] at hb hn
 cases hc:C[i]? with
 | none=>rw [hc] at hb;simp at hb
 | some c =>
  rw [hc] at hb hn
  simp only [Option.map_some,Option.some.injEq] at hb hn
  subst hb;subst hn
  exact (smp_ok (h c (List.mem_of_getElem? hc))).2.2
section
variable {s:ByteArray} {n:Int} {F:List Nat} {S:List (Int × Int)} {L:List Int}
theorem Valid.cells (V:Valid s n F S L):cellsL L S=cellsK L (knownL S F.length):=cells_eq V.lev V.in_
theorem Valid.lim (V:Valid s n F S L):∀ c,c ∈ cellsL L S→c.1.natAbs≤16384:=cells_lim V.lev S
theorem Valid.kl (V:Valid s n F S L):(knownL S F.length).length=L.length:=by rw [knownL_len,V.lev.1]
theorem Valid.sum (V:Valid s n F S L):sumL (knownV (cellsL L S))=sumL L:=by rw [V.cells,dark_sum V.dark]
theorem Valid.at_ (V:Valid s n F S L) {i b:Nat} (hb:F[i]?=some b):∃ x,L[i]?=some x∧Samp b x∧(cellsL L S)[i]?=some (x,knownB S i):=by
 obtain ⟨x,hx,sx⟩:=V.lev.get hb
 have hi:i < F.length:=(List.getElem?_eq_some_iff.1 hb).1
 have hk:(knownL S F.length)[i]?=some (knownB S (i:Int)):=by
  unfold knownL
  rw [List.getElem?_map,List.getElem?_range hi];rfl
 refine ⟨x,hx,sx,?_⟩
 rw [V.cells]
 unfold cellsK
 rw [List.getElem?_zipWith,hx,hk]
 cases hq:knownB S (i:Int)
 ·have:=V.dark.2 i x hx (by rw [hk,hq])
  subst this
  rfl
 ·rfl
end
end Go.Tidy
namespace Go.Tidy
open Go Go.Proofs Tab
variable {tp:TProg}
abbrev ptr (c:Nat):Value:=.pointer (some ⟨c,0,none⟩)
abbrev zi (z:Int):Value:=.int .i64 z
end Go.Tidy
namespace Go.Tidy
open Go Go.Proofs Tab
variable {tp:TProg}
def RX (n0:Nat) (h:TH) (sx:ByteArray) (nx:Int) (x1 x2:Value) (s:ByteArray) (n:Int) (C:List (Int × Bool)) (e:Int):Prop :=
 (e≠0∧sx=⟨#[]⟩∧nx=0∧x1=.slice none 0 0∧x2=.slice none 0 0)∨(e=0∧sx=s∧nx=n∧RunO n0 h x1 x2 (C.map fun c=>smp c.1) (holesOf (C.map fun c=>c.2)))
theorem RunO.relock' {n0:Nat} {h:TH} {v1 v2:Value} {F:List Nat} {S:List (Int × Int)} (r:RunO n0 h v1 v2 F S) (L:List Nat):RunO n0 (h.withLock L) v1 v2 F S:=⟨⟨r.r.f.relock L,r.r.s.relock L,r.r.g.relock L⟩,r.o1,r.o2⟩
theorem RunH.relock' {h:TH} {v1 v2:Value} {F:List Nat} {S:List (Int × Int)} (r:RunH h v1 v2 F S) (L:List Nat):RunH (h.withLock L) v1 v2 F S:=⟨r.f.relock L,r.s.relock L,r.g.relock L⟩
section
variable {n0 c:Nat} {h h':TH} {sx:ByteArray} {nx:Int} {x1 x2:Value} {s:ByteArray} {n:Int} {C:List (Int × Bool)} {e:Int}
theorem RX.hx (r:RX n0 h sx nx x1 x2 s n C e) (x:HX h h'):RX n0 h' sx nx x1 x2 s n C e:=by
 rcases r with r | ⟨a,b,d,r⟩
 ·exact .inl r
 ·exact .inr ⟨a,b,d,r.hx x⟩
theorem RX.away (r:RX n0 h sx nx x1 x2 s n C e) {x:TB} (p:Put h h' c x) (hc:c < n0):RX n0 h' sx nx x1 x2 s n C e:=by
 rcases r with r | ⟨a,b,d,r⟩
 ·exact .inl r
 ·exact .inr ⟨a,b,d,r.away p hc⟩
theorem RX.up {m:Nat} (r:RX n0 h sx nx x1 x2 s n C e) (hm:m≤n0):RX m h sx nx x1 x2 s n C e:=by
 rcases r with r | ⟨a,b,d,r⟩
 ·exact .inl r
 ·exact .inr ⟨a,b,d,r.le hm⟩
theorem RX.relock (r:RX n0 h sx nx x1 x2 s n C e) (L:List Nat):RX n0 (h.withLock L) sx nx x1 x2 s n C e:=by
 rcases r with r | ⟨a,b,d,r⟩
 ·exact .inl r
 ·exact .inr ⟨a,b,d,r.relock' L⟩
theorem RunR.out {v:Value} (r:RunR h h' v s n C e):∃ sx nx bo1 l1 k1 bo2 l2 k2,v=.tuple #[runV sx nx (.slice bo1 l1 k1) (.slice bo2 l2 k2),.int .i64 e]∧HX h h'∧RX h.next h' sx nx (.slice bo1 l1 k1) (.slice bo2 l2 k2) s n C e:=by
 obtain ⟨X,⟨he,rfl⟩ | ⟨rfl,w1,w2,rfl,O⟩⟩:=r
 ·exact ⟨_,_,_,_,_,_,_,_,rfl,X,.inl ⟨he,rfl,rfl,rfl,rfl⟩⟩
 ·obtain ⟨bo1,k1,rfl⟩:=O.r.f.form
  obtain ⟨bo2,k2,rfl⟩:=O.r.s.form
  exact ⟨_,_,_,_,_,_,_,_,rfl,X,.inr ⟨rfl,rfl,rfl,O⟩⟩
end
end Go.Tidy
namespace Go.Tidy
open Go Go.Proofs Tab
variable {tp:TProg}
theorem Free0.on {h h':TH} (f:Free0 h.next h) (x:HX h h'):Free0 h'.next h':=f.next x x.next
end Go.Tidy
namespace Go.Tidy
open Go Go.Proofs Tab
variable {tp:TProg}
section
variable {α:Type} {enc:α→List Value} {n0:Nat} {h h':TH} {v:Value} {e:TypeId} {l:List α}
end
def okTo (Z:List Int) (Y:List Bool) (j:Nat):Prop:=∀ (i:Nat) (z:Int),i < j→Z[i]?=some z→Y[i]?=some true→okI z=true
end Go.Tidy
namespace Go.Tidy
open Go Go.Proofs Tab
variable {tp:TProg}
def SumR (h h':TH) (v:Value) (s:ByteArray) (n:Int) (Z:List Int) (Y:List Bool) (sh:Bool):Prop :=
  HX h h'∧((sh=false∧v=.tuple #[run0,.int .i64 2])∨(sh=true∧¬ okTo Z Y Z.length∧v=.tuple #[run0,.int .i64 4]) ∨
    (sh=true∧okTo Z Y Z.length∧∃ w1 w2,v=.tuple #[runV s n w1 w2,.int .i64 0]∧RunO h.next h' w1 w2 (madeF Z Y) (holesOf Y)))
theorem cellsK_get {L:List Int} {K:List Bool} {i:Nat} {x:Int} {p:Bool} (hx:L[i]?=some x) (hp:K[i]?=some p):(cellsK L K)[i]?=some (if p=true then (x,true) else (0,false)):=by
 unfold cellsK;rw [List.getElem?_zipWith,hx,hp]
theorem cellsK_ln {L:List Int} {K:List Bool} (h:K.length=L.length):(cellsK L K).length=L.length:=by simp [cellsK,h]
theorem ok_cells {Z:List Int} {Y:List Bool} (h:Y.length=Z.length):allOk (cellsK Z Y)=true ↔ okTo Z Y Z.length:=by
 rw [allOk_iff]
 constructor
 ·intro ok i z hi hz hy
  have:=ok _ (List.mem_of_getElem? (cellsK_get hz hy))
  exact okI_iff.2 this
 ·intro ok c hc
  obtain ⟨i,hi,hci⟩:=List.getElem_of_mem hc
  have hl:=cellsK_ln h
  have hz:Z[i]?=some Z[i]:=List.getElem?_eq_getElem (by omega)
  have hy:Y[i]?=some Y[i]:=List.getElem?_eq_getElem (by omega)
  have:=cellsK_get hz hy
  rw [List.getElem?_eq_getElem hi,hci] at this
  obtain rfl:=Option.some.inj this
  cases hb:Y[i] with
  | false=>simp
  | true=>rw [hb] at hy;simpa using okI_iff.1 (ok i _ (by omega) hz hy)
end Go.Tidy
namespace Go.Tidy
open Go Go.Proofs Tab
variable {tp:TProg}
structure Rows3 (h:TH) (b:Nat) (Xs:List Value) (Cs:List (List (Int × Bool))):Prop where
 at_:At h b (.cells Xs true true 158)
 len:Xs.length=Cs.length
 sl:∀ (i:Nat) (x:Value) (C:List (Int × Bool)),Xs[i]?=some x→Cs[i]?=some C→SlL encC 2 h x C
theorem Rows3.hx {h h':TH} {b:Nat} {Xs:List Value} {Cs:List (List (Int × Bool))} (r:Rows3 h b Xs Cs) (x:HX h h'):Rows3 h' b Xs Cs:=⟨r.at_.hx x,r.len,fun i y C h1 h2=>(r.sl i y C h1 h2).hx x⟩
end Go.Tidy
namespace Go.Tidy
open Go Go.Proofs Tab
variable {tp:TProg}
theorem Rows3.relock {h:TH} {b:Nat} {Xs:List Value} {Cs:List (List (Int × Bool))} (r:Rows3 h b Xs Cs) (M:List Nat):Rows3 (h.withLock M) b Xs Cs:=⟨r.at_.relock M,r.len,fun i y C h1 h2=>(r.sl i y C h1 h2).relock M⟩
end Go.Tidy
namespace Go.Tidy
open Go Go.Proofs Tab
variable {tp:TProg}
section
variable {P:Program} {α:Type} {enc:α→List Value} {n n0:Nat} {h:TH} {v:Value} {e:TypeId} {l:List α} {z:List Value} {row:Bool}
theorem slC_keep {h h':TH} {v:Value} {sz m:Nat} {c:List Value} (s:SlC h v sz m c) (k:∀ b y,bl v=some b→At h b y→At h' b y):SlC h' v sz m c:=by
 obtain ⟨bo,cap,rfl,h2,h3,h4⟩:=s
 exact ⟨bo,cap,rfl,h2,h3,h4.imp id fun ⟨b,off,cc,fix,wr,el,q1,q2,q3,q4⟩=>by subst q1;exact ⟨b,off,cc,fix,wr,el,rfl,k b _ rfl q2,q3,q4⟩⟩
theorem HX.locked {h h':TH} (x:HX h h') (M:List Nat):HX (h.withLock M) (h'.withLock M):=⟨x.next,x.floor,rfl,x.old⟩
end
def JoinR (h h':TH) (v:Value) (s:ByteArray) (n:Int) (Z:List Int) (Y:List Bool) (e:Int):Prop :=
 HX h h'∧((e≠0∧v=.tuple #[run0,.int .i64 e])∨(e=0∧∃ w1 w2,v=.tuple #[runV s n w1 w2,.int .i64 0]∧RunO h.next h' w1 w2 (madeF Z Y) (holesOf Y)))
end Go.Tidy
namespace Go.Tidy
open Go Go.Proofs Tab
variable {tp:TProg}
section
variable {α:Type} {k:Nat} {l:List α}
end
theorem WO.remI {P:Program} {tp:TProg} {a:Regs} {h:TH} {K:Regs→TH→Prop} {rest:List TOper} {d:Option Tmp} {ty:TypeId} {i:Nat} {x y:Operand} {t u:TypeId} {m n:Int} (hx:getO a x=some (.int .i64 m)) (hy:getO a y=some (.int .i64 n)) (hn:n≠0)
  (w:WO P tp rest (a.put d (.int .i64 (m.tmod n))) h K):WO P tp (⟨d,.binOp .rem t x y u,ty,none,[],i⟩::rest) a h K:=by
 refine WO.bi hx hy ?_ w
 have hk:Nat.beq (kindNo .i64) (kindNo .i64)=true:=Nat.beq_refl _
 have hb:(n == 0)=false:=by simpa using hn
 simp only [fastBin,hk,fastInt,hb,Bool.cond_true,Bool.cond_false]
theorem WOL.rem {P:Program} {tp:TProg} {h:TH} {K:Regs→TH→Prop} {rest:List TOper} {d:Option Tmp} {ty:TypeId} {i:Nat} {x y:Operand} {t u:TypeId} {L:Rg} {m n:Int} (hx:getL L x=some (.int .i64 m)) (hy:getL L y=some (.int .i64 n)) (hm:0≤m) (hn:0 < n) (w:∀ a,Kn (putL L d (.int .i64 (m % n))) a→WO P tp rest a h K):∀ a,Kn L a→WO P tp (⟨d,.binOp .rem t x y u,ty,none,[],i⟩::rest) a h K:=fun a k=>by
 refine WO.remI (k.o hx) (k.o hy) (by omega) ?_
 rw [Int.tmod_eq_emod_of_nonneg hm]
 exact w _ (k.put d _)
end Go.Tidy
namespace Go.Tidy
open Go Go.Proofs Tab
variable {tp:TProg}
section
variable {P:Program} {h:TH} {v:Value} {t e:TypeId} {n:Nat} {z:List Value} {row:Bool} {K:Regs→TH→Prop} {rest:List TOper} {d:Option Tmp} {ty:TypeId} {i:Nat} {x y lo hi:Operand} {L:Rg}
theorem WOL.cp {h1:TH} {ts:Array TypeId} {vx vy:Value} (hx:getL L x=some vx) (hy:getL L y=some vy) (hm:copyT P ts #[vx,vy] h=some (v,h1)) (w:∀ a,Kn (putL L d v) a→WO P tp rest a h1 K):∀ a,Kn L a→WO P tp (⟨d,.call ⟨.builtin .copy,#[x,y],ts⟩,ty,none,[],i⟩::rest) a h K:=fun a k =>
 WO.op rfl rfl (fun call=>by
  have hp:plainOp P ⟨d,.call ⟨.builtin .copy,#[x,y],ts⟩,ty,none,[],i⟩ a.eval=none:=rfl
  simp [stepOp,heapFirst,fastOp,valueOp,hp,heapOp,getO_eval (k.o hx),getO_eval (k.o hy),hm]) (w _ (k.put d _))
theorem WOL.sl {q:Addr} {m cap:Nat} {vlo vhi:Value} (hx:getL L x=some (.slice (some q) m cap)) (hl:getL L lo=some vlo) (hh:getL L hi=some vhi) (hv:sliceT P t (.slice (some q) m cap) (some vlo) (some vhi) none h=some v) (w:∀ a,Kn (putL L d v) a→WO P tp rest a h K):∀ a,Kn L a→WO P tp (⟨d,.slice t x (some lo) (some hi) none,ty,none,[],i⟩::rest) a h K :=
 fun a k=>WO.sl (k.o hx) (k.o hl) (k.o hh) hv (k.nx w)
end
def setN {α:Type} (l:List α) (p:Nat) (g:Nat→α):Nat→List α
 | 0=>l
 | i+1=>(setN l p g i).set (p+i) (g i)
section
variable {α:Type} {l:List α} {p:Nat} {g:Nat→α}
end
theorem Free0.of {n:Nat} {hb h h':TH} (f:Free0 n h) (x:HX hb h) (y:HX hb h'):Free0 n h':=⟨by rw [y.floor,← x.floor];exact f.floor,by rw [y.lock,← x.lock];exact f.lock⟩
end Go.Tidy
namespace Go.Tidy
open Go Go.Proofs Tab
variable {tp:TProg}
theorem Valid.cell {s:ByteArray} {n:Int} {F:List Nat} {S:List (Int × Int)} {L:List Int} (V:Valid s n F S L) {i:Nat} (hi:i < F.length):∃ k,(cellsL L S)[i]?=some (L.getD i 0,k):=by
 have kl:=V.kl
 have ll:=V.lev.1
 have hx:L[i]?=some L[i]:=List.getElem?_eq_getElem (by omega)
 have hp:(knownL S F.length)[i]?=some (knownL S F.length)[i]:=List.getElem?_eq_getElem (by omega)
 have hd:=V.dark.2 i _ hx
 have hg:L.getD i 0=L[i]:=by rw [List.getD_eq_getElem?_getD,hx];rfl
 rw [V.cells,cellsK_get hx hp,hg]
 generalize (knownL S F.length)[i]=k at *
 cases k with
 | true=>exact ⟨true,rfl⟩
 | false=>exact ⟨false,by rw [hd hp];rfl⟩
end Go.Tidy
namespace Go.Tidy
open Go Go.Proofs Tab
variable {tp:TProg}
theorem holeE_after {m:Nat}:∀ {S:List (Int × Int)} {prev:Int},holeE m prev S=0→∀ p,p ∈ S→prev < p.1
  | [],_,_=>fun p hp=>by cases hp
  | x::r,prev,h=>by
    have hlt:=holeE_lt h x (List.mem_cons_self ..)
    rw [holeE_cons] at h
    cases hb:badS m x with
    | true=>rw [hb] at h;cases h
    | false =>
      rw [hb] at h
      by_cases hc:x.1≤prev
      · rw [decide_eq_true hc] at h;cases h
      · rw [decide_eq_false hc] at h
        intro p hp
        rcases List.mem_cons.1 hp with rfl | hp
        · omega
        · have:=holeE_after (S:=r) (prev:=x.2) h p hp
          omega
end Go.Tidy
namespace Go.Tidy
open Go Go.Proofs Tab
theorem Samp.e0 {b:Nat} {n:Int} (s:Samp b n):SampleE b 0:=by
 obtain ⟨neg,q,h,h2,_⟩:=s.ok
 obtain ⟨m,k,hr,hq,hk⟩:=h
 obtain ⟨D,hD⟩:∃ D:Nat,2 ^ 149=D:=⟨_,rfl⟩
 have hDp:0 < D:=by rw [← hD];exact two_pow_pos 149
 have e1:=h2 D hD
 have hl:=s.lim
 have hU:m*2 ^ (k+4)=n.natAbs*D:=by rw [Nat.pow_add,← Nat.mul_assoc,← e1,hq]
 have ok:okU (m*2 ^ (k+4))=true:=by
  rw [okU_eq hD]
  unfold okD
  rw [hU,decide_eq_true (Nat.mul_le_mul_right D hl),Nat.mul_div_cancel _ hDp]
  simp
 rcases single_cases b with h | ⟨s',h⟩ | ⟨neg',m',k',N⟩
 ·rw [s.nan] at h;cases h
 ·rw [hr] at h;cases h
 ·have e:=hr.symm.trans N.read
  injection e with e1 e2 e3
  obtain rfl:k=k':=by omega
  subst e2
  have:=SampleE.num neg' m k N
  rw [ok] at this
  exact this
theorem serr_zero {F:List Nat} {L:List Int} (h:Lev F L):∃ es,SErr F es∧firstNZ es=0:=by
 refine ⟨List.replicate F.length 0,⟨by simp,fun i b e hb he=>?_⟩,?_⟩
 ·have hi:i < F.length:=(List.getElem?_eq_some_iff.1 hb).1
  have hiL:i < L.length:=by rw [← h.1];exact hi
  have hx:L[i]?=some L[i]:=List.getElem?_eq_getElem hiL
  rw [List.getElem?_replicate,if_pos hi] at he
  cases he
  exact (h.2 i b _ hb hx).e0
 ·have:∀ k,firstNZ (List.replicate k 0)=0:=by
   intro k
   induction k with
   | zero=>rfl
   | succ k ih=>rw [List.replicate_succ];show cond ((0:Int) != 0) 0 _=0;exact ih
  exact this _
def endOf (prev:Int):List (Int × Int)→Int
 | []=>prev
 | p::r=>endOf p.2 r
theorem endOf_le {i:Int}:∀ (S:List (Int × Int)) (prev:Int),prev≤i→(∀ p,p ∈ S→p.2≤i)→endOf prev S≤i
 | [],_,h,_=>h
 | x::r,prev,_,h=>endOf_le r x.2 (h x (List.mem_cons_self ..)) fun p hp=>h p (List.mem_cons_of_mem _ hp)
theorem holeE_snoc {m:Nat} (p:Int × Int):∀ (S:List (Int × Int)) (prev:Int),holeE m prev (S ++ [p])=0 ↔ holeE m prev S=0∧badS m p=false∧endOf prev S < p.1
  | [], prev => by
    show holeE m prev [p]=0 ↔ _
    rw [holeE_cons]
    cases hb:badS m p with
    | true=>simp
    | false =>
      by_cases hc:p.1≤prev
      · rw [decide_eq_true hc]
        simp only [Bool.cond_false,Bool.cond_true,endOf]
        constructor
        · intro h;cases h
        · rintro ⟨_,_,h⟩;omega
      · rw [decide_eq_false hc]
        simp only [Bool.cond_false,endOf]
        exact ⟨fun _=>⟨by trivial,by trivial,by omega⟩,fun _=>by trivial⟩
  | x::r,prev=>by
    show holeE m prev (x::(r ++ [p]))=0 ↔ _
    rw [holeE_cons,holeE_cons]
    cases hb:badS m x with
    | true=>simp
    | false =>
      by_cases hc:x.1≤prev
      · rw [decide_eq_true hc];simp
      · rw [decide_eq_false hc]
        exact holeE_snoc p r x.2
theorem badS_no {m:Nat} {p:Int × Int}:badS m p=false ↔ 0≤p.1∧p.1 < p.2∧p.2≤m:=by
 unfold badS
 simp only [Bool.or_eq_false_iff,decide_eq_false_iff_not]
 omega
structure HoleI (B:List Bool) (i:Nat) (S:List (Int × Int)):Prop where
 h0:holeE B.length (-1) S=0
 hi:∀ p,p ∈ S→p.2≤(i:Int)
 hk:∀ x:Nat,x < i→S.any (inS x)=!B.getD x false
 ho:0 < i∧B.getD (i - 1) false=false→∃ T a,S=T ++ [((a:Int),(i:Int))]
 hc:¬ (0 < i∧B.getD (i - 1) false=false)→endOf (-1) S < (i:Int)
theorem inS_past {S:List (Int × Int)} {i:Nat} (h:∀ p,p ∈ S→p.2≤(i:Int)):S.any (inS i)=false:=by
 rw [List.any_eq_false]
 intro p hp
 have:=h p hp
 unfold inS
 rw [decide_eq_false (by omega:¬ (i:Int) < p.2),Bool.and_false]
 decide
theorem holeI (B:List Bool):∀ i,i≤B.length→HoleI B i (holesN B i)
  | 0,_=>⟨rfl,fun p hp=>(by cases hp),fun x hx=>by omega,fun h=>by omega,fun _=>(by show (-1:Int) < 0;decide)⟩
  | i + 1, hle => by
    obtain ⟨h0,hi,hk,ho,hc⟩:=holeI B i (by omega)
    show HoleI B (i+1) (hstep B (holesN B i) i)
    generalize holesN B i=S at *
    have sub1:i+1 - 1=i:=by omega
    unfold hstep
    by_cases hb:B.getD i false=true
    · rw [if_pos hb]
      refine ⟨h0,fun p hp=>by have:=hi p hp;omega,fun x hx=>?_,fun h=>?_,fun _=>?_⟩
      · by_cases hxi:x < i
        · exact hk x hxi
        · obtain rfl:x=i:=by omega
          rw [inS_past hi,hb];rfl
      · rw [sub1,hb] at h;cases h.2
      · have:=endOf_le S (-1) (show (-1:Int)≤(i:Int) by omega) hi
        omega
    · have hb':B.getD i false=false:=by simpa using hb
      rw [if_neg hb]
      by_cases hp:0 < i∧B.getD (i - 1) false=false
      · rw [if_pos hp]
        obtain ⟨T,a,rfl⟩:=ho hp
        obtain ⟨t0,t1,t2⟩:=(holeE_snoc _ T (-1)).1 h0
        have t1':=badS_no.1 t1
        have hS:(T ++ [(a,(i:Int))]).set ((T ++ [(a,(i:Int))]).length - 1) (((T ++ [(a,(i:Int))]).getD ((T ++ [(a,(i:Int))]).length - 1) (0,0)).1,(i:Int)+1)=T ++ [(a,((i+1:Nat):Int))]:=by
          simp
        rw [hS]
        refine ⟨(holeE_snoc _ T (-1)).2 ⟨t0,badS_no.2 ⟨t1'.1,?_,?_⟩,t2⟩,fun p hp=>?_,fun x hx=>?_,fun _=>⟨T,a,rfl⟩,fun h=>?_⟩
        · have:a < (i:Int):=t1'.2.1
          show a < ((i+1:Nat):Int)
          omega
        · show ((i+1:Nat):Int)≤_
          omega
        · rcases List.mem_append.1 hp with hp | hp
          · have:=hi p (List.mem_append_left _ hp);omega
          · simp at hp;subst hp;exact Int.le_refl _
        · have ha:a < (i:Int):=t1'.2.1
          by_cases hxi:x < i
          · rw [← hk x hxi,List.any_append,List.any_append]
            congr 1
            simp only [List.any_cons,List.any_nil,Bool.or_false,inS]
            congr 1
            rw [decide_eq_true (by omega:(x:Int) < ((i+1:Nat):Int)),decide_eq_true (by omega:(x:Int) < (i:Int))]
          · obtain rfl:x=i:=by omega
            rw [hb',List.any_append]
            simp only [List.any_cons,List.any_nil,Bool.or_false,inS]
            rw [decide_eq_true (by omega:(x:Int) ≥ a),decide_eq_true (by omega:(x:Int) < ((x+1:Nat):Int))]
            simp
        · rw [sub1] at h
          exact absurd ⟨by omega,hb'⟩ h
      · rw [if_neg hp]
        have hc':=hc hp
        refine ⟨(holeE_snoc _ S (-1)).2 ⟨h0,badS_no.2 ⟨by show (0:Int)≤(i:Int);omega,by show (i:Int) < (i:Int)+1;omega,by show (i:Int)+1≤_;omega⟩,hc'⟩,fun p hp=>?_,fun x hx=>?_,fun _=>⟨S,(i:Int),rfl⟩,fun h=>?_⟩
        · rcases List.mem_append.1 hp with hp | hp
          · have:=hi p hp;omega
          · simp at hp;subst hp;show (i:Int)+1≤_;omega
        · rw [List.any_append]
          by_cases hxi:x < i
          · rw [← hk x hxi]
            simp only [List.any_cons,List.any_nil,Bool.or_false,inS]
            rw [decide_eq_false (by omega:¬ (x:Int) ≥ (i:Int))]
            simp
          · obtain rfl:x=i:=by omega
            rw [hb']
            simp only [List.any_cons,List.any_nil,Bool.or_false,inS]
            rw [decide_eq_true (by omega:(x:Int) ≥ (x:Int)),decide_eq_true (by omega:(x:Int) < (x:Int)+1)]
            simp
        · rw [sub1] at h
          exact absurd ⟨by omega,hb'⟩ h
theorem known_holes (B:List Bool):knownL (holesOf B) B.length=B:=by
 have H:=holeI B B.length (Nat.le_refl _)
 apply List.ext_getElem?
 intro x
 by_cases hx:x < B.length
 ·unfold knownL
  rw [List.getElem?_map,List.getElem?_range hx]
  show some (knownB (holesOf B) x)=_
  unfold knownB
  rw [show (holesOf B).any (inS x)=!B.getD x false from H.hk x hx,Bool.not_not,List.getD_eq_getElem?_getD,List.getElem?_eq_getElem hx]
  rfl
 ·rw [List.getElem?_eq_none (by rw [knownL_len];omega),List.getElem?_eq_none (by omega)]
theorem holes_ok (B:List Bool):holeE B.length (-1) (holesOf B)=0:=(holeI B B.length (Nat.le_refl _)).h0
def DarkC (C:List (Int × Bool)):Prop:=∀ c,c ∈ C→c.2=false→c.1=0
theorem made_run {s:ByteArray} {n:Int} {C:List (Int × Bool)} (hd:headE s n C.length=0) (hn:n+C.length≤100000000) (lim:∀ c,c ∈ C→c.1.natAbs≤16384) (dk:DarkC C) :
    ∃ es,SErr (C.map fun c=>smp c.1) es∧Lev (C.map fun c=>smp c.1) (C.map fun c=>c.1)∧runE s n (C.map fun c=>smp c.1).length (holesOf (C.map fun c=>c.2)) es (C.map fun c=>c.1)=0∧Valid s n (C.map fun c=>smp c.1) (holesOf (C.map fun c=>c.2)) (C.map fun c=>c.1)∧cellsL (C.map fun c=>c.1) (holesOf (C.map fun c=>c.2))=C:=by
  have hL:=lev_smp lim
  obtain ⟨es,hE,h0⟩:=serr_zero hL
  have hlen:(C.map fun c=>smp c.1).length=C.length:=by simp
  have hlen2:(C.map fun c=>c.2).length=C.length:=by simp
  have ho:holeE C.length (-1) (holesOf (C.map fun c=>c.2))=0:=by have:=holes_ok (C.map fun c=>c.2);rwa [hlen2] at this
  have hK:knownL (holesOf (C.map fun c=>c.2)) C.length=C.map fun c=>c.2:=by have:=known_holes (C.map fun c=>c.2);rwa [hlen2] at this
  have hin:=holeE_in ho
  have hform:(holesOf (C.map fun c=>c.2)).any (anyIn (C.map fun c=>c.1))=false:=by
    cases hb:(holesOf (C.map fun c=>c.2)).any (anyIn (C.map fun c=>c.1)) with
    | false=>rfl
    | true =>
      obtain ⟨j,x,hj,hx,hk⟩:=(form_iff hin).1 hb
      rw [List.getElem?_map] at hj
      cases hc:C[j]? with
      | none=>rw [hc] at hj;cases hj
      | some c =>
        have hjl:j < C.length:=(List.getElem?_eq_some_iff.1 hc).1
        have hkj:(knownL (holesOf (C.map fun c=>c.2)) C.length)[j]?=some (knownB (holesOf (C.map fun c=>c.2)) j):=by
          unfold knownL
          rw [List.getElem?_map,List.getElem?_range hjl];rfl
        rw [hK,List.getElem?_map,hc,hk] at hkj
        rw [hc] at hj
        exact absurd ((Option.some.inj hj).symm.trans (dk c (List.mem_of_getElem? hc) (Option.some.inj hkj))) hx
  obtain ⟨_,n0,n1,hm⟩:=headE_zero hd
  have hr:runE s n (C.map fun c=>smp c.1).length (holesOf (C.map fun c=>c.2)) es (C.map fun c=>c.1)=0:=by
    unfold runE tailE formE
    rw [hlen,hd,h0,ho,hform,decide_eq_false (by omega)]
    rfl
  refine ⟨es,hE,hL,hr,valid_of (fun _=>hL) hr,?_⟩
  rw [cells_eq hL (by rw [hlen];exact hin),hlen,hK]
  apply List.ext_getElem?
  intro i
  cases hc:C[i]? with
  | none =>
    have:C.length≤i:=List.getElem?_eq_none_iff.1 hc
    rw [List.getElem?_eq_none (by rw [cellsK_ln (by simp)];simp;omega)]
  | some c =>
    rw [cellsK_get (x:=c.1) (p:=c.2) (by rw [List.getElem?_map,hc];rfl) (by rw [List.getElem?_map,hc];rfl)]
    obtain ⟨x,k⟩:=c
    cases k with
    | true=>rfl
    | false =>
      have h1:x=0:=dk _ (List.mem_of_getElem? hc) rfl
      subst h1;rfl
end Go.Tidy
namespace Go.Tidy
open Go Go.Proofs Tab
theorem known_no {S:List (Int × Int)} {x:Int}:knownB S x=false ↔ ∃ p,p ∈ S∧p.1≤x∧x < p.2:=by
 unfold knownB
 rw [Bool.not_eq_false',List.any_eq_true]
 constructor
 ·rintro ⟨p,hp,h⟩
  unfold inS at h
  simp only [Bool.and_eq_true,decide_eq_true_eq] at h
  exact ⟨p,hp,h.1,h.2⟩
 ·rintro ⟨p,hp,h1,h2⟩
  refine ⟨p,hp,?_⟩
  unfold inS
  rw [decide_eq_true h1,decide_eq_true h2];rfl
theorem holeE_tail {m:Nat} {prev:Int} {p:Int × Int} {r:List (Int × Int)} (h:holeE m prev (p::r)=0):badS m p=false∧prev < p.1∧holeE m p.2 r=0:=by
 rw [holeE_cons] at h
 cases hb:badS m p with
 | true=>rw [hb] at h;cases h
 | false =>
  rw [hb] at h
  by_cases hc:p.1≤prev
  ·rw [decide_eq_true hc] at h;cases h
  ·rw [decide_eq_false hc] at h
   exact ⟨rfl,by omega,h⟩
theorem known_tail {p:Int × Int} {r:List (Int × Int)} {x:Int} (hx:p.2≤x):knownB (p::r) x=knownB r x:=by
 unfold knownB
 rw [List.any_cons]
 unfold inS
 rw [decide_eq_false (by omega:¬ x < p.2),Bool.and_false,Bool.false_or]
theorem holes_first {m:Nat} {prev:Int} {p:Int × Int} {r:List (Int × Int)} (h:holeE m prev (p::r)=0) {x:Int} (hx:knownB (p::r) x=false):p.1≤x:=by
 obtain ⟨q,hq,h1,_⟩:=known_no.1 hx
 obtain ⟨b,_,t⟩:=holeE_tail h
 have:=badS_no.1 b
 rcases List.mem_cons.1 hq with rfl | hq
 ·exact h1
 ·have:=holeE_after t q hq
  omega
theorem holes_end {m:Nat} {prev:Int} {p:Int × Int} {r:List (Int × Int)} (h:holeE m prev (p::r)=0):knownB (p::r) p.2=true:=by
 cases hb:knownB (p::r) p.2 with
 | true=>rfl
 | false =>
  rw [known_tail (Int.le_refl _)] at hb
  obtain ⟨q,hq,h1,_⟩:=known_no.1 hb
  have:=holeE_after (holeE_tail h).2.2 q hq
  omega
theorem holes_uniq {m:Nat}:∀ {S T:List (Int × Int)} {prev:Int},-1≤prev→holeE m prev S=0→holeE m prev T=0→(∀ x:Nat,prev < (x:Int)→knownB S x=knownB T x)→S=T
  | [],[],_,_,_,_,_=>rfl
  | [],q::t,prev,h0,_,hT,h=>by
    obtain ⟨b,a,_⟩:=holeE_tail hT
    have b':=badS_no.1 b
    obtain ⟨x,hx⟩:=Int.eq_ofNat_of_zero_le b'.1
    have h1:=h x (by omega)
    rw [show knownB (q::t) (x:Int)=false from known_no.2 ⟨q,List.mem_cons_self ..,by omega,by omega⟩] at h1
    cases h1
  | p::r,[],prev,h0,hS,_,h=>by
    obtain ⟨b,a,_⟩:=holeE_tail hS
    have b':=badS_no.1 b
    obtain ⟨x,hx⟩:=Int.eq_ofNat_of_zero_le b'.1
    have h1:=h x (by omega)
    rw [show knownB (p::r) (x:Int)=false from known_no.2 ⟨p,List.mem_cons_self ..,by omega,by omega⟩] at h1
    cases h1
  | p::r,q::t,prev,h0,hS,hT,h=>by
    obtain ⟨b,a,tS⟩:=holeE_tail hS
    obtain ⟨c,d,tT⟩:=holeE_tail hT
    have b':=badS_no.1 b
    have c':=badS_no.1 c
    obtain ⟨p1,p2⟩:=p
    obtain ⟨q1,q2⟩:=q
    simp only at b' c' a d
    obtain ⟨x,rfl⟩:=Int.eq_ofNat_of_zero_le b'.1
    obtain ⟨y,rfl⟩:=Int.eq_ofNat_of_zero_le c'.1
    obtain ⟨u,rfl⟩:=Int.eq_ofNat_of_zero_le (show 0≤p2 by omega)
    obtain ⟨v,rfl⟩:=Int.eq_ofNat_of_zero_le (show 0≤q2 by omega)
    have e1:(y:Int)≤x:=holes_first hT (x:=(x:Int)) (by rw [← h x a];exact known_no.2 ⟨_,List.mem_cons_self ..,Int.le_refl _,b'.2.1⟩)
    have e2:(x:Int)≤y:=holes_first hS (x:=(y:Int)) (by rw [h y d];exact known_no.2 ⟨_,List.mem_cons_self ..,Int.le_refl _,c'.2.1⟩)
    obtain rfl:x=y:=by omega
    have f1:¬ (u:Int) < v:=fun hl=>by
      have:=h u (by omega)
      rw [show knownB (((x:Int),(u:Int))::r) (u:Int)=true from holes_end hS,show knownB (((x:Int),(v:Int))::t) (u:Int)=false from known_no.2 ⟨_,List.mem_cons_self ..,by show (x:Int)≤u;omega,hl⟩] at this
      cases this
    have f2:¬ (v:Int) < u:=fun hl=>by
      have:=h v (by omega)
      rw [show knownB (((x:Int),(v:Int))::t) (v:Int)=true from holes_end hT,show knownB (((x:Int),(u:Int))::r) (v:Int)=false from known_no.2 ⟨_,List.mem_cons_self ..,by show (x:Int)≤v;omega,hl⟩] at this
      cases this
    obtain rfl:u=v:=by omega
    congr 1
    refine holes_uniq (prev:=(u:Int)) (by omega) tS tT fun z hz=>?_
    have:=h z (by omega)
    rwa [known_tail (by show (u:Int)≤z;omega),known_tail (by show (u:Int)≤z;omega)] at this
theorem known_past {m:Nat} {S:List (Int × Int)} (hin:In m S) {x:Int} (hx:(m:Int)≤x):knownB S x=true:=by
 cases hb:knownB S x with
 | true=>rfl
 | false =>
  obtain ⟨p,hp,h1,h2⟩:=known_no.1 hb
  have:=(hin p hp).2.2
  omega
theorem knownL_get {S:List (Int × Int)} {m i:Nat} (hi:i < m):(knownL S m)[i]?=some (knownB S i):=by
 unfold knownL
 rw [List.getElem?_map,List.getElem?_range hi];rfl
theorem holesOf_get {K:List Bool} {i:Nat} (hi:i < K.length):K[i]?=some (knownB (holesOf K) i):=by
 have:=knownL_get (S:=holesOf K) hi
 rwa [known_holes] at this
theorem holes_back {m:Nat} {S:List (Int × Int)} (h:holeE m (-1) S=0):holesOf (knownL S m)=S:=by
 have hl:=knownL_len S m
 have h2:=holes_ok (knownL S m)
 rw [hl] at h2
 refine holes_uniq (Int.le_refl _) h2 h fun x _=>?_
 by_cases hx:x < m
 ·have e1:=holesOf_get (K:=knownL S m) (i:=x) (by omega)
  rw [knownL_get hx] at e1
  exact (Option.some.inj e1).symm
 ·rw [known_past (holeE_in h2) (by omega),known_past (holeE_in h) (by omega)]
end Go.Tidy
namespace Go.Tidy
open Go Go.Proofs Tab
variable {tp:TProg}
theorem short_small {s:ByteArray} {m k:Nat} (h:shortB s m k=true):m≤4097∧k≤12:=by
 simp only [shortB,Bool.and_eq_true,Bool.or_eq_true,decide_eq_true_eq,beq_iff_eq] at h
 omega
end Go.Tidy
namespace Go.Tidy
open Go Go.Proofs Tab
variable {tp:TProg}
theorem JoinR.out {h h':TH} {v:Value} {s:ByteArray} {n:Int} {Z:List Int} {Y:List Bool} {e:Int} (r:JoinR h h' v s n Z Y e):∃ sz nz bo1 l1 k1 bo2 l2 k2,v=.tuple #[runV sz nz (.slice bo1 l1 k1) (.slice bo2 l2 k2),.int .i64 e]∧HX h h'∧(e≠0→(Value.slice bo1 l1 k1=.slice none 0 0∧Value.slice bo2 l2 k2=.slice none 0 0))∧(e=0→(sz=s∧nz=n)∧RunO h.next h' (.slice bo1 l1 k1) (.slice bo2 l2 k2) (madeF Z Y) (holesOf Y)):=by
 obtain ⟨X,⟨he,rfl⟩ | ⟨rfl,w1,w2,rfl,O⟩⟩:=r
 ·exact ⟨_,_,_,_,_,_,_,_,rfl,X,fun _=>⟨rfl,rfl⟩,fun h=>absurd h he⟩
 ·obtain ⟨bo1,k1,rfl⟩:=O.r.f.form
  obtain ⟨bo2,k2,rfl⟩:=O.r.s.form
  exact ⟨_,_,_,_,_,_,_,_,rfl,X,fun h=>absurd rfl h,fun _=>⟨⟨rfl,rfl⟩,O⟩⟩
theorem SumR.out {h h':TH} {v:Value} {s:ByteArray} {n:Int} {Z:List Int} {Y:List Bool} {sh:Bool} (hY:sh=true→Y.length=Z.length) (r:SumR h h' v s n Z Y sh):JoinR h h' v s n Z Y (cond (!sh) 2 (cond (allOk (cellsK Z Y)) 0 4)):=by
 obtain ⟨X,⟨rfl,rfl⟩ | ⟨rfl,no,rfl⟩ | ⟨rfl,ok,w1,w2,rfl,O⟩⟩:=r
 ·exact ⟨X,.inl ⟨by simp,rfl⟩⟩
 ·have:allOk (cellsK Z Y)=false:=by
   cases hb:allOk (cellsK Z Y) with
   | false=>rfl
   | true=>exact absurd ((ok_cells (hY rfl)).1 hb) no
  rw [this]
  exact ⟨X,.inl ⟨by decide,rfl⟩⟩
 ·rw [(ok_cells (hY rfl)).2 ok]
  exact ⟨X,.inr ⟨rfl,w1,w2,rfl,O⟩⟩
end Go.Tidy
namespace Go.Tidy
open Go Go.Proofs Tab
variable {tp:TProg}
structure Cel (s:ByteArray) (n:Int) (F:List Nat) (es:List Int) (C:List (Int × Bool)):Prop where
 len:F.length=C.length
 e:SErr F es
 lev:Lev F (C.map fun c=>c.1)
 r:runE s n F.length (holesOf (C.map fun c=>c.2)) es (C.map fun c=>c.1)=0
 v:Valid s n F (holesOf (C.map fun c=>c.2)) (C.map fun c=>c.1)
 c:cellsL (C.map fun c=>c.1) (holesOf (C.map fun c=>c.2))=C
def RunC (s:ByteArray) (n:Int) (h:TH) (v1 v2:Value) (C:List (Int × Bool)):Prop:=∃ F es,RunH h v1 v2 F (holesOf (C.map fun c=>c.2))∧Cel s n F es C
theorem RunC.hx {s:ByteArray} {n:Int} {h h':TH} {v1 v2:Value} {C:List (Int × Bool)} (r:RunC s n h v1 v2 C) (x:HX h h'):RunC s n h' v1 v2 C:=by
 obtain ⟨F,es,r,c⟩:=r
 exact ⟨F,es,r.hx x,c⟩
section
variable {s:ByteArray} {n:Int} {F:List Nat} {es L:List Int} {S:List (Int × Int)} {C:List (Int × Bool)}
theorem Cel.m (c:Cel s n F es C):C.length≤4096:=by have:=c.v.m;rw [c.len] at this;exact this
theorem Cel.lim (c:Cel s n F es C):∀ x,x ∈ C→x.1.natAbs≤16384:=by have:=c.v.lim;rwa [c.c] at this
theorem Cel.head (c:Cel s n F es C):headE s n C.length=0:=by
 have:=c.r
 unfold runE at this
 rw [c.len] at this
 rcases nz_cases (headE s n C.length) with h | h
 ·exact h
 ·rw [h] at this;rw [show headE s n C.length=0 from this] at h;cases h
theorem Valid.back (V:Valid s n F S L):((cellsL L S).map fun c=>c.1)=L∧holesOf ((cellsL L S).map fun c=>c.2)=S:=by
 have kl:=V.kl
 have ll:=V.lev.1
 constructor
 ·apply List.ext_getElem?
  intro i
  rw [List.getElem?_map]
  by_cases hi:i < F.length
  ·obtain ⟨k,hk⟩:=V.cell hi
   rw [hk,List.getElem?_eq_getElem (by omega:i < L.length)]
   simp [List.getD_eq_getElem?_getD,List.getElem?_eq_getElem (by omega:i < L.length)]
  ·rw [List.getElem?_eq_none (by rw [cells_len V.lev V.in_];omega),List.getElem?_eq_none (by omega)]
   rfl
 ·rw [V.cells,cellsK_snd kl,holes_back V.hole]
theorem Cel.of (V:Valid s n F S L) (hE:SErr F es) (h0:runE s n F.length S es L=0):Cel s n F es (cellsL L S):=by
 obtain ⟨b1,b2⟩:=V.back
 refine ⟨(cells_len V.lev V.in_).symm,hE,by rw [b1];exact V.lev,by rw [b1,b2];exact h0,by rw [b1,b2];exact V,by rw [b1,b2]⟩
theorem Cel.made (hd:headE s n C.length=0) (hn:n+C.length≤100000000) (lim:∀ c,c ∈ C→c.1.natAbs≤16384) (dk:DarkC C):∃ es,Cel s n (C.map fun c=>smp c.1) es C:=by
 obtain ⟨es,e1,e2,e3,e4,e5⟩:=made_run hd hn lim dk
 exact ⟨es,by simp,e1,e2,e3,e4,e5⟩
theorem RunO.cel {B:Nat} {h:TH} {w1 w2:Value} (o:RunO B h w1 w2 (C.map fun c=>smp c.1) (holesOf (C.map fun c=>c.2))) (hd:headE s n C.length=0) (hn:n+C.length≤100000000) (lim:∀ c,c ∈ C→c.1.natAbs≤16384) (dk:DarkC C):RunC s n h w1 w2 C:=by
 obtain ⟨es,c⟩:=Cel.made hd hn lim dk
 exact ⟨_,es,o.r,c⟩
end
section
variable {s:ByteArray} {n:Int} {h:TH} {v1 v2 w1 w2:Value} {C D:List (Int × Bool)}
def NewC (s:ByteArray) (n:Int) (C:List (Int × Bool)) (h:TH) (v:Value) (h':TH):Prop :=
 ∃ bo1 l1 k1 bo2 l2 k2,v=.tuple #[runV s n (.slice bo1 l1 k1) (.slice bo2 l2 k2),.int .i64 0]∧HX h h'∧RunC s n h' (.slice bo1 l1 k1) (.slice bo2 l2 k2) C∧Above h.next (.slice bo1 l1 k1)∧Above h.next (.slice bo2 l2 k2)
theorem RunR.new {h':TH} {v:Value} (r:RunR h h' v s n C 0) (hd:headE s n C.length=0) (hn:n+C.length≤100000000) (lim:∀ c,c ∈ C→c.1.natAbs≤16384) (dk:DarkC C):NewC s n C h v h':=by
 obtain ⟨X,⟨he,_⟩ | ⟨_,w1,w2,rfl,O⟩⟩:=r
 ·exact absurd rfl he
 ·obtain ⟨bo1,k1,rfl⟩:=O.r.f.form
  obtain ⟨bo2,k2,rfl⟩:=O.r.s.form
  exact ⟨_,_,_,_,_,_,rfl,X,O.cel hd hn lim dk,O.o1,O.o2⟩
end
end Go.Tidy
namespace Go.Tidy
open Go Go.Proofs Tab
variable {tp:TProg}
theorem lev_some (F:List Nat):∃ es L,SErr F es∧(firstNZ es=0→Lev F L):=by
 obtain ⟨es,hE⟩:=serr_ex F
 by_cases h0:firstNZ es=0
 ·obtain ⟨L,hL⟩:=lev_ex F es hE (firstNZ_zero h0)
  exact ⟨es,L,hE,fun _=>hL⟩
 ·exact ⟨es,[],hE,fun h=>absurd h h0⟩
attribute [local irreducible] Ty valOf
end Go.Tidy
namespace Go.Tidy
open Go Go.Proofs Tab
variable {tp:TProg}
section
variable {P:Program} {h:TH} {K:Regs→TH→Prop} {rest:List TOper} {d:Option Tmp} {ty:TypeId} {i:Nat} {x y:Operand} {t u:TypeId} {L:Rg}
theorem WOL.fne {b c:Nat} {m n:Int} (s:Samp b m) (s':Samp c n) (hx:getL L x=some (.float .f32 b)) (hy:getL L y=some (.float .f32 c)) (w:∀ a,Kn (putL L d (.bool (!decide (m=n)))) a→WO P tp rest a h K):∀ a,Kn L a→WO P tp (⟨d,.binOp .neq t x y u,ty,none,[],i⟩::rest) a h K:=fun a k=>WO.fcmp (k.o hx) (k.o hy) s.nan s'.nan (s.cmp s').2 (w _ (k.put d _))
end
section
variable {s:ByteArray} {n:Int} {g:TH} {v1 v2 p1 p2:Value} {C:List (Int × Bool)} {c2 c3 c5':Nat}
end
end Go.Tidy
namespace Go.Tidy
open Go Go.Proofs Tab
variable {tp:TProg}
section
variable {s:ByteArray} {n:Int} {g:TH} {v1 v2 p1 p2:Value} {C:List (Int × Bool)} {c2 c3 c5':Nat}
theorem RunC.relock (r:RunC s n g v1 v2 C) (M:List Nat):RunC s n (g.withLock M) v1 v2 C:=by
 obtain ⟨F,es,r,c⟩:=r
 exact ⟨F,es,r.relock' M,c⟩
end
attribute [local irreducible] Ty valOf
end Go.Tidy
namespace Go.Tidy
open Go Go.Proofs Tab
variable {tp:TProg}
theorem RunC.away {s:ByteArray} {n:Int} {h h':TH} {v1 v2:Value} {C:List (Int × Bool)} {n0 c:Nat} {x:TB} (r:RunC s n h v1 v2 C) (a1:Above n0 v1) (a2:Above n0 v2) (p:Put h h' c x) (hc:c < n0):RunC s n h' v1 v2 C:=by
 obtain ⟨F,es,r,q⟩:=r
 exact ⟨F,es,(RunO.away (n0:=n0) ⟨r,a1,a2⟩ p hc).r,q⟩
section
variable {s:ByteArray} {n:Int} {g:TH} {v1 v2:Value} {C:List (Int × Bool)} {c2 c3:Nat}
end
end Go.Tidy
namespace Go.Tidy
open Go Go.Proofs Tab
variable {tp:TProg}
theorem Samp.order {b c:Nat} {n m:Int} (s:Samp b n) (t:Samp c m):Ieee.single.order b c=some (compare n m):=by
 obtain ⟨neg,q,h1,h2,h3⟩:=s.ok
 obtain ⟨neg',q',g1,g2,g3⟩:=t.ok
 obtain ⟨D,hD⟩:∃ D:Nat,2 ^ 149=D:=⟨_,rfl⟩
 have hDp:0 < D:=by rw [← hD];exact two_pow_pos 149
 have e1:=h2 D hD
 have e2:=g2 D hD
 have a1:sg neg q*(16:Nat)=n*(D:Nat):=by rw [← sg_mul,e1,sg_mul,h3]
 have a2:sg neg' q'*(16:Nat)=m*(D:Nat):=by rw [← sg_mul,e2,sg_mul,g3]
 rw [h1.order g1]
 generalize sg neg q=x at *
 generalize sg neg' q'=y at *
 have hDi:(0:Int) < (D:Int):=by omega
 have hlt:x < y ↔ n < m:=by
  constructor
  ·intro hq
   have:n*(D:Int) < m*(D:Int):=by rw [← a1,← a2];omega
   exact Int.lt_of_mul_lt_mul_right this (by omega)
  ·intro hq
   have:n*(D:Int) < m*(D:Int):=Int.mul_lt_mul_of_pos_right hq hDi
   rw [← a1,← a2] at this
   omega
 have heq:x=y ↔ n=m:=by
  constructor
  ·intro hq
   rw [hq,a2] at a1
   exact (Int.eq_of_mul_eq_mul_right (by omega) a1).symm
  ·intro hq
   rw [hq,← a2] at a1
   omega
 congr 1
 show compareOfLessAndEq _ _=compareOfLessAndEq _ _
 unfold compareOfLessAndEq
 simp only [hlt,heq]
section
variable {P:Program} {h:TH} {K:Regs→TH→Prop} {rest:List TOper} {d:Option Tmp} {ty:TypeId} {i:Nat} {x y:Operand} {t u:TypeId} {L:Rg}
end
end Go.Tidy
namespace Go.Tidy
open Go Go.Proofs Tab
variable {tp:TProg}
theorem WOL.si {P:Program} {tp:TProg} {h:TH} {K:Regs→TH→Prop} {rest:List TOper} {d:Option Tmp} {ty:TypeId} {i:Nat} {x y:Operand} {t:TypeId} {L:Rg} {s:ByteArray} {k:IntKind} {j:Nat} (hx:getL L x=some (.string s)) (hy:getL L y=some (.int k (j:Nat))) (hu:P.underlying t=some .string) (hj:j < s.size) (w:∀ a,Kn (putL L d (.int .u8 (s[j].toNat:Nat))) a→WO P tp rest a h K):∀ a,Kn L a→WO P tp (⟨d,.index t x y,ty,none,[],i⟩::rest) a h K:=fun a q=>WO.si (q.o hx) (q.o hy) hu hj (w _ (q.put d _))
theorem u228:Tryz.prog.underlying 282=some (.int .u64):=by kernel_rfl
end Go.Tidy
namespace Go.Tidy
open Go Go.Proofs Tab
variable {tp:TProg}
section
variable {P:Program} {h:TH} {K:Regs→TH→Prop} {rest:List TOper} {d:Option Tmp} {ty:TypeId} {i:Nat} {x y:Operand} {t u:TypeId} {L:Rg}
theorem pv_shr {n:Int} {s:Nat} {yk:IntKind} {t:TypeId} (hs:s≤64) (h0:0≤n):pv P (binOp .shr t (.int .i64 n) (.int yk (s:Nat)))=some (.int .i64 (n / 2 ^ s)):=by
 show pv P (Op.shift .shr .i64 n yk s)=_
 unfold Op.shift
 rw [if_neg (by omega)]
 show some (Value.int .i64 (n.fdiv (2 ^ (min (s:Int).toNat IntKind.i64.bits))))=_
 have e:min (s:Int).toNat IntKind.i64.bits=s:=by
  have:IntKind.i64.bits=64:=rfl
  rw [this];omega
 rw [e,Int.fdiv_eq_ediv_of_nonneg _ (Int.le_of_lt (Int.pow_pos (by decide)))]
theorem WOL.pbin {op:BinOp} {vx vy v:Value} (hx:getL L x=some vx) (hy:getL L y=some vy) (px:plain vx=true) (py:plain vy=true) (hf:fastBin op vx vy=none) (hq:op≠.eql∧op≠.neq) (hv:pv P (binOp op t vx vy)=some v) (hp:plain v=true) (w:∀ a,Kn (putL L d v) a→WO P tp rest a h K):∀ a,Kn L a→WO P tp (⟨d,.binOp op t x y u,ty,none,[],i⟩::rest) a h K:=fun a k=>by
 have ex:=getO_eval (k.o hx)
 have ey:=getO_eval (k.o hy)
 refine WO.plainly rfl rfl rfl (by simp only [fastOp,ex,ey];exact hf) (by cases op <;> first | rfl | exact absurd rfl hq.1 | exact absurd rfl hq.2) (plainOp_of (by rfl) (fun q hq=>?_) ?_ hp) (w _ (k.put d _))
 ·simp only [Op.operands] at hq
  simp at hq
  rcases hq with rfl | rfl
  ·rw [ex];exact px
  ·rw [ey];exact py
 ·have e:eqGuard op t x y vx vy=(pure ():Sem Unit):=by
   unfold eqGuard
   cases op <;> first | rfl | exact absurd rfl hq.1 | exact absurd rfl hq.2
  simp [toOper,execOp,pv_bind,pv_map,pv_pure,ex,ey,e,hv]
theorem WOL.shr {n:Int} {s:Nat} {yk:IntKind} (hx:getL L x=some (zi n)) (hy:getL L y=some (.int yk (s:Nat))) (hs:s≤64) (h0:0≤n) (w:∀ a,Kn (putL L d (zi (n / 2 ^ s))) a→WO P tp rest a h K):∀ a,Kn L a→WO P tp (⟨d,.binOp .shr t x y u,ty,none,[],i⟩::rest) a h K :=
 WOL.pbin hx hy rfl rfl (by show cond _ (fastInt .shr _ _ _) none=none;cases Nat.beq _ _ <;> rfl) ⟨by decide,by decide⟩ (pv_shr hs h0) rfl w
end
def encY (b:Nat):List Value:=[.int .u8 (b:Nat)]
theorem eY:Enc encY 1:=⟨fun _=>rfl,fun _=>rfl⟩
section
variable {h:TH} {v:Value} {l:List Nat} {c:Nat}
end
def Byt (l:List Nat):Prop:=∀ b,b ∈ l→b < 256
theorem Byt.at {l:List Nat} (h:Byt l) (j:Nat):l.getD j 0 < 256:=by
 rw [List.getD_eq_getElem?_getD]
 cases hj:l[j]? with
 | none=>show (0:Nat) < 256;decide
 | some b=>exact h b (List.mem_of_getElem? hj)
section
variable {h:TH} {l:List Nat} {bo:Option Addr} {n k:Nat}
end
end Go.Tidy
namespace Go.Tidy
open Go Go.Proofs Tab
variable {tp:TProg}
def trcV (n:Int) (v1 v2:Value):Value:=.agg #[.int .i64 n,v1,v2]
structure TrcH (h:TH) (v1 v2:Value) (L:List Int) (S:List (Int × Int)):Prop where
 l:SlL encI 1 h v1 L
 s:SlL encS 2 h v2 S
 g:Fits h v1 3
theorem TrcH.hx {h h':TH} {v1 v2:Value} {L:List Int} {S:List (Int × Int)} (r:TrcH h v1 v2 L S) (x:HX h h'):TrcH h' v1 v2 L S:=⟨r.l.hx x,r.s.hx x,r.g.hx x⟩
theorem TrcH.relock {h:TH} {v1 v2:Value} {L:List Int} {S:List (Int × Int)} (r:TrcH h v1 v2 L S) (M:List Nat):TrcH (h.withLock M) v1 v2 L S:=⟨r.l.relock M,r.s.relock M,fun b off m cap e=>by
 obtain ⟨cc,fix,wr,el,r1,r2⟩:=r.g b off m cap e
 exact ⟨cc,fix,wr,el,r1.relock _,r2⟩⟩
def readE (x:Int):Int:=outB x (-1073741824) 1073741824
theorem tp29:Tp Tryz.prog 49 1 [.slice none 0 0] false:=tp_of (by kernel_rfl) (by kernel_rfl) rfl
section
variable {h:TH}
end
section
variable {h:TH} {v:Value} {L:List Int}
end
end Go.Tidy
namespace Go.Tidy
open Go Go.Proofs Tab
variable {tp:TProg}
theorem WOL.cut {P:Program} {tp:TProg} {h:TH} {K:Regs→TH→Prop} {ops:List TOper} {L:Rg} (n:Nat) (M:Rg) (w1:∀ a,Kn L a→WO P tp (ops.take n) a h (fun a' h'=>h'=h∧Kn M a')) (w2:∀ a,Kn M a→WO P tp (ops.drop n) a h K):∀ a,Kn L a→WO P tp ops a h K :=
 fun a k=>WO.cut n ((w1 a k).mono fun a' h' ⟨e,k'⟩=>by subst e;exact w2 a' k')
theorem SlL.part {α:Type} {enc:α→List Value} {n:Nat} {h:TH} {b off m cap lo hi:Nat} {l:List α} (E:Enc enc n) (s:SlL enc n h (.slice (some ⟨b,off,none⟩) m cap) l) (h1:lo≤hi) (h2:hi≤l.length):SlL enc n h (.slice (some ⟨b,off+lo*n,none⟩) (hi - lo) (cap - lo)) ((l.drop lo).take (hi - lo)):=by
 have e:((l.drop lo).take (hi - lo)).length=hi - lo:=by rw [List.length_take,List.length_drop];omega
 obtain ⟨bo,cap',e1,hc,hl,hh⟩:=s
 cases e1
 rcases hh with ⟨q,_⟩ | ⟨b',off',cc,fix,wr,el,q1,A,q2,q3⟩
 ·cases q
 ·cases q1
  have hm:hi*n≤l.length*n:=Nat.mul_le_mul_right _ h2
  have hlo:lo*n+(hi - lo)*n=hi*n:=by rw [← Nat.add_mul];congr 1;omega
  refine ⟨_,cap - lo,by rw [e],by rw [e];omega,by rw [E.cat_len],.inr ⟨b,off+lo*n,cc,fix,wr,el,rfl,A,?_,by rw [e];omega⟩⟩
  rw [e,← E.take,← E.drop,← q2,List.drop_take,List.take_take,List.drop_drop,Nat.min_eq_left (by omega)]
section
variable {h:TH} {n:Int} {v1 v2:Value} {L:List Int} {S:List (Int × Int)}
end
end Go.Tidy
namespace Go.Tidy
open Go Go.Proofs Tab
variable {tp:TProg}
theorem tp145:Tp Tryz.prog 137 1 [.slice none 0 0] false:=tp_of (by kernel_rfl) (by kernel_rfl) rfl
structure RowA (g:TH) (bv bk:Nat) (L:List Int) (B:List Bool):Prop where
 v:At g bv (.cells (cat encI L) true true 3)
 k:At g bk (.cells (cat encB B) true true 4)
 e:B.length=L.length
 n:bv≠bk
theorem RowA.hx {g g':TH} {bv bk:Nat} {L:List Int} {B:List Bool} (r:RowA g bv bk L B) (x:HX g g'):RowA g' bv bk L B:=⟨r.v.hx x,r.k.hx x,r.e,r.n⟩
abbrev slA (b m:Nat):Value:=.slice (some ⟨b,0,none⟩) m m
def largeB (x:Int):Bool:=readE x != 0
section
variable {h:TH} {n:Int} {L:List Int} {B:List Bool}
theorem rep_flat {z:Value}:∀ m:Nat,(List.replicate m [z]).flatten=List.replicate m z
 | 0=>rfl
 | m+1=>by rw [List.replicate_succ,List.flatten_cons,rep_flat m];rfl
theorem cat_rep {α:Type} {enc:α→List Value} {x:α} {z:Value} (h:enc x=[z]):∀ m:Nat,cat enc (List.replicate m x)=List.replicate m z
 | 0=>rfl
 | m+1=>by
  rw [List.replicate_succ,List.replicate_succ]
  show enc x ++ cat enc (List.replicate m x)=_
  rw [h,cat_rep h m]
  rfl
end
end Go.Tidy
namespace Go.Tidy
open Go Go.Proofs Tab
variable {tp:TProg}
section
variable {P:Program} {a:Regs} {h:TH} {K:Regs→TH→Prop} {rest:List TOper} {d:Option Tmp} {ty:TypeId} {i:Nat} {f x0 x1 x2 l0:Operand} {ls:List Operand} {fv v0 v1 v2:Value} {ts:Array TypeId}
end
def RefS (B:Nat) (g:TH) (c:Nat) (s:ByteArray) (n:Int) (C:List (Int × Bool)) (e:Int):Prop :=
  ∃ sz nz w1 w2,At g c (.cells (runV sz nz w1 w2).cells.toList true true 25)∧(e≠0→w1=.slice none 0 0∧w2=.slice none 0 0) ∧
    (e=0→(sz=s∧nz=n)∧RunO B g w1 w2 (C.map fun c=>smp c.1) (holesOf (C.map fun c=>c.2))∧Lev (C.map fun c=>smp c.1) (C.map fun c=>c.1)∧C.length≤4096)
section
variable {B c c':Nat} {g g':TH} {s:ByteArray} {n:Int} {C:List (Int × Bool)} {e:Int}
theorem RefS.hx (q:RefS B g c s n C e) (x:HX g g'):RefS B g' c s n C e:=by
 obtain ⟨sz,nz,w1,w2,a,q1,q2⟩:=q
 exact ⟨sz,nz,w1,w2,a.hx x,q1,fun h=>⟨(q2 h).1,(q2 h).2.1.hx x,(q2 h).2.2⟩⟩
theorem RefS.away {x:TB} (q:RefS B g c s n C e) (p:Put g g' c' x) (h1:c'≠c) (h2:c' < B):RefS B g' c s n C e:=by
 obtain ⟨sz,nz,w1,w2,a,q1,q2⟩:=q
 exact ⟨sz,nz,w1,w2,p.oth _ _ (Ne.symm h1) a,q1,fun h=>⟨(q2 h).1,(q2 h).2.1.away p h2,(q2 h).2.2⟩⟩
end
end Go.Tidy
namespace Go.Tidy
open Go Go.Proofs Tab
variable {tp:TProg}
structure TrcO (n0:Nat) (g:TH) (bv:Nat) (w:Value) (L:List Int) (S:List (Int × Int)):Prop where
 v:At g bv (.cells (cat encI L) true true 3)
 s:OwnL encS n0 g w 27 S
theorem TrcO.hx {n0 bv:Nat} {g g':TH} {w:Value} {L:List Int} {S:List (Int × Int)} (r:TrcO n0 g bv w L S) (x:HX g g'):TrcO n0 g' bv w L S:=⟨r.v.hx x,r.s.hx x⟩
theorem TrcO.put {n0 bv c:Nat} {g g':TH} {w:Value} {L:List Int} {S:List (Int × Int)} {x:TB} (r:TrcO n0 g bv w L S) (p:Put g g' c x) (h1:bv≠c) (h2:c < n0):TrcO n0 g' bv w L S:=⟨p.oth _ _ h1 r.v,r.s.keep fun z y hz a=>p.oth _ _ (by have:=r.s.lt hz;omega) a⟩
theorem TrcO.form {n0 bv:Nat} {g:TH} {w:Value} {L:List Int} {S:List (Int × Int)} (r:TrcO n0 g bv w L S):∃ b m k,w=.slice b m k:=by
 rcases r.s with ⟨rfl,_⟩ | ⟨_,b,rfl,_⟩
 ·exact ⟨_,_,_,rfl⟩
 ·exact ⟨_,_,_,rfl⟩
theorem TrcO.low {n0 n1 bv:Nat} {g:TH} {w:Value} {L:List Int} {S:List (Int × Int)} (r:TrcO n1 g bv w L S) (h:n0≤n1):TrcO n0 g bv w L S:=⟨r.v,by
 rcases r.s with q | ⟨q1,b,q2,q3,q4⟩
 ·exact .inl q
 ·exact .inr ⟨q1,b,q2,by omega,q4⟩⟩
section
variable {h:TH} {n:Int} {L:List Int} {B:List Bool} {bv bk:Nat}
end
end Go.Tidy
namespace Go.Tidy
open Go Go.Proofs Tab
variable {tp:TProg}
section
variable {h:TH} {l:List Nat} {v:Value} {bo:Option Addr} {n k:Nat}
end
section
variable {h:TH} {l:List Nat} {bo:Option Addr} {n k:Nat}
end
def OwnF {α:Type} (enc:α→List Value) (n0:Nat) (h:TH) (v:Value) (e:TypeId) (l:List α):Prop :=
 OwnL enc n0 h v e l∨(∃ b,v=.slice (some ⟨b,0,none⟩) l.length l.length∧n0≤b∧At h b (.cells (cat enc l) true true e))
section
variable {P:Program} {h:TH} {α:Type} {enc:α→List Value} {n0 n:Nat} {v:Value} {e:TypeId} {l:List α} {z:List Value} {row:Bool}
theorem OwnF.hx {h':TH} (o:OwnF enc n0 h v e l) (x:HX h h'):OwnF enc n0 h' v e l:=o.imp (fun o=>o.hx x) fun ⟨b,h1,h2,h3⟩=>⟨b,h1,h2,h3.hx x⟩
theorem OwnF.sl (E:Enc enc n) (o:OwnF enc n0 h v e l):SlL enc n h v l:=by
 rcases o with o | ⟨b,rfl,_,h3⟩
 ·exact o.sl E
 ·exact SlL.own E h3 rfl
theorem OwnF.form (o:OwnF enc n0 h v e l):∃ bo,v=.slice bo l.length l.length:=by
 rcases o with (⟨rfl,rfl⟩ | ⟨_,b,rfl,_⟩) | ⟨b,rfl,_⟩
 ·exact ⟨_,rfl⟩
 ·exact ⟨_,rfl⟩
 ·exact ⟨_,rfl⟩
end
section
variable {P:Program} {h:TH} {K:Regs→TH→Prop} {rest:List TOper} {d:Option Tmp} {ty:TypeId} {i:Nat} {x:Operand} {L:Rg}
theorem WOL.cvw {s t:TypeId} {ds:TypeDesc} {k k':IntKind} {n:Int} (hs:P.underlying s=some ds) (ht:P.underlying t=some (.int k')) (hx:getL L x=some (.int k n)) (w:∀ a,Kn (putL L d (.int k' (k'.wrap n))) a→WO P tp rest a h K):∀ a,Kn L a→WO P tp (⟨d,.convert s t x,ty,none,[],i⟩::rest) a h K:=fun a q =>
 WO.conv (q.o hx) rfl (conv_i2i hs ht) rfl (w _ (q.put d _))
end
section
variable {h hb:TH} {l:List Nat} {v:Value} {n k n0:Nat}
end
end Go.Tidy
namespace Go.Tidy
open Go Go.Proofs Tab
variable {tp:TProg}
def Tail3 (s:Nat→ByteArray) (n:Nat→Int) (F:Nat→List Nat) (S:Nat→List (Int × Int)) (es L:Nat→List Int):Prop:=∀ k,2≤k→s k=s 2∧n k=n 2∧F k=F 2∧S k=S 2∧es k=es 2∧L k=L 2
section
variable {s:Nat→ByteArray} {n:Nat→Int} {v1 v2:Nat→Value} {F:Nat→List Nat} {S:Nat→List (Int × Int)} {es L:Nat→List Int} {h:TH} {lb:Nat} {el:Int}
theorem Tail3.some (t:Tail3 s n F S es L):∀ k,∃ j,j < 3∧s k=s j∧n k=n j∧F k=F j∧S k=S j∧es k=es j∧L k=L j:=by
 intro k
 by_cases h0:k=0
 ·subst h0;exact ⟨0,by decide,rfl,rfl,rfl,rfl,rfl,rfl⟩
 ·by_cases h1:k=1
  ·subst h1;exact ⟨1,by decide,rfl,rfl,rfl,rfl,rfl,rfl⟩
  ·exact ⟨2,by decide,t k (by omega)⟩
end
end Go.Tidy
namespace Go.Tidy
open Go Go.Proofs Tab
variable {tp:TProg}
def optL (L:Rg):Option Operand→Option (Option Value)
 | none=>some none
 | some x=>(getL L x).map some
theorem optL_o {L:Rg} {a:Regs} (k:Kn L a) {x:Option Operand} {v:Option Value} (h:optL L x=some v):x.map a.eval=v:=by
 cases x with
 | none=>cases h;rfl
 | some x =>
  simp only [optL,Option.map_eq_some_iff] at h
  obtain ⟨w,h1,rfl⟩:=h
  show some (a.eval x)=some w
  rw [getO_eval (k.o h1)]
section
variable {P:Program} {h:TH} {K:Regs→TH→Prop} {rest:List TOper} {d:Option Tmp} {ty:TypeId} {i:Nat} {x y:Operand} {t u e:TypeId} {L:Rg} {v vx:Value}
theorem WOL.slG {lo hi:Option Operand} {vlo vhi:Option Value} (hx:getL L x=some vx) (hp:plain vx=false) (hl:optL L lo=some vlo) (hh:optL L hi=some vhi) (hv:sliceT P t vx vlo vhi none h=some v) (w:∀ a,Kn (putL L d v) a→WO P tp rest a h K):∀ a,Kn L a→WO P tp (⟨d,.slice t x lo hi none,ty,none,[],i⟩::rest) a h K:=fun a k=>by
 have e1:=getO_eval (k.o hx)
 have e2:=optL_o k hl
 have e3:=optL_o k hh
 refine WO.op (h1:=h) rfl rfl (fun call=>?_) (w _ (k.put d _))
 have hq:plainOp P ⟨d,.slice t x lo hi none,ty,none,[],i⟩ a.eval=none:=by
  unfold plainOp
  simp [plainly,Op.operands,e1,hp]
 simp only [stepOp,heapFirst,fastOp,valueOp,hq,heapOp,e1,e2,e3,Option.map_none,hv,Bool.cond_false]
 rfl
end
section
variable {h:TH} {s c:Int} {x y z:Nat} {es:List Int}
end
section
variable {P:Program} {h:TH} {K:Regs→TH→Prop} {rest:List TOper} {d:Option Tmp} {ty:TypeId} {i:Nat} {x:Operand} {t e:TypeId} {L:Rg}
end
def wd (x y z:Nat):Nat→Nat | 0=>x | 1=>y | _=>z
theorem OwnF.at_ {α:Type} {enc:α→List Value} {n0:Nat} {h:TH} {v:Value} {e:TypeId} {l:List α} (o:OwnF enc n0 h v e l) (hl:l≠[]):∃ b fix,v=.slice (some ⟨b,0,none⟩) l.length l.length∧At h b (.cells (cat enc l) fix true e):=by
 rcases o with (⟨_,rfl⟩ | ⟨_,b,rfl,_,h3⟩) | ⟨b,rfl,_,h3⟩
 ·exact absurd rfl hl
 ·exact ⟨b,_,rfl,h3⟩
 ·exact ⟨b,_,rfl,h3⟩
section
variable {h:TH} {s c x y z:Nat}
end
end Go.Tidy
namespace Go.Tidy
open Go Go.Proofs Tab
variable {tp:TProg}
theorem Byt.drop {l:List Nat} (h:Byt l) (k:Nat):Byt (l.drop k):=fun b hb=>h b (List.mem_of_mem_drop hb)
theorem Byt.take {l:List Nat} (h:Byt l) (k:Nat):Byt (l.take k):=fun b hb=>h b (List.mem_of_mem_take hb)
section
variable {h:TH} {l:List Nat} {b:Nat} {fix wr:Bool} {el:TypeId}
end
section
variable {h:TH} {l:List Nat} {es:List Int}
end
end Go.Tidy
namespace Go.Tidy
open Go Go.Proofs Tab
variable {tp:TProg}
section
variable {P:Program} {h:TH} {α:Type} {enc:α→List Value} {n0 n:Nat} {v v2:Value} {e:TypeId} {l m:List α} {z:List Value} {row:Bool}
end
section
variable {P:Program} {h:TH} {K:Regs→TH→Prop} {rest:List TOper} {d:Option Tmp} {ty:TypeId} {i:Nat} {L:Rg} {f x0 x1 l0:Operand} {ls:List Operand} {fv v0 v1:Value} {ts:Array TypeId}
end
theorem OwnL.relock {α:Type} {enc:α→List Value} {n0:Nat} {h:TH} {v:Value} {e:TypeId} {l:List α} (o:OwnL enc n0 h v e l) (M:List Nat):OwnL enc n0 (h.withLock M) v e l:=o.imp id fun ⟨h0,b,h1,h2,h3⟩=>⟨h0,b,h1,h2,h3.relock M⟩
section
variable {h:TH} {s c x y z:Nat}
end
end Go.Tidy
namespace Go.Tidy
open Go Go.Proofs Tab
variable {tp:TProg}
abbrev Pkt:=Int × Int × Nat × Nat × Nat
section
variable {h:TH} {p:Pkt} {v:Value} {l:List Pkt} {E:List Int}
end
end Go.Tidy
namespace Go.Tidy
open Go Go.Proofs Tab
variable {tp:TProg}
section
variable {h:TH} {v:Value} {l:List Pkt} {src:Int}
def LostA (L:List Int) (n0:Nat) (h:TH) (w:Value) (e:Int):Prop:=(L.length≤256∧e=0∧OwnL encI n0 h w 3 L)∨(256 < L.length∧e=5∧w=.slice none 0 0)
end
end Go.Tidy
namespace Go.Tidy
open Go Go.Proofs Tab
theorem LostA.hx {L:List Int} {n0:Nat} {g g':TH} {w:Value} {e:Int} (a:LostA L n0 g w e) (x:HX g g'):LostA L n0 g' w e :=
 a.imp (fun ⟨h1,h2,h3⟩=>⟨h1,h2,h3.hx x⟩) id
end Go.Tidy
namespace Go.Tidy
open Go Go.Proofs Tab
variable {tp:TProg}
section
variable {P:Program} {h:TH} {α:Type} {enc:α→List Value} {n0 n:Nat} {v:Value} {e:TypeId} {l:List α} {z:List Value} {row:Bool}
end
section
variable {h hb:TH} {l:List Nat} {v:Value} {n k n0:Nat}
end
theorem OwnF.lt {α:Type} {enc:α→List Value} {n0:Nat} {h:TH} {v:Value} {e:TypeId} {l:List α} (o:OwnF enc n0 h v e l) {c:Nat} (hc:bl v=some c):n0≤c∧c < h.next:=by
 rcases o with o | ⟨b,rfl,h2,h3⟩
 ·exact o.lt hc
 ·cases hc;exact ⟨h2,h3.lt⟩
section
variable {s:ByteArray} {n:Int} {v1 v2:Value} {F:List Nat} {S:List (Int × Int)} {es L:List Int} {h:TH}
end
end Go.Tidy
namespace Go.Tidy
open Go Go.Proofs Tab
variable {tp:TProg}
section
variable {P:Program} {h:TH} {K:Regs→TH→Prop} {rest:List TOper} {d:Option Tmp} {ty:TypeId} {i:Nat} {x:Operand} {L:Rg} {q:Addr} {t e:TypeId} {n:Nat} {z:List Value} {row:Bool}
theorem bound_in {q:IntKind} {r dflt upper:Nat} (hr:r≤upper):boundT (some (.int q (r:Nat))) dflt upper=some r:=by
 have d1:decide (0≤(r:Int))=true:=decide_eq_true (Int.natCast_nonneg _)
 have d2:decide ((r:Int)≤(upper:Int))=true:=decide_eq_true (Int.ofNat_le.2 hr)
 simp only [boundT,d1,d2,Bool.and_self,Bool.cond_true,Int.toNat_natCast]
theorem fits_of {b:Nat} {cc:List Value} {fix wr:Bool} {el:TypeId} (hb:At h b (.cells cc fix wr el)) (hf:fix=true∨el=e):elemFits h b e=true:=by
 unfold elemFits
 rw [hb.get]
 rcases hf with rfl | rfl
 ·rfl
 ·simp
theorem sliceT_to {b off m cap hi:Nat} {k:IntKind} {cc:List Value} {fix wr:Bool} {el:TypeId} (hu:P.underlying t=some (.slice e)) (he:Tp P e n z row) (hc:m≤cap) (h2:hi≤m) (hb:At h b (.cells cc fix wr el)) (hf:fix=true∨el=e) :
  sliceT P t (.slice (some ⟨b,off,none⟩) m cap) none (some (.int k (hi:Nat))) none h=some (.slice (some ⟨b,off,none⟩) hi cap):=by
 obtain ⟨inf,q1,q2,q3,_⟩:=he.i
 have hcut:cut3 m cap none (some (.int k (hi:Nat))) none=some (0,hi,cap):=by
  simp only [cut3,show boundT none cap cap=some cap from rfl,show ∀ x,boundT none 0 x=some 0 from fun _=>rfl,Option.bind_some,Option.isNone_some,Option.isSome_none,Bool.and_self,Bool.cond_false,bound_in (show hi≤cap by omega),Option.map_some]
 simp only [sliceT,hu,ble_yes hc,Bool.cond_true,hcut,Option.bind_some,q1,fits_of hb hf,q2,Nat.zero_mul,Nat.add_zero,Nat.sub_zero]
theorem sliceT_from {b off m cap lo:Nat} {k:IntKind} {cc:List Value} {fix wr:Bool} {el:TypeId} (hu:P.underlying t=some (.slice e)) (he:Tp P e n z row) (hc:m≤cap) (h2:lo≤m) (hb:At h b (.cells cc fix wr el)) (hf:fix=true∨el=e) :
  sliceT P t (.slice (some ⟨b,off,none⟩) m cap) (some (.int k (lo:Nat))) none none h=some (.slice (some ⟨b,off+lo*n,none⟩) (m - lo) (cap - lo)):=by
 obtain ⟨inf,q1,q2,q3,_⟩:=he.i
 have hcut:cut3 m cap (some (.int k (lo:Nat))) none none=some (lo,m,cap):=by
  simp only [cut3,show boundT none cap cap=some cap from rfl,show boundT none m cap=some m from rfl,Option.bind_some,Option.isNone_none,Option.isSome_none,Bool.and_false,Bool.cond_false,bound_in h2,Option.map_some]
 simp only [sliceT,hu,ble_yes hc,Bool.cond_true,hcut,Option.bind_some,q1,fits_of hb hf,q2]
end
structure Stm (h:TH) (b o cap:Nat) (l:List Nat):Prop where
 ex:∃ cc fix wr el,At h b (.cells cc fix wr el)∧(cc.drop o).take l.length=cat encY l∧o+l.length≤cc.length∧(fix=true∨el=5)
 cap:l.length≤cap
section
variable {h h':TH} {b o cap:Nat} {l:List Nat}
theorem Stm.hx (s:Stm h b o cap l) (x:HX h h'):Stm h' b o cap l:=⟨by
 obtain ⟨cc,fix,wr,el,a,r⟩:=s.ex
 exact ⟨cc,fix,wr,el,a.hx x,r⟩,s.cap⟩
theorem Stm.oth (s:Stm h b o cap l) {c:Nat} (k:∀ z y,z≠c→At h z y→At h' z y) (hb:b≠c):Stm h' b o cap l:=⟨by
 obtain ⟨cc,fix,wr,el,a,r⟩:=s.ex
 exact ⟨cc,fix,wr,el,k _ _ hb a,r⟩,s.cap⟩
theorem Stm.part (s:Stm h b o cap l) {p k c:Nat} (hpk:p+k≤l.length) (hc:k≤c):SlL encY 1 h (.slice (some ⟨b,o+p,none⟩) k c) ((l.drop p).take k):=by
 obtain ⟨cc,fix,wr,el,a,e1,e2,_⟩:=s.ex
 have hl:((l.drop p).take k).length=k:=by rw [List.length_take,List.length_drop];omega
 refine ⟨_,c,by rw [hl],by rw [hl];exact hc,by rw [eY.cat_len],.inr ⟨b,o+p,cc,fix,wr,el,rfl,a,?_,?_⟩⟩
 ·rw [hl,Nat.mul_one]
  have q:=eY.part l p k
  rw [Nat.mul_one,Nat.mul_one] at q
  rw [← q,← e1,List.drop_take,List.take_take,List.drop_drop,Nat.min_eq_left (by omega)]
 ·rw [hl];omega
end
abbrev Cu:=Nat × Bool
section
variable {h:TH} {b o cap c4 n0:Nat} {l:List Nat} {c:Cu}
end
end Go.Tidy
namespace Go.Tidy
open Go Go.Proofs Tab
variable {tp:TProg}
theorem copy_part {P:Program} {sT e:TypeId} {z:List Value} {row:Bool} {h:TH} {b off d cap b' off' m cap' k n0:Nat} {c c':List Value} {fix fix' wr':Bool} {el el':TypeId} (hu:P.underlying sT=some (.slice e)) (he:Tp P e 1 z row) (hg:At h b (.cells c fix true el)) (hs:At h b' (.cells c' fix' wr' el')) (hk:Nat.min m d=k) (h1:off+d≤c.length) (h2:off'+m≤c'.length) (hall:((c'.drop off').take k).all oneCell=true) (f:Free0 n0 h) (hb:n0≤b) :
  ∃ h',copyT P #[sT,sT] #[.slice (some ⟨b,off,none⟩) d cap,.slice (some ⟨b',off',none⟩) m cap'] h=some (.int .i64 (k:Nat),h')∧Put h h' b (.cells (splice c off ((c'.drop off').take k)) fix true el):=by
 obtain ⟨inf,q1,q2,q3,_⟩:=he.i
 have hkm:k≤m:=by rw [← hk];exact Nat.min_le_left _ _
 have hkd:k≤d:=by rw [← hk];exact Nat.min_le_right _ _
 have e1:Nat.ble k m=true:=ble_yes hkm
 have e2:Nat.ble (off'+k) c'.length=true:=ble_yes (by omega)
 have hf:firstT h 1 k (.slice (some ⟨b',off',none⟩) m cap')=some ((c'.drop off').take k):=by
  simp only [firstT,e1,Bool.cond_true,cellsAt,hs.get,e2,Nat.mul_one]
 by_cases k0:k=0
 ·subst k0
  refine ⟨h,?_,by rw [List.take_zero,splice_nil];exact Put.same hg⟩
  have b0:Nat.beq 0 0=true:=rfl
  simp only [copyT,elemInfo,List.getElem?_toArray,List.getElem?_cons_zero,List.getElem?_cons_succ,hu,Option.bind_some,q1,Option.map_some,lenT,q2,hk,hf,b0,Bool.cond_true]
  rfl
 ·have b0:Nat.beq k 0=false:=beq_no k0
  have hl:((c'.drop off').take k).length=k:=by rw [List.length_take,List.length_drop];omega
  have e4:Nat.ble (off+((c'.drop off').take k).length) c.length=true:=ble_yes (by omega)
  have hp:h.put b (.cells (splice c off ((c'.drop off').take k)) fix true el)=some (h.upd b (.cells (splice c off ((c'.drop off').take k)) fix true el)):=f.put hb hg.lt
  refine ⟨h.upd b (.cells (splice c off ((c'.drop off').take k)) fix true el),?_,Put.mk' hg _⟩
  simp only [copyT,elemInfo,List.getElem?_toArray,List.getElem?_cons_zero,List.getElem?_cons_succ,hu,Option.bind_some,q1,Option.map_some,lenT,q2,hk,hf,b0,Bool.cond_false,putCells,hg.get,e4,hall,Bool.and_self,Bool.cond_true,hp]
section
variable {P:Program} {h:TH} {K:Regs→TH→Prop} {rest:List TOper} {d:Option Tmp} {ty t u:TypeId} {i:Nat} {x y:Operand} {L:Rg}
theorem pv_shr64 {n s:Nat} {yk:IntKind} (hs:s≤64):pv P (binOp .shr t (.int .u64 (n:Nat)) (.int yk (s:Nat)))=some (.int .u64 ((n / 2 ^ s:Nat):Int)):=by
 show pv P (Op.shift .shr .u64 n yk s)=_
 unfold Op.shift
 rw [if_neg (by omega)]
 show some (Value.int .u64 ((n:Int).fdiv (2 ^ (min (s:Int).toNat IntKind.u64.bits))))=_
 have e:min (s:Int).toNat IntKind.u64.bits=s:=by
  have:IntKind.u64.bits=64:=rfl
  rw [this];omega
 rw [e,Int.fdiv_eq_ediv_of_nonneg _ (Int.le_of_lt (Int.pow_pos (by decide)))]
 rfl
theorem pv_and64 {n:Nat} (hn:n < 4294967296):pv P (binOp .and t (.int .u64 (n:Nat)) (.int .u64 4294967295))=some (.int .u64 (n:Nat)):=by
 have e:(BitVec.ofInt 64 (n:Int) &&& BitVec.ofInt 64 4294967295).toNat=n:=by
  have e1:BitVec.ofInt 64 (n:Int)=BitVec.ofNat 64 n:=BitVec.ofInt_natCast ..
  have e2:BitVec.ofInt 64 4294967295=BitVec.ofNat 64 4294967295:=rfl
  rw [e1,e2,BitVec.toNat_and,BitVec.toNat_ofNat,BitVec.toNat_ofNat,Nat.mod_eq_of_lt (by omega),Nat.mod_eq_of_lt (by decide)]
  have:=Nat.and_two_pow_sub_one_eq_mod n 32
  rw [show (2 ^ 32 - 1:Nat)=4294967295 from rfl] at this
  rw [this]
  exact Nat.mod_eq_of_lt hn
 show pv P (pure (Value.int .u64 (IntKind.u64.wrap ((BitVec.ofInt 64 (n:Int) &&& BitVec.ofInt 64 4294967295).toNat:Nat))))=_
 rw [e,IntWalk.u64_in _ (by omega)]
 rfl
theorem WOL.shr64 {n:Nat} (hx:getL L x=some (.int .u64 (n:Nat))) (hn:n < 4294967296) (w:∀ a,Kn (putL L d (.int .u64 0)) a→WO P tp rest a h K):∀ a,Kn L a→WO P tp (⟨d,.binOp .shr t x (.const (.int .u64 32)) u,ty,none,[],i⟩::rest) a h K :=
 WOL.pbin hx rfl rfl rfl rfl ⟨by decide,by decide⟩ (by
  have:=pv_shr64 (P:=P) (t:=t) (n:=n) (s:=32) (yk:=.u64) (by decide)
  rw [Nat.div_eq_of_lt (by omega)] at this
  exact this) rfl w
theorem WOL.and64 {n:Nat} (hx:getL L x=some (.int .u64 (n:Nat))) (hn:n < 4294967296) (w:∀ a,Kn (putL L d (.int .u64 (n:Nat))) a→WO P tp rest a h K):∀ a,Kn L a→WO P tp (⟨d,.binOp .and t x (.const (.int .u64 4294967295)) u,ty,none,[],i⟩::rest) a h K :=
 WOL.pbin hx rfl rfl rfl rfl ⟨by decide,by decide⟩ (pv_and64 hn) rfl w
theorem fwrap_u64 {z:Int} (h1:0≤z) (h2:z≤18446744073709551615):fwrap .u64 z=z:=by rw [fwrap_eq];exact IntWalk.u64_in z ⟨h1,h2⟩
end
theorem k1235 (H:Has tp) {n:Nat} (hn:n < 4294967296) (h:TH):CallW Tryz.prog tp (.func (.func 227) #[] #[]) #[.int .u64 1,.int .u64 (n:Nat)] h fun v h'=>v=.tuple #[.int .u64 0,.int .u64 (n:Nat)]∧h'=h:=by
 have one:∀ k:Nat,k=n→some (Value.int .u64 (fwrap .u64 (1*(k:Int))))=some (Value.int .u64 (n:Nat)):=fun k e=>by rw [e,Int.one_mul,fwrap_u64 (by omega) (by omega)]
 refine CallW.fnL (H.fn 227 f1235 rfl rfl) ?_
 refine WL.sr<|WOL.as rfl<|WOL.as rfl<|WOL.nil<|keep [(0,_),(1,_)] ⟨rfl,rfl,trivial⟩ ?_
 refine WL.sr<|WOL.mv rfl<|WOL.and64 (n:=1) rfl (by decide)<|WOL.as rfl<|WOL.nil<|keep [(0,_),(1,_),(6,_)] ⟨rfl,rfl,rfl,trivial⟩ ?_
 refine WL.sr<|WOL.mv rfl<|WOL.shr64 (n:=1) rfl (by decide)<|WOL.as rfl<|WOL.nil<|keep [(0,_),(1,_),(6,_),(7,_)] ⟨rfl,rfl,rfl,rfl,trivial⟩ ?_
 refine WL.sr<|WOL.mv rfl<|WOL.and64 rfl hn<|WOL.as rfl<|WOL.nil<|keep [(0,_),(1,_),(6,_),(7,_),(8,_)] ⟨rfl,rfl,rfl,rfl,rfl,trivial⟩ ?_
 refine WL.sr<|WOL.mv rfl<|WOL.shr64 rfl hn<|WOL.as rfl<|WOL.nil<|keep [(0,_),(1,_),(6,_),(7,_),(8,_),(9,_)] ⟨rfl,rfl,rfl,rfl,rfl,rfl,trivial⟩ ?_
 refine WL.sr<|WOL.mv rfl<|WOL.mv rfl<|WOL.bi (v:=.int .u64 (n:Nat)) rfl rfl (one n rfl)<|WOL.as rfl<|WOL.nil<|keep [(0,_),(1,_),(6,_),(7,_),(8,_),(9,_),(10,_)] ⟨rfl,rfl,rfl,rfl,rfl,rfl,rfl,trivial⟩ ?_
 refine WL.sr<|WOL.mv rfl<|WOL.mv rfl<|WOL.bi (v:=.int .u64 0) rfl rfl (by show some (Value.int .u64 (fwrap .u64 (0*(n:Int))))=_;rw [Int.zero_mul];rfl)<|WOL.mv rfl<|WOL.shr64 rfl hn<|WOL.bi (v:=.int .u64 0) rfl rfl rfl<|WOL.as rfl<|WOL.nil<|keep [(0,_),(1,_),(6,_),(7,_),(8,_),(9,_),(11,_)] ⟨rfl,rfl,rfl,rfl,rfl,rfl,rfl,trivial⟩ ?_
 refine WL.sr<|WOL.mv rfl<|WOL.and64 (n:=0) rfl (by decide)<|WOL.as rfl<|WOL.nil<|keep [(0,_),(1,_),(6,_),(7,_),(8,_),(9,_),(11,_),(12,_)] ⟨rfl,rfl,rfl,rfl,rfl,rfl,rfl,rfl,trivial⟩ ?_
 refine WL.sr<|WOL.mv rfl<|WOL.shr64 (n:=0) rfl (by decide)<|WOL.as rfl<|WOL.nil<|keep [(0,_),(1,_),(6,_),(7,_),(8,_),(9,_),(12,_),(13,_)] ⟨rfl,rfl,rfl,rfl,rfl,rfl,rfl,rfl,trivial⟩ ?_
 refine WL.sr<|WOL.mv rfl<|WOL.mv rfl<|WOL.mv rfl<|WOL.bi (v:=.int .u64 0) rfl rfl rfl<|WOL.bi (v:=.int .u64 0) rfl rfl rfl<|WOL.as rfl<|WOL.nil<|keep [(0,_),(1,_),(7,_),(9,_),(12,_),(13,_)] ⟨rfl,rfl,rfl,rfl,rfl,rfl,trivial⟩ ?_
 refine WL.sr<|WOL.mv rfl<|WOL.mv rfl<|WOL.bi (v:=.int .u64 0) rfl rfl rfl<|WOL.mv rfl<|WOL.bi (v:=.int .u64 0) rfl rfl rfl<|WOL.mv rfl<|WOL.shr64 (n:=0) rfl (by decide)<|WOL.bi (v:=.int .u64 0) rfl rfl rfl<|WOL.as rfl<|WOL.nil<|keep [(0,_),(1,_),(4,_)] ⟨rfl,rfl,rfl,trivial⟩ ?_
 refine WL.sr<|WOL.mv rfl<|WOL.mv rfl<|WOL.bi (v:=.int .u64 (n:Nat)) rfl rfl (one n rfl)<|WOL.as rfl<|WOL.nil ?_
 exact WL.ret (WL.end_ rfl ⟨rfl,rfl⟩)
theorem k1233 (H:Has tp) {n:Nat} (hn:n < 4294967296) (h:TH):CallW Tryz.prog tp (.func (.func 214) #[] #[]) #[.int .u64 1,.int .u64 (n:Nat)] h fun v h'=>v=.tuple #[.int .u64 0,.int .u64 (n:Nat)]∧h'=h:=by
 refine CallW.fnL (H.fn 214 f1233 rfl rfl) ?_
 refine WL.sr<|WOL.as rfl<|WOL.as rfl<|WOL.nil<|keep [(0,_),(1,_)] ⟨rfl,rfl,trivial⟩ ?_
 refine WL.seq<|WL.no rfl<|WL.skip ?_
 refine WL.sr<|WOL.mv rfl<|WOL.mv rfl<|WOL.cl2 rfl rfl rfl ((k1235 H hn _).mono ?_)
 rintro v h2 ⟨rfl,rfl⟩
 refine WOL.mv rfl<|WOL.ex rfl rfl<|WOL.ex rfl rfl<|WOL.as rfl<|WOL.as rfl<|WOL.nil<|keep [(8,_),(9,_)] ⟨rfl,rfl,trivial⟩ ?_
 refine WL.sr<|WOL.mv rfl<|WOL.mv rfl<|WOL.as rfl<|WOL.as rfl<|WOL.nil ?_
 exact WL.ret (WL.end_ rfl ⟨rfl,rfl⟩)
def tf (c n:Nat):List Value:=List.replicate c (.bool true) ++ List.replicate (n - c) (.bool false)
theorem tf_len {c n:Nat} (h:c≤n):(tf c n).length=n:=by unfold tf;rw [List.length_append,List.length_replicate,List.length_replicate];omega
theorem tf_take {c k n:Nat} (h:k≤c):((tf c n).drop 0).take k=List.replicate k (.bool true):=by
 unfold tf
 rw [List.drop_zero,List.take_append_of_le_length (by rw [List.length_replicate];exact h),List.take_replicate,Nat.min_eq_left h]
theorem rep_add {α:Type} (x:α) (b:Nat):∀ a:Nat,List.replicate (a+b) x=List.replicate a x ++ List.replicate b x
 | 0=>by rw [Nat.zero_add];rfl
 | a+1=>by rw [show a+1+b=(a+b)+1 by omega,List.replicate_succ,List.replicate_succ,rep_add x b a];rfl
theorem tf_splice {c k n:Nat} (h:c+k≤n):splice (tf c n) c (List.replicate k (.bool true))=tf (c+k) n:=by
 unfold splice tf
 have e:List.replicate (n - c) (Value.bool false)=List.replicate k (.bool false) ++ List.replicate (n - (c+k)) (.bool false):=by rw [← rep_add];congr 1;omega
 have d:(List.replicate c (Value.bool true) ++ (List.replicate k (Value.bool false) ++ List.replicate (n - (c+k)) (Value.bool false))).drop (c+k)=List.replicate (n - (c+k)) (.bool false):=by
  rw [← List.append_assoc]
  exact List.drop_left' (by rw [List.length_append,List.length_replicate,List.length_replicate])
 rw [List.length_replicate,e,List.take_left' List.length_replicate,d,rep_add,List.append_assoc]
theorem all_true (k:Nat):(List.replicate k (Value.bool true)).all oneCell=true:=by
 rw [List.all_eq_true]
 intro x hx
 rw [List.eq_of_mem_replicate hx]
 rfl
section
variable {h:TH} {b1 n:Nat} {fix wr:Bool} {el:TypeId}
set_option maxHeartbeats 2000000 in
set_option maxRecDepth 10000 in
theorem k1232 (H:Has tp) (A1:At h b1 (.cells [.bool true] fix wr el)) (hn:n≤1000000) (f:Free0 h.next h):CallW Tryz.prog tp (.func (.func 192) #[] #[]) #[.slice (some ⟨b1,0,none⟩) 1 1,zi (n:Nat)] h fun v h'=>∃ b,v=slA b n∧At h' b (.cells (tf n n) true true 4)∧HX h h'∧h.next≤b:=by
 have l1:=A1.lt
 refine CallW.fnL (H.fn 192 f1232 rfl rfl) ?_
 refine WL.sr<|WOL.as rfl<|WOL.nil<|keep [(0,_),(1,_)] ⟨rfl,rfl,trivial⟩ ?_
 refine WL.seq<|WL.sr<|WOL.mv rfl<|WOL.bf rfl rfl rfl (by first | exact decide_eq_false (by omega) | exact beq_eq_false_iff_ne.2 (by omega) | exact bne_eq_false_iff_eq.2 (by omega))<|WOL.nil<|keep [(0,_),(1,_),(10,_)] ⟨rfl,rfl,rfl,trivial⟩ ?_
 refine WL.no rfl<|WL.skip ?_
 refine WL.sr<|WOL.mv rfl<|WOL.len rfl (SlC.own (sz:=1) (m:=1) rfl A1) u145<|WOL.cvw u3 u228 rfl ?_
 rw [show IntKind.u64.wrap ((1:Nat):Int)=1 from IntWalk.u64_in _ (by decide)]
 refine WOL.mv rfl<|WOL.cvw u3 u228 rfl ?_
 rw [show IntKind.u64.wrap ((n:Nat):Int)=((n:Nat):Int) from IntWalk.u64_in _ (by omega)]
 refine WOL.cl2 rfl rfl rfl ((k1233 H (n:=n) (by omega) _).mono ?_)
 rintro v h ⟨rfl,rfl⟩
 refine WOL.mv rfl<|WOL.ex rfl rfl<|WOL.ex rfl rfl<|WOL.as rfl<|WOL.as rfl<|WOL.nil<|keep [(0,_),(5,_),(6,_)] ⟨rfl,rfl,rfl,trivial⟩ ?_
 refine WL.seq<|WL.sr<|WOL.mv rfl<|WOL.bf rfl rfl rfl rfl<|WOL.mv rfl<|WOL.now (b:=false) rfl rfl<|WOL.mv rfl<|WOL.now (b:=false) rfl rfl<|WOL.bf rfl rfl rfl (by first | exact decide_eq_false (by omega) | exact beq_eq_false_iff_ne.2 (by omega) | exact bne_eq_false_iff_eq.2 (by omega))<|WOL.pkf rfl rfl<|WOL.nil<|keep [(0,_),(6,_),(26,_)] ⟨rfl,rfl,rfl,trivial⟩ ?_
 refine WL.no rfl<|WL.skip ?_
 refine WL.sr<|WOL.mv rfl<|WOL.cvw u228 u3 rfl ?_
 rw [show IntKind.i64.wrap ((n:Nat):Int)=((n:Nat):Int) from IntWalk.i64_in _ (by omega)]
 refine WOL.ms (m:=n) rfl rfl u145 tp4 (by decide) (by omega) fun h3 N3=>WOL.as rfl<|WOL.nil<|keep [(0,_),(7,_)] ⟨rfl,rfl,trivial⟩ ?_
 have n3:=N3.next
 have A3:=N3.at_
 rw [rep_flat,show List.replicate n (Value.bool false)=tf 0 n by unfold tf;rw [Nat.sub_zero];rfl] at A3
 refine WL.sr<|WOL.mv rfl<|WOL.mv rfl ?_
 obtain ⟨h4,cp,P4⟩:=copy_part (off:=0) (off':=0) (k:=Nat.min 1 n) (d:=n) (cap:=n) (cap':=1) (m:=1) u145 tp4 A3 (A1.hx N3.hx) rfl (by rw [tf_len (Nat.zero_le _)];omega) (by decide) (by
  cases n with
  | zero=>rfl
  | succ n=>rw [show Nat.min 1 (n+1)=1 from Nat.min_eq_left (by omega)];rfl) (f.hx N3.hx) (Nat.le_refl _)
 refine WOL.cp rfl rfl cp<|WOL.as rfl<|WOL.nil<|keep [(7,_),(8,_)] ⟨rfl,rfl,trivial⟩ ?_
 have A4:=P4.at_
 rw [show ([Value.bool true].drop 0).take (Nat.min 1 n)=List.replicate (Nat.min 1 n) (.bool true) by
  cases n with
  | zero=>rfl
  | succ n=>rw [show Nat.min 1 (n+1)=1 from Nat.min_eq_left (by omega)];rfl,tf_splice (by have:Nat.min 1 n≤n:=Nat.min_le_right 1 n;omega),Nat.zero_add] at A4
 have X4:HX h h4:=P4.hx _ N3.hx (Nat.le_refl _)
 have n4:=P4.next
 refine WL.seq<|WL.block ?_
 refine WL.loop (fun q a g=>∃ c:Nat,c≤n∧(n=0∨1≤c)∧q=n - c∧HX h g∧At g h.next (.cells (tf c n) true true 4)∧Kn [(7,slA h.next n),(8,zi (c:Nat))] a) (n - Nat.min 1 n) (fun a q=>⟨Nat.min 1 n,Nat.min_le_right _ _,by rcases Nat.eq_zero_or_pos n with e | e;exact .inl e;exact .inr (by rw [show Nat.min 1 n=1 from Nat.min_eq_left e];exact Nat.le_refl _),rfl,X4,A4,q.sub ⟨rfl,rfl,trivial⟩⟩) ?_
 rintro q a g ⟨c,hc,hc1,rfl,X,A,q⟩
 refine q.go ?_
 have s:SlC g (slA h.next n) 1 n (tf c n):=SlC.own (by rw [tf_len hc];omega) A
 refine WL.seq<|WL.seq<|WL.reg<|WOL.mv rfl<|WOL.mv rfl<|WOL.len rfl s u145<|WOL.bi (v:=.bool (decide (((c:Nat):Int) < ((n:Nat):Int)))) rfl rfl rfl<|WOL.nil<|keep [(7,_),(8,_),(37,_)] ⟨rfl,rfl,rfl,trivial⟩ ?_
 by_cases hlt:c < n
 ·rw [decide_eq_true (show ((c:Nat):Int) < ((n:Nat):Int) by omega)]
  refine WL.yes rfl<|WL.skip ?_
  refine WL.block<|WL.reg<|WOL.mv rfl<|WOL.mv rfl<|WOL.mv rfl<|WOL.slG rfl rfl rfl rfl (sliceT_from u145 tp4 (Nat.le_refl n) hc A (.inl rfl))<|WOL.mv rfl<|WOL.mv rfl<|WOL.slG rfl rfl rfl rfl (sliceT_to u145 tp4 (Nat.le_refl n) hc A (.inl rfl)) ?_
  obtain ⟨h5,cp5,P5⟩:=copy_part (b:=h.next) (off:=c) (d:=n - c) (cap:=n - c) (b':=h.next) (off':=0) (m:=c) (cap':=n) (k:=Nat.min c (n - c)) u145 tp4 A A rfl (by rw [tf_len hc];omega) (by rw [tf_len hc];omega) (by rw [tf_take (Nat.min_le_left _ _)];exact all_true _) (f.hx X) (Nat.le_refl _)
  have A5:=P5.at_
  have km:Nat.min c (n - c)≤n - c:=Nat.min_le_right c (n - c)
  have kl:Nat.min c (n - c)≤c:=Nat.min_le_left c (n - c)
  have kp:1≤Nat.min c (n - c):=Nat.le_min.2 ⟨by omega,by omega⟩
  rw [tf_take kl,tf_splice (by omega)] at A5
  refine WOL.cp rfl rfl (by rw [Nat.zero_add,Nat.mul_one];exact cp5)<|WOL.add (m:=((c:Nat):Int)) (n:=((Nat.min c (n - c):Nat):Int)) rfl rfl (by omega) (by omega) ?_
  rw [show ((c:Nat):Int)+((Nat.min c (n - c):Nat):Int)=((c+Nat.min c (n - c):Nat):Int) by omega]
  exact WOL.as rfl<|WOL.nil fun a q=>⟨n - (c+Nat.min c (n - c)),by omega,c+Nat.min c (n - c),by omega,.inr (by omega),rfl,P5.hx _ X (Nat.le_refl _),A5,q.sub ⟨rfl,rfl,trivial⟩⟩
 ·rw [decide_eq_false (show ¬ ((c:Nat):Int) < ((n:Nat):Int) by omega)]
  obtain rfl:c=n:=by omega
  have fin:∀ a,Kn [(7,slA h.next c)] a→W Tryz.prog tp false (.seq (.reg r1232_10) .ret) a g (Fin Tryz.prog [.tmp 4] fun v h'=>∃ b,v=slA b c∧At h' b (.cells (tf c c) true true 4)∧HX h h'∧h.next≤b):=by
   refine WL.sr<|WOL.mv rfl<|WOL.as rfl<|WOL.nil ?_
   exact WL.ret (WL.end_ rfl ⟨h.next,rfl,A,X,Nat.le_refl _⟩)
  exact WL.no rfl<|WL.exit<|kto fin ⟨rfl,trivial⟩
end
end Go.Tidy
namespace Go.Tidy
open Go Go.Proofs Tab
variable {tp:TProg}
theorem knownB_snoc {T:List (Int × Int)} {p:Int × Int} {x:Int}:knownB (T ++ [p]) x=(knownB T x && !inS x p):=by
 unfold knownB
 rw [List.any_append]
 simp
theorem known_nil (m:Nat):knownL [] m=List.replicate m true:=by
 refine List.eq_replicate_iff.2 ⟨knownL_len _ _,fun b hb=>?_⟩
 unfold knownL at hb
 obtain ⟨i,_,rfl⟩:=List.mem_map.1 hb
 rfl
theorem known_clear {T:List (Int × Int)} {lo hi m:Nat} (h1:lo≤hi) (h2:hi≤m):(knownL T m).take lo ++ (List.replicate (hi - lo) false ++ (knownL T m).drop hi)=knownL (T ++ [((lo:Int),(hi:Int))]) m:=by
  refine List.ext_getElem? fun i=>?_
  have ll:=knownL_len T m
  rw [List.getElem?_append,List.length_take,ll,Nat.min_eq_left (by omega),List.getElem?_append,List.length_replicate,List.getElem?_drop]
  by_cases him:i < m
  · rw [knownL_get him,knownB_snoc]
    unfold inS
    by_cases c1:i < lo
    · rw [if_pos c1,List.getElem?_take_of_lt c1,knownL_get him,decide_eq_false (show ¬ ((i:Nat):Int) ≥ (lo:Int) by omega)]
      simp
    · rw [if_neg c1]
      by_cases c2:i < hi
      · rw [if_pos (by omega),List.getElem?_replicate,if_pos (by omega),decide_eq_true (show ((i:Nat):Int) ≥ (lo:Int) by omega),decide_eq_true (show ((i:Nat):Int) < (hi:Int) by omega)]
        simp
      · rw [if_neg (by omega),show hi+(i - lo - (hi - lo))=i by omega,knownL_get him,decide_eq_false (show ¬ ((i:Nat):Int) < (hi:Int) by omega)]
        simp
  · rw [if_neg (by omega),if_neg (by omega),List.getElem?_eq_none (by omega),List.getElem?_eq_none (by rw [knownL_len];omega)]
theorem WOL.clrK {P:Program} {tp:TProg} {h h1:TH} {K:Regs→TH→Prop} {rest:List TOper} {d:Option Tmp} {ty:TypeId} {i:Nat} {x:Operand} {L:Rg} {ts:Array TypeId} {vx v:Value} (hx:getL L x=some vx) (hv:clearT P ts #[vx] h=some (v,h1)) (w:∀ a,Kn (putL L d v) a→WO P tp rest a h1 K):∀ a,Kn L a→WO P tp (⟨d,.call ⟨.builtin .clear,#[x],ts⟩,ty,none,[],i⟩::rest) a h K:=fun a k=>WO.clr (k.o hx) hv (w _ (k.put d _))
section
variable {h:TH} {v2:Value} {S:List (Int × Int)} {m:Nat}
set_option maxHeartbeats 2000000 in
set_option maxRecDepth 10000 in
theorem k1223 (H:Has tp) (s:SlL encS 2 h v2 S) (hm:m≤1000000) (hS:S.length≤1000000) (hin:In m S) (f:Free0 h.next h):CallW Tryz.prog tp (.func (.func 147) #[] #[]) #[zi (m:Nat),v2] h fun v h'=>∃ b,v=slA b m∧At h' b (.cells (cat encB (knownL S m)) true true 4)∧HX h h'∧h.next≤b:=by
 refine CallW.fnL (H.fn 147 f1223 rfl rfl) ?_
 refine WL.sr<|WOL.as rfl<|WOL.nil<|keep [(0,_),(1,_)] ⟨rfl,rfl,trivial⟩ ?_
 refine WL.sr<|WOL.bs1 rfl u145 tp4 rfl fun h1 N1=>WOL.mv rfl ?_
 have n1:=N1.next
 refine WOL.cl2 rfl rfl rfl ((k1232 H N1.at_ hm (f.on N1.hx)).mono ?_)
 rintro v h2 ⟨b,rfl,A2,X2,hb⟩
 have e0:tf m m=cat encB (knownL (S.take 0) m):=by
  rw [List.take_zero,known_nil,cat_rep (enc:=encB) (x:=true) (z:=.bool true) rfl]
  unfold tf
  rw [Nat.sub_self]
  exact List.append_nil _
 rw [e0] at A2
 have Y2:=N1.hx.trans X2
 refine WOL.as rfl<|WOL.nil<|keep [(1,_),(5,_)] ⟨rfl,rfl,trivial⟩ ?_
 refine WL.seq<|WL.sr<|WOL.mv rfl<|WOL.len rfl (s.hx Y2) u44<|WOL.mv rfl<|WOL.nil<|keep [(5,_),(11,_),(12,_),(13,_)] ⟨rfl,rfl,rfl,rfl,trivial⟩ ?_
 refine WL.upto (α:=Unit) S.length (fun j _ g=>HX h g∧At g b (.cells (cat encB (knownL (S.take j) m)) true true 4)) (fun _ _=>[(5,slA b m),(11,v2),(12,zi (S.length:Nat))]) () rfl rfl (by omega) ⟨Y2,A2⟩ ⟨rfl,rfl,rfl,rfl,trivial⟩ (fun _ _=>rfl) (fun _ _ _=>⟨rfl,rfl,rfl,rfl,trivial⟩) (fun _ _ _=>⟨rfl,rfl,rfl,rfl,trivial⟩) ?_ ?_
 ·rintro j _ g hj ⟨X,A⟩
  have hp:S[j]?=some S[j]:=List.getElem?_eq_getElem hj
  obtain ⟨q1,q2,q3⟩:=hin S[j] (List.getElem_mem hj)
  have ht:S.take (j+1)=S.take j ++ [S[j]]:=List.take_succ_eq_append_getElem hj
  generalize S[j]=p at *
  obtain ⟨p1,p2⟩:=p
  replace q1:0≤p1:=q1
  replace q2:p1≤p2:=q2
  replace q3:p2≤(m:Int):=q3
  obtain ⟨lo,rfl⟩:∃ lo:Nat,p1=(lo:Int):=⟨p1.toNat,by omega⟩
  obtain ⟨hi,rfl⟩:∃ hi:Nat,p2=(hi:Int):=⟨p2.toNat,by omega⟩
  have la:=A.lt
  have xg:=X.next
  obtain ⟨b3,o,cc,fix,wr,el,g1,g2,g3,g4,g5⟩:=(s.hx X).at eS u44 tp48 hp .i64
  refine WL.sr<|WOL.ix rfl rfl g1<|WOL.ld rfl (load_row tp48 g2 g4 g3)<|WOL.al tp48 fun i1 M1=>?_
  refine WOL.sto (vs:=encS ((lo:Int),(hi:Int))) rfl rfl tp48 M1.at_ rfl rfl (Nat.le_of_ble_eq_true rfl) rfl (f.hx (X.trans M1.hx)) X.next fun i2 M2=>?_
  have A7:At i2 g.next (.cells [zi (lo:Nat),zi (hi:Nat)] true true 27):=M2.at_
  have XI:HX g i2:=M2.hx _ M1.hx (Nat.le_refl _)
  replace A:=A.hx XI
  refine WOL.nil<|keep [(5,_),(7,_),(11,_),(12,_),(13,_)] ⟨rfl,rfl,rfl,rfl,rfl,trivial⟩ ?_
  refine WL.reg<|WOL.mv rfl<|WOL.fa rfl (fa_of fo48_0)<|WOL.ld rfl (load_one tp3 A7 rfl)<|WOL.fa rfl (fa_of fo48_1)<|WOL.ld rfl (load_one tp3 A7 rfl)<|WOL.sl rfl rfl rfl (sliceT_at u145 tp4 (Nat.le_refl m) (by omega) (by omega) A (.inl rfl)) ?_
  obtain ⟨h5,cl,x5,o5,n5,A5⟩:=clear_part (z0:=false) (off:=lo) (k:=hi - lo) (cap:=m - lo) eB (by decide) u145 tp4 A (by rw [knownL_len];omega) (f.hx (X.trans XI)) (by omega)
  refine WOL.clrK rfl (by rw [Nat.zero_add];exact cl)<|WOL.nil fun a q=>⟨(),⟨x5 _ (X.trans XI) (by omega),?_⟩,q.sub ⟨rfl,rfl,rfl,rfl,trivial⟩⟩
  rw [show lo+(hi - lo)=hi by omega,known_clear (by omega) (by omega),← ht] at A5
  exact A5
 ·rintro _ g ⟨X,A⟩
  rw [List.take_length] at A
  refine WL.sr<|WOL.mv rfl<|WOL.as rfl<|WOL.nil ?_
  exact WL.ret (WL.end_ rfl ⟨b,rfl,A,X,by omega⟩)
end
end Go.Tidy
namespace Go.Tidy
open Go Go.Proofs Tab
variable {tp:TProg}
def valC (C:List (Int × Bool)):List Int:=C.map fun c=>cond c.2 c.1 0
def bigC (C:List (Int × Bool)):Bool:=C.any fun c=>c.2 && largeB c.1
section
variable {h g:TH} {n:Int} {v:Value} {C:List (Int × Bool)} {j:Nat}
end
end Go.Tidy
namespace Go.Tidy
open Go Go.Proofs Tab
variable {tp:TProg}
theorem OwnL.low {α:Type} {enc:α→List Value} {n0 n1:Nat} {h:TH} {v:Value} {e:TypeId} {l:List α} (o:OwnL enc n1 h v e l) (h0:n0≤n1):OwnL enc n0 h v e l:=by
 rcases o with q | ⟨q1,b,q2,q3,q4⟩
 ·exact .inl q
 ·exact .inr ⟨q1,b,q2,by omega,q4⟩
section
variable {h:TH} {n n':Int} {v1 v2 w1 w2:Value} {L1 L2:List Int} {S1 S2:List (Int × Int)}
end
end Go.Tidy
namespace Go.Tidy
open Go Go.Proofs Tab
variable {tp:TProg}
section
variable {α:Type} {z:α} {C:List α} {m j:Nat}
end
def ProgR (n:Int) (e:Int) (C:List (Int × Bool)) (n0:Nat) (h':TH) (v:Value):Prop :=
 (e≠0∧v=.tuple #[trcV 0 (.slice none 0 0) (.slice none 0 0),zi e])∨(e=0∧bigC C=true∧v=.tuple #[trcV 0 (.slice none 0 0) (.slice none 0 0),zi 4])∨(e=0∧bigC C=false∧∃ bv w,v=.tuple #[trcV n (slA bv C.length) w,zi 0]∧n0≤bv∧TrcO n0 h' bv w (valC C) (holesOf (C.map fun c=>c.2)))
section
variable {h:TH} {n n':Int} {v1 v2 w1 w2:Value} {L1 L2:List Int} {S1 S2:List (Int × Int)}
end
end Go.Tidy
namespace Go.Tidy
open Go Go.Proofs Tab
variable {tp:TProg}
def RevR (n p e:Int) (L:List Int) (S:List (Int × Int)) (n0:Nat) (h':TH) (v:Value):Prop :=
 (e≠0∧v=.tuple #[trcV 0 (.slice none 0 0) (.slice none 0 0),zi e])∨(e=0∧(2*p+1 - (n+L.length) < 0∨2*p+1 - (n+L.length)+L.length > 100000000)∧v=.tuple #[trcV 0 (.slice none 0 0) (.slice none 0 0),zi 14])∨(e=0∧0≤2*p+1 - (n+L.length)∧2*p+1 - (n+L.length)+L.length≤100000000∧∃ bv w,v=.tuple #[trcV (2*p+1 - (n+L.length)) (slA bv L.length) w,zi 0]∧n0≤bv∧TrcO n0 h' bv w L.reverse (holesOf (knownL S L.length).reverse))
section
variable {h:TH} {n p:Int} {v1 v2:Value} {L:List Int} {S:List (Int × Int)}
end
end Go.Tidy
namespace Go.Tidy
open Go Go.Proofs Tab
variable {tp:TProg}
section
variable {h:TH} {l:List Nat} {bo:Option Addr} {n k:Nat}
end
section
variable {h:TH} {K:Regs→TH→Prop} {rest:List TOper} {d:Option Tmp} {ty:TypeId} {i:Nat} {x:Operand} {L:Rg} {v:Value} {m:List Nat}
end
section
variable {hb h g g2 g':TH} {n b o cap c4 c2 c3 nB:Nat} {cur cur':Cu} {s s':ByteArray} {fi fi':Int} {w1 w2 w':Value} {F F':List Nat} {S S':List (Int × Int)}
theorem Put.relock {M:List Nat} {x:TB} {c:Nat} {h1:TH} (p:Put (h.withLock M) h1 c x):Put h (h1.withLock h.lock) c x :=
 ⟨p.at_.relock _,fun z y hz a=>(p.oth z y hz (a.relock M)).relock _,p.next,p.floor,rfl,fun h0 y hb=>by rw [y.lock];exact (p.hx _ (y.locked M) hb).relock⟩
end
end Go.Tidy
namespace Go.Tidy
open Go Go.Proofs Tab
variable {tp:TProg}
section
variable (l:List Nat) (c:Cu)
end
section
variable {h g:TH} {l:List Nat} {b o cap:Nat}
theorem Stm.relock (s:Stm h b o cap l) (M:List Nat):Stm (h.withLock M) b o cap l:=⟨by
 obtain ⟨cc,fix,wr,el,a,r⟩:=s.ex
 exact ⟨cc,fix,wr,el,a.relock M,r⟩,s.cap⟩
end
section
variable {hb h:TH} {l:List Nat} {b o cap c4:Nat} {c:Cu}
end
end Go.Tidy
namespace Go.Tidy
open Go Go.Proofs Tab
variable {tp:TProg}
section
variable {P:Program} {h:TH} {K:Regs→TH→Prop} {rest:List TOper} {d:Option Tmp} {ty:TypeId} {i:Nat} {x y:Operand} {t u:TypeId} {L:Rg} {s s':ByteArray}
end
section
variable (l:List Nat)
end
theorem RunH.relock {h:TH} {v1 v2:Value} {F:List Nat} {S:List (Int × Int)} (r:RunH h v1 v2 F S) (M:List Nat):RunH (h.withLock M) v1 v2 F S:=⟨r.f.relock M,r.s.relock M,r.g.relock M⟩
section
variable {h:TH} {l:List Nat} {b o n cap:Nat} {es L:List Int}
end
end Go.Tidy
namespace Go.Tidy
open Go Go.Proofs Tab
variable {tp:TProg}
section
variable {P:Program} {h:TH} {K:Regs→TH→Prop} {rest:List TOper} {d:Option Tmp} {ty:TypeId} {i:Nat} {x y:Operand} {t u:TypeId} {L:Rg}
theorem WOL.addN {m k:Nat} (hx:getL L x=some (zi (m:Nat))) (hy:getL L y=some (zi (k:Nat))) (hb:m+k≤1000000000) (w:∀ a,Kn (putL L d (zi ((m+k:Nat):Int))) a→WO P tp rest a h K):∀ a,Kn L a→WO P tp (⟨d,.binOp .add t x y u,ty,none,[],i⟩::rest) a h K :=
 WOL.bi hx hy (by show some (Value.int .i64 (fwrap .i64 ((m:Int)+(k:Int))))=_;rw [fwrap_i64 (by omega) (by omega)];rfl) w
theorem WOL.mulN {m k:Nat} (hx:getL L x=some (zi (m:Nat))) (hy:getL L y=some (zi (k:Nat))) (hb:m*k≤1000000000) (w:∀ a,Kn (putL L d (zi ((m*k:Nat):Int))) a→WO P tp rest a h K):∀ a,Kn L a→WO P tp (⟨d,.binOp .mul t x y u,ty,none,[],i⟩::rest) a h K :=
 WOL.bi hx hy (by
  have e:((m*k:Nat):Int)=(m:Int)*(k:Int):=rfl
  show some (Value.int .i64 (fwrap .i64 ((m:Int)*(k:Int))))=_
  rw [← e,fwrap_i64 (by omega) (by omega)]) w
end
structure RrU (h g:TH) (c2 c7 nB:Nat) (s:ByteArray) (fi:Int) (w1 w2:Value) (F:List Nat) (S:List (Int × Int)):Prop where
 x:HX h g
 nx:nB≤g.next
 a2:At g c2 (.cells [.string ⟨#[]⟩,zi 0,.slice none 0 0,.slice none 0 0] true true 25)
 a7:At g c7 (.cells [.string s,zi fi,w1,w2] true true 25)
 o1:OwnL encF nB g w1 71 F
 o2:OwnL encS nB g w2 27 S
 ne:∀ x,bl w1=some x→bl w2≠some x
section
variable {h g g2 g':TH} {c2 c7 nB:Nat} {s:ByteArray} {fi:Int} {w1 w2 w':Value} {F F':List Nat} {S S':List (Int × Int)}
theorem RrU.hx (q:RrU h g c2 c7 nB s fi w1 w2 F S) (x:HX g g'):RrU h g' c2 c7 nB s fi w1 w2 F S:=⟨q.x.trans x,Nat.le_trans q.nx x.next,q.a2.hx x,q.a7.hx x,q.o1.hx x,q.o2.hx x,q.ne⟩
end
end Go.Tidy
namespace Go.Tidy
open Go Go.Proofs Tab
variable {tp:TProg}
theorem k11t (A:Awk tp) (h:TH):CallW Tryz.prog tp (.func (.func 9) #[] #[]) #[] h fun v h'=>v=.bool true∧h'=h:=by
 obtain ⟨e,e1,e2⟩:=A.e
 exact CallW.ext A.no e1 rfl e2 rfl ⟨rfl,rfl⟩
theorem IsInts.keep {g g':TH} {y:Value} {L:List Int} (i:IsInts g y L) (k:∀ b x,bl y=some b→At g b x→At g' b x):IsInts g' y L:=by
 rcases i with i | ⟨b,c,fix,wr,el,i1,i2,i3⟩
 ·exact .inl i
 ·subst i1
  have:=k b _ rfl ⟨i3,i2⟩
  exact .inr ⟨b,c,fix,wr,el,rfl,this.lt,this.get⟩
def CelA (ty:TypeId) (n:Int) (o:Int × List Int × List (Int × Int)) (g:TH) (c:Nat):Prop:=∃ z b1 m1 k1 b2 m2 k2,At g c (.cells [zi z,.slice b1 m1 k1,.slice b2 m2 k2] true true ty)∧IsInts g (.slice b1 m1 k1) o.2.1∧SlL encS 2 g (.slice b2 m2 k2) o.2.2∧((o.1≠0∧z=0∧o.2.1=[]∧o.2.2=[])∨(o.1=0∧z=n))
theorem CelA.hx {ty:TypeId} {n:Int} {o:Int × List Int × List (Int × Int)} {g g':TH} {c:Nat} (q:CelA ty n o g c) (x:HX g g'):CelA ty n o g' c:=by
 obtain ⟨z,b1,m1,k1,b2,m2,k2,A,i,s,e⟩:=q
 exact ⟨z,b1,m1,k1,b2,m2,k2,A.hx x,i.hx x,s.hx x,e⟩
section
variable {h h0:TH} {a b n1 n2 m1 m2 e1:Int} {v1 v2 w1 w2:Value} {L1:List Int} {S1:List (Int × Int)} {o1 o2:Int × List Int × List (Int × Int)} {c3 c4 c7 c9 c14 c15:Nat}
end
end Go.Tidy
namespace Go.Tidy
open Go Go.Proofs Tab
variable {tp:TProg}
theorem CelA.keep {ty:TypeId} {n:Int} {o:Int × List Int × List (Int × Int)} {g g':TH} {c:Nat} (q:CelA ty n o g c) (k:∀ b x,At g b x→At g' b x):CelA ty n o g' c:=by
 obtain ⟨z,b1,m1,k1,b2,m2,k2,A,i,s,e⟩:=q
 exact ⟨z,b1,m1,k1,b2,m2,k2,k _ _ A,i.keep fun b x _ a=>k _ _ a,slC_keep s fun b x _ a=>k _ _ a,e⟩
section
variable {h h0:TH} {a b n m1 m2 E1:Int} {v1 v2 w9 w16:Value} {L:List Int} {S:List (Int × Int)} {l3:List Int} {o1 o2:Int × List Int × List (Int × Int)} {c2 c3 c5 c7 c14 c15 p q:Nat}
end
end Go.Tidy
namespace Go.Tidy
open Go Go.Proofs Tab
variable {tp:TProg}
section
variable {h h0 hb:TH} {a b n:Int} {v1 v2 w9:Value} {L:List Int} {S:List (Int × Int)} {o1 o2:Int × List Int × List (Int × Int)} {c2 c3 c5 c7 c14 c15:Nat}
end
theorem args2 {P:Program} {h:TH} {m:Nat} {t0 t1:TypeId} {us:List Value} (ha:Args P h m [t0,t1] us):∃ x0 x1,us=[x0,x1]∧(∃ ps,Ty P h m t0 ps∧x0=valOf P t0 ps)∧∃ ps,Ty P h m t1 ps∧x1=valOf P t1 ps:=by
 match us,ha with
 | [x0,x1],⟨a0,a1,_⟩=>exact ⟨x0,x1,rfl,a0,a1⟩
end Go.Tidy
namespace Go.Tidy
open Go Go.Proofs Tab
variable {tp:TProg}
theorem out_mm {x l m:Int} (h:outB x l m=0):l≤x∧x≤m:=by
 unfold outB at h
 by_cases c1:x < l
 ·rw [decide_eq_true c1] at h;cases h
 ·by_cases c2:m < x
  ·rw [decide_eq_false c1,decide_eq_true c2] at h;cases h
  ·omega
section
variable {h:TH} {n a b s:Int} {v1 v2:Value} {L:List Int} {S:List (Int × Int)} {p q st:Nat}
end
end Go.Tidy
namespace Go.Tidy
open Go Go.Proofs Tab
variable {tp:TProg}
section
variable {P:Program} {h:TH} {K:Regs→TH→Prop} {rest:List TOper} {d:Option Tmp} {ty:TypeId} {i:Nat} {x y:Operand} {v vx vy:Value} {t u e:TypeId} {n:Nat} {z:List Value} {row:Bool} {L:Rg}
theorem append_own2 {sT:TypeId} {b m:Nat} {c:List Value} {wr:Bool} {e':TypeId} (hu:P.underlying sT=some (.slice e)) (he:Tp P e n z row) (hg:At h b (.cells [] true wr e')) (s:SlC h v n m c) (hm2:m≤1000000000) (h1:c.all oneCell=true) :
  ∃ h' b',appendT P #[sT,sT] #[.slice (some ⟨b,0,none⟩) 0 0,v] h=some (.slice (some ⟨b',0,none⟩) m m,h')∧HX h h'∧SlC h' (.slice (some ⟨b',0,none⟩) m m) n m c∧(b'=b∨h.next≤b'):=by
 by_cases hm:m=0
 ·subst hm
  refine ⟨_,b,append_none hu he s (Nat.le_refl _),HX.refl h,?_,.inl rfl⟩
  obtain ⟨_,_,_,_,hc,_⟩:=s
  have:c=[]:=List.eq_nil_of_length_eq_zero (by omega)
  subst this
  exact SlC.own (by simp) hg
 ·refine ⟨_,_,append_all hu he hg s (by omega) hm2 h1,HX.new _ _,?_,.inr (Nat.le_refl _)⟩
  obtain ⟨_,_,_,_,hc,_⟩:=s
  exact SlC.own hc (At.new _ _)
theorem WOL.apO {l0:Operand} {ls:List Operand} {sT:TypeId} {b m:Nat} {c:List Value} {wr:Bool} {e':TypeId} (hx:getL L x=some (.slice (some ⟨b,0,none⟩) 0 0)) (hy:getL L y=some v) (hu:P.underlying sT=some (.slice e)) (he:Tp P e n z row) (hg:At h b (.cells [] true wr e')) (s:SlC h v n m c) (hm2:m≤1000000000) (h1:c.all oneCell=true)
  (w:∀ h' b' ,HX h h'→(b'=b∨h.next≤b')→SlC h' (.slice (some ⟨b',0,none⟩) m m) n m c→∀ a,Kn (putL L d (.slice (some ⟨b',0,none⟩) m m)) a→WO P tp rest a h' K):∀ a,Kn L a→WO P tp (⟨d,.call ⟨.builtin .append,#[x,y],#[sT,sT]⟩,ty,none,l0::ls,i⟩::rest) a h K:=by
 intro a k
 refine WO.apL (k.o hx) (k.o hy) fun M=>?_
 obtain ⟨h',b',e1,e2,e3,e4⟩:=append_own2 hu he (hg.relock M) (s.relock M) hm2 h1
 exact ⟨_,_,e1,k.nx (w _ b' e2.relock e4 (e3.relock h.lock))⟩
end
section
variable {h:TH} {s:ByteArray} {n a b:Int} {v v1 v2:Value} {F:List Nat} {S:List (Int × Int)} {es L:List Int}
set_option maxHeartbeats 2000000 in
set_option maxRecDepth 10000 in
theorem k1206 (H:Has tp) (sF:SlL encF 1 h v F) (hL:Lev F L) (lF:F.length≤1000000) (f:Free0 h.next h) :
  CallW Tryz.prog tp (.func (.func 145) #[] #[]) #[v,.func (.func 146) #[] #[]] h fun w h'=>HX h h'∧∃ c,w=slA c F.length∧h.next≤c∧At h' c (.cells (cat encI L) true true 3):=by
 refine CallW.fnL (H.fn 145 f1206 rfl rfl) ?_
 refine WL.sr<|WOL.as rfl<|WOL.nil ?_
 have lE:L.length=F.length:=hL.1.symm
 refine WL.sr<|WOL.mv rfl<|WOL.len rfl sF u43<|WOL.ms (m:=F.length) rfl rfl u29 tp3 (by decide) (by omega) fun h1 N1=>WOL.as rfl<|WOL.nil<|keep [(0,_),(1,_),(5,_)] ⟨rfl,rfl,rfl,trivial⟩ ?_
 have q1:=N1.next
 have W0:=N1.at_
 rw [rep_flat,← cat_rep (enc:=encI) (x:=0) rfl,← lE,← fill_zero L] at W0
 refine WL.seq<|WL.sr<|WOL.mv rfl<|WOL.len rfl (sF.hx N1.hx) u43<|WOL.mv rfl<|WOL.nil<|keep [(1,_),(5,_),(11,_),(12,_),(13,_)] ⟨rfl,rfl,rfl,rfl,rfl,trivial⟩ ?_
 refine WL.upto (α:=Unit) F.length (fun j _ g'=>HX h g'∧At g' h.next (.cells (cat encI (L.take j ++ List.replicate (L.length - j) 0)) true true 3)) (fun _ _=>[(1,.func (.func 146) #[] #[]),(5,slA h.next F.length),(11,v),(12,zi (F.length:Nat))]) () rfl rfl (by omega) ⟨N1.hx,W0⟩ ⟨rfl,rfl,rfl,rfl,rfl,trivial⟩ (fun _ _=>rfl) (fun _ _ _=>⟨rfl,rfl,rfl,rfl,rfl,trivial⟩) (fun _ _ _=>⟨rfl,rfl,rfl,rfl,rfl,trivial⟩) ?_ ?_
 ·rintro i _ g' hi ⟨X,Wd⟩
  have hp:F[i]?=some F[i]:=List.getElem?_eq_getElem hi
  have hi':i < L.length:=by omega
  have sm:Samp F[i] L[i]:=hL.2 i _ _ hp (List.getElem?_eq_getElem hi')
  obtain ⟨_,_,cc,fix,wr,el,g1,g2,g3,g4,g5⟩:=(sF.hx X).at eF u43 tp25 hp .i64
  have gx:=g5 0 (by decide)
  rw [Nat.add_zero] at gx
  refine WL.sr<|WOL.mv rfl<|WOL.ix rfl rfl g1<|WOL.ld rfl (load_one tp25 g2 gx)<|WOL.as rfl<|WOL.as rfl<|WOL.nil<|keep [(1,_),(5,_),(6,_),(7,_),(11,_),(12,_),(13,_)] ⟨rfl,rfl,rfl,rfl,rfl,rfl,rfl,trivial⟩ ?_
  refine WL.reg<|WOL.mv rfl<|WOL.mv rfl<|WOL.mv rfl<|WOL.mv rfl<|WOL.cl1 rfl rfl ((k111 H sm g').mono ?_)
  rintro u g' ⟨rfl,rfl⟩
  refine WOL.ix rfl rfl (indexAddr_tp (j:=i) u29 tp3 hi)<|WOL.sto (vs:=encI L[i]) rfl rfl tp3 Wd rfl rfl (by rw [eI.cat_len,fill_len _ _ _ (by omega)];omega) rfl (f.hx X) (by omega) fun h5 P5=>WOL.nil fun y k=>⟨(),⟨P5.hx _ X (by omega),?_⟩,k.sub ⟨rfl,rfl,rfl,rfl,rfl,trivial⟩⟩
  have:=P5.at_
  rw [Nat.zero_add,eI.set (by rw [fill_len _ _ _ (by omega)];omega),fill_set L _ i hi'] at this
  exact this
 ·rintro _ g' ⟨X,Wd⟩
  rw [← lE,fill_all] at Wd
  exact WL.sr<|WOL.mv rfl<|WOL.as rfl<|WOL.nil<|WL.ret (WL.end_ rfl ⟨X,_,rfl,by omega,Wd⟩)
end
end Go.Tidy
