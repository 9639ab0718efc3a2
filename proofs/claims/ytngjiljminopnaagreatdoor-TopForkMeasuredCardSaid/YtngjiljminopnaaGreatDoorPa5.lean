/- A part of the proof. -/
import Derived.Test.YtngjiljminopnaaGreatDoorPa4
import Derived.Test.YtngjiljminopnaaGreatDoorPa2
import Derived.Test.YtngjiljminopnaaGreatDoorPa1
import Derived.Test.YtngjiljminopnaaGreatDoorProg
set_option linter.all false
namespace Go.Tidy
open Go Go.Proofs Tab
variable {tp:TProg}
theorem WO.fdiv {P:Program} {tp:TProg} {a:qan} {h:TH} {K:qan→TH→Prop} {rest:List TOper} {d:Option Tmp} {ty:TypeId} {i:Nat} {x y:Operand} {t u:TypeId} {k:FloatKind} {b c r:Nat} (hx:qbn a x=some (.float k b)) (hy:qbn a y=some (.float k c)) (hb:qcy k b=false) (hc:qcy k c=false) (hr:k.format.div b c=some r) (hn:qcy k r=false)
  (w:WO P tp rest (a.put d (.float k r)) h K):WO P tp (⟨d,.binOp .quo t x y u,ty,none,[],i⟩::rest) a h K:=by
 have ex:=qac hx
 have ey:=qac hy
 refine WO.plainly rfl rfl rfl (by simp [qbw,qcj,ex,ey,hb,hc]) rfl (qca (by rfl) (fun q hq=>?_) ?_ (qap hn)) w
 ·simp only [Op.operands] at hq
  simp at hq
  rcases hq with rfl | rfl
  ·rw [ex];exact qap hb
  ·rw [ey];exact qap hc
 ·simp [toOper,execOp,qch,pv_map,qcs,ex,ey,eqGuard,binOp,Op.floatArith,hr]
def smp (n:Int):Nat:=(Ieee.single.div (FloatKind.f32.nearest n) 1098907648).getD 0
theorem smp_ok {n:Int} (hn:n.natAbs≤16384):Ieee.single.div (FloatKind.f32.nearest n) 1098907648=some (smp n)∧qcy .f32 (FloatKind.f32.nearest n)=false∧Samp (smp n) n:=by
 obtain ⟨r,h1,h2,h3⟩:=sample_of hn
 have:smp n=r:=by unfold smp;rw [h1];rfl
 rw [this]
 exact ⟨h1,h2,h3⟩
theorem smp_zero:smp 0=0:=by decide
theorem k111 (H:Has tp) {b:Nat} {n:Int} (s:Samp b n) (h:TH):qad Tryz.prog tp (.func (.func 111) #[] #[]) #[.float .f32 b] h fun v h'=>v=.int .i64 n∧h'=h:=by
 obtain ⟨c,h1,h2,h3,h4,h5⟩:=s.toInt
 refine qad.full (H.fn 111 f111 rfl rfl) rfl ?_
 refine W.seq (W.reg (WO.as rfl (WO.nil ?_)))
 refine W.seq (W.reg (WO.mv rfl (WO.fmul rfl rfl (by decide) s.nan h1 h2 (WO.conv rfl (qap h2) (conv_f2i u25 u3 h3 h4 h5) rfl (WO.as rfl (WO.nil (W.ret ?_)))))))
 exact ⟨.inr rfl,_,rfl,rfl,rfl⟩
theorem k86 (H:Has tp) {n:Int} (hn:n.natAbs≤16384) (h:TH):qad Tryz.prog tp (.func (.func 161) #[] #[]) #[.int .i64 n] h fun v h'=>v=.float .f32 (smp n)∧h'=h:=by
 obtain ⟨h1,h2,h3⟩:=smp_ok hn
 refine qad.full (H.fn 161 f86 rfl rfl) rfl ?_
 refine W.seq (W.reg (WO.as rfl (WO.nil ?_)))
 refine W.seq (W.reg (WO.mv rfl (WO.conv rfl rfl (conv_i2f u3 u25) (qap h2) (WO.fdiv rfl rfl h2 (by decide) h1 h3.nan (WO.as rfl (WO.nil (W.ret ?_)))))))
 exact ⟨.inr rfl,_,rfl,rfl,rfl⟩
def cellV (c:Int × Bool):Value:=.agg #[.int .i64 c.1,.bool c.2]
theorem k135 (H:Has tp) {b:Nat} {n:Int} (s:Samp b n) {h:TH} (f:Free0 h.next h):qad Tryz.prog tp (.func (.func 155) #[] #[]) #[.float .f32 b] h fun v h'=>v=cellV (n,true)∧HX h h':=by
 refine qad.full (H.fn 155 f135 rfl rfl) rfl ?_
 refine W.seq (W.reg (WO.alA tp134 fun h1 N1=>WO.nil ?_))
 refine W.seq (W.reg (WO.mv rfl (WO.cl1 rfl rfl ((k111 H s h1).mono ?_))))
 rintro v h2 ⟨rfl,rfl⟩
 refine WO.bd rfl bd134 (WO.stA rfl rfl tp134 N1.at_ rfl rfl (by decide) rfl (f.hx N1.hx) (Nat.le_refl _) fun h3 P3=>WO.nil (W.ret ?_))
 exact ⟨.inr rfl,_,res_cell rfl (qab tp134 P3.at_ rfl (Nat.le_of_ble_eq_true rfl)),rfl,P3.hx _ N1.hx (Nat.le_refl _)⟩
theorem k137 (H:Has tp) {c:Int × Bool} (hn:c.1.natAbs≤16384) {h:TH}:qad Tryz.prog tp (.func (.func 160) #[] #[]) #[cellV c] h fun v h'=>v=.float .f32 (smp c.1)∧HX h h':=by
 refine qad.full (H.fn 160 f137 rfl rfl) rfl ?_
 refine W.seq (W.reg (WO.boxA rfl fun h1 N1=>WO.as rfl (WO.nil ?_)))
 refine W.seq (W.reg (WO.fa rfl (qaf fo134_0) (WO.ld rfl (qaa tp3 N1.at_ rfl) (WO.cl1 rfl rfl ((k86 H hn h1).mono ?_)))))
 rintro v h2 ⟨rfl,rfl⟩
 exact WO.as rfl (WO.nil (W.ret ⟨.inr rfl,_,rfl,rfl,N1.hx⟩))
theorem k139 (H:Has tp) {c:Int × Bool} {h:TH}:qad Tryz.prog tp (.func (.func 163) #[] #[]) #[cellV c] h fun v h'=>v=.bool c.2∧HX h h':=by
 refine qad.full (H.fn 163 f139 rfl rfl) rfl ?_
 refine W.seq (W.reg (WO.boxA rfl fun h1 N1=>WO.as rfl (WO.nil ?_)))
 refine W.seq (W.reg (WO.fa rfl (qaf fo134_1) (WO.ld rfl (qaa tp4 N1.at_ rfl) ?_)))
 exact WO.as rfl (WO.nil (W.ret ⟨.inr rfl,_,rfl,rfl,N1.hx⟩))
end Go.Tidy
namespace Go.Tidy
open Go Go.Proofs Tab
variable {tp:TProg}
def Lev (F:List Nat) (L:List Int):Prop:=F.length=L.length∧∀ (i b:Nat) (n:Int),F[i]?=some b→L[i]?=some n→Samp b n
def all1 (L:List Int):List (Int × Bool):=L.map fun n=>(n,true)
theorem k134 (H:Has tp) {v:Value} {F:List Nat} {L:List Int} {h:TH} (s:SlL encF 1 h v F) (hL:Lev F L) (hF:F.length≤1000000) (f:Free0 h.next h) :
  qad Tryz.prog tp (.func (.func 154) #[] #[]) #[v,.func (.func 155) #[] #[]] h fun v' h'=>∃ b,v'=.slice (some ⟨b,0,none⟩) F.length F.length∧h.next≤b∧At h' b (.cells (cat encC (all1 L)) true true 177)∧HX h h':=by
 refine qad.full (H.fn 154 f134 rfl rfl) rfl ?_
 refine W.seq (W.reg (WO.as rfl (WO.nil ?_)))
 refine W.seq (W.reg (WO.mv rfl (WO.lenC rfl s u43 ?_)))
 refine WO.msA rfl rfl u135 tp134 (by decide) (by omega) fun h1 N1=>WO.as rfl (WO.nil ?_)
 refine W.seq (W.seq (W.reg (WO.mv rfl (WO.lenC rfl (s.hx N1.hx) u43 (WO.mv rfl (WO.nil ?_))))))
 have hlen:(all1 L).length=F.length:=by simp [all1,hL.1]
 have A1:At h1 h.next (.cells (cat encC ((all1 L).take 0 ++ List.replicate ((all1 L).length - 0) (0,false))) true true 177):=by
  rw [fill_zero,hlen,← Enc.rep];exact N1.at_
 refine W.block (W.loop (fun k a h2=>∃ i:Nat,i≤F.length∧k=F.length - i∧HX h h2∧At h2 h.next (.cells (cat encC ((all1 L).take i ++ List.replicate ((all1 L).length - i) (0,false))) true true 177)∧qak 26 a ∧
   Tr.get a 1=some (.func (.func 155) #[] #[])∧Tr.get a 5=some (.slice (some ⟨h.next,0,none⟩) F.length F.length)∧Tr.get a 11=some v∧Tr.get a 12=some (.int .i64 F.length)∧Tr.get a 13=some (.int .i64 (i:Nat)))
  ?_ F.length _ _ ⟨0,by omega,by omega,N1.hx,A1,(by repeat (first | with_reducible refine qak.put ?_ (by decide) _ | with_reducible refine qak.putn ?_ _ | with_reducible exact qak.of _ _ rfl | with_reducible exact qak.start _ _ (Nat.le_of_ble_eq_true rfl) | exact qak.start _ _ (Nat.le_of_ble_eq_true rfl))),rfl,rfl,rfl,rfl,rfl⟩)
 rintro k a h2 ⟨i,hi,rfl,X2,A2,hf,i1,i5,i11,i12,i13⟩
 (obtain ⟨rl0,hrl0,rfl⟩:=hf;obtain ⟨s0,s1,s2,s3,s4,s5,s6,s7,rl1,rfl,hrl1⟩:=qal hrl0;obtain ⟨s8,s9,s10,s11,s12,s13,s14,s15,rl2,rfl,hrl2⟩:=qal hrl1;obtain ⟨s16,s17,s18,s19,s20,s21,s22,s23,rl3,rfl,hrl3⟩:=qal hrl2;obtain ⟨s24,rl4,rfl,hrl4⟩:=qaj hrl3;obtain ⟨s25,rl5,rfl,hrl5⟩:=qaj hrl4;obtain rfl:=qcg hrl5;clear hrl0 hrl1 hrl2 hrl3 hrl4 hrl5;obtain rfl:s1=_:=Option.some.inj (show some s1=some _ from i1);clear i1;obtain rfl:s5=_:=Option.some.inj (show some s5=some _ from i5);clear i5;obtain rfl:s11=_:=Option.some.inj (show some s11=some _ from i11);clear i11;obtain rfl:s12=_:=Option.some.inj (show some s12=some _ from i12);clear i12;obtain rfl:s13=_:=Option.some.inj (show some s13=some _ from i13);clear i13)
 refine W.seq (W.reg (WO.bi rfl rfl rfl (WO.nil ?_)))
 by_cases hlt:i < F.length
 ·rw [show decide ((i:Int) < (F.length:Int))=true by simpa using hlt]
  refine W.seq (W.cd rfl (OnB.yes (W.skip ?_)))
  have hF1:F[i]?=some F[i]:=List.getElem?_eq_getElem hlt
  have hiL:i < L.length:=by rw [← hL.1];exact hlt
  have hL1:L[i]?=some L[i]:=List.getElem?_eq_getElem hiL
  obtain ⟨b,o,cc,fix,wr,el,e1,e2,e3,e4,e5⟩:=(s.hx X2).at eF u43 tp25 hF1 .i64
  refine W.seq (W.block (W.seq (W.reg (WO.mv rfl (WO.ix rfl rfl e1 (WO.ld rfl (qaa tp25 e2 (e5 0 (by decide))) (WO.as rfl (WO.as rfl (WO.nil ?_)))))))))
  refine W.reg (WO.mv rfl (WO.mv rfl (WO.mv rfl (WO.mv rfl (WO.cl1 rfl rfl ((k135 H (hL.2 i _ _ hF1 hL1) (f.next X2 X2.next)).mono ?_))))))
  rintro v3 h3 ⟨rfl,X3⟩
  have hAi:(all1 L)[i]'(by omega)=(L[i],true):=by simp [all1]
  refine WO.ix rfl rfl (qbv u135 tp134 hlt) (WO.stA rfl rfl tp134 (A2.hx X3) rfl rfl (by rw [eC.cat_len,fill_len _ _ _ (by omega)];omega) rfl (f.hx (X2.trans X3)) (Nat.le_refl _) fun h4 P4=>WO.nil ?_)
  have A4:=P4.at_
  rw [show (0:Nat)+i*2=i*2 by omega,show ((cellV (L[i],true)).cells.toList)=encC (L[i],true) from rfl,eC.set (by rw [fill_len _ _ _ (by omega)];omega),← hAi,fill_set _ _ _ (by omega)] at A4
  refine W.reg (WO.bi rfl rfl rfl (WO.mv rfl (WO.nil ?_)))
  refine ⟨F.length - (i+1),by omega,i+1,by omega,rfl,P4.hx _ (X2.trans X3) (Nat.le_refl _),A4,(by repeat (first | with_reducible refine qak.put ?_ (by decide) _ | with_reducible refine qak.putn ?_ _ | with_reducible exact qak.of _ _ rfl | with_reducible exact qak.start _ _ (Nat.le_of_ble_eq_true rfl) | exact qak.start _ _ (Nat.le_of_ble_eq_true rfl))),rfl,rfl,rfl,rfl,?_⟩
  show some (Value.int .i64 (qbm .i64 ((i:Int)+1)))=_
  rw [qao (by omega) (by omega)]
  rfl
 ·rw [show decide ((i:Int) < (F.length:Int))=false by simpa using hlt]
  refine W.seq (W.cd rfl (OnB.no (W.exit ?_)))
  obtain rfl:i=F.length:=by omega
  refine W.seq (W.reg (WO.mv rfl (WO.as rfl (WO.nil (W.ret ?_)))))
  refine ⟨.inr rfl,_,rfl,h.next,rfl,Nat.le_refl _,?_,X2⟩
  rwa [← hlen,fill_all] at A2
end Go.Tidy
namespace Go.Tidy
open Go Go.Proofs Tab
variable {tp:TProg}
theorem k136 (H:Has tp) {v:Value} {C:List (Int × Bool)} {h:TH} (s:SlL encC 2 h v C) (hS:∀ c,c ∈ C→c.1.natAbs≤16384) (hC:C.length≤1000000) (f:Free0 h.next h) :
  qad Tryz.prog tp (.func (.func 159) #[] #[]) #[v,.func (.func 160) #[] #[]] h fun v' h'=>∃ b,v'=.slice (some ⟨b,0,none⟩) C.length C.length∧h.next≤b∧At h' b (.cells (cat encF (C.map fun c=>smp c.1)) true true 90)∧HX h h':=by
 refine qad.full (H.fn 159 f136 rfl rfl) rfl ?_
 refine W.seq (W.reg (WO.as rfl (WO.nil ?_)))
 refine W.seq (W.reg (WO.mv rfl (WO.lenC rfl s u135 ?_)))
 refine WO.msA rfl rfl u43 tp25 (by decide) (by omega) fun h1 N1=>WO.as rfl (WO.nil ?_)
 refine W.seq (W.seq (W.reg (WO.mv rfl (WO.lenC rfl (s.hx N1.hx) u135 (WO.mv rfl (WO.nil ?_))))))
 have hlen:(C.map fun c=>smp c.1).length=C.length:=by simp
 generalize hR:(C.map fun c=>smp c.1)=R at hlen
 have A1:At h1 h.next (.cells (cat encF (R.take 0 ++ List.replicate (R.length - 0) 0)) true true 90):=by
  rw [fill_zero,hlen,← Enc.rep];exact N1.at_
 refine W.block (W.loop (fun k a h2=>∃ i:Nat,i≤C.length∧k=C.length - i∧HX h h2∧At h2 h.next (.cells (cat encF (R.take i ++ List.replicate (R.length - i) 0)) true true 90)∧qak 26 a ∧
   Tr.get a 1=some (.func (.func 160) #[] #[])∧Tr.get a 5=some (.slice (some ⟨h.next,0,none⟩) C.length C.length)∧Tr.get a 11=some v∧Tr.get a 12=some (.int .i64 C.length)∧Tr.get a 13=some (.int .i64 (i:Nat)))
  ?_ C.length _ _ ⟨0,by omega,by omega,N1.hx,A1,(by repeat (first | with_reducible refine qak.put ?_ (by decide) _ | with_reducible refine qak.putn ?_ _ | with_reducible exact qak.of _ _ rfl | with_reducible exact qak.start _ _ (Nat.le_of_ble_eq_true rfl) | exact qak.start _ _ (Nat.le_of_ble_eq_true rfl))),rfl,rfl,rfl,rfl,rfl⟩)
 rintro k a h2 ⟨i,hi,rfl,X2,A2,hf,i1,i5,i11,i12,i13⟩
 (obtain ⟨rl0,hrl0,rfl⟩:=hf;obtain ⟨s0,s1,s2,s3,s4,s5,s6,s7,rl1,rfl,hrl1⟩:=qal hrl0;obtain ⟨s8,s9,s10,s11,s12,s13,s14,s15,rl2,rfl,hrl2⟩:=qal hrl1;obtain ⟨s16,s17,s18,s19,s20,s21,s22,s23,rl3,rfl,hrl3⟩:=qal hrl2;obtain ⟨s24,rl4,rfl,hrl4⟩:=qaj hrl3;obtain ⟨s25,rl5,rfl,hrl5⟩:=qaj hrl4;obtain rfl:=qcg hrl5;clear hrl0 hrl1 hrl2 hrl3 hrl4 hrl5;obtain rfl:s1=_:=Option.some.inj (show some s1=some _ from i1);clear i1;obtain rfl:s5=_:=Option.some.inj (show some s5=some _ from i5);clear i5;obtain rfl:s11=_:=Option.some.inj (show some s11=some _ from i11);clear i11;obtain rfl:s12=_:=Option.some.inj (show some s12=some _ from i12);clear i12;obtain rfl:s13=_:=Option.some.inj (show some s13=some _ from i13);clear i13)
 refine W.seq (W.reg (WO.bi rfl rfl rfl (WO.nil ?_)))
 by_cases hlt:i < C.length
 ·rw [show decide ((i:Int) < (C.length:Int))=true by simpa using hlt]
  refine W.seq (W.cd rfl (OnB.yes (W.skip ?_)))
  have hC1:C[i]?=some C[i]:=List.getElem?_eq_getElem hlt
  have hiR:i < R.length:=by omega
  have hR1:R[i]=(fun c:Int × Bool=>smp c.1) C[i]:=by subst hR;simp
  obtain ⟨b,o,cc,fix,wr,el,e1,e2,e3,e4,e5⟩:=(s.hx X2).at eC u135 tp134 hC1 .i64
  refine W.seq (W.block (W.seq (W.reg (WO.mv rfl (WO.ix rfl rfl e1 (WO.ld rfl (qab tp134 e2 e4 e3) ?_))))))
  refine WO.alA tp134 fun h3 N3=>WO.as rfl (WO.stA rfl rfl tp134 N3.at_ rfl rfl (Nat.le_of_ble_eq_true rfl) rfl (f.hx (X2.trans N3.hx)) X2.next fun h4 P4=>WO.nil ?_)
  have X4:=P4.hx _ (X2.trans N3.hx) X2.next
  have l2:h.next < h2.next:=A2.lt
  have A4:=P4.oth _ _ (by omega) (A2.hx N3.hx)
  refine W.reg (WO.mv rfl (WO.mv rfl (WO.mv rfl (WO.ld rfl (qab tp134 P4.at_ rfl (Nat.le_of_ble_eq_true rfl)) (WO.cl1 rfl rfl ((k137 H (c:=C[i]) (hS _ (List.mem_of_getElem? hC1))).mono ?_))))))
  rintro v5 h5 ⟨rfl,X5⟩
  refine WO.ix rfl rfl (qbv u43 tp25 hlt) (WO.stA rfl rfl tp25 (A4.hx X5) rfl rfl (by rw [eF.cat_len,fill_len _ _ _ (by omega)];omega) rfl (f.hx (X4.trans X5)) (Nat.le_refl _) fun h6 P6=>WO.nil ?_)
  have A6:=P6.at_
  rw [show (0:Nat)+i*1=i*1 by omega,show ((Value.float .f32 (smp C[i].1)).cells.toList)=encF ((fun c:Int × Bool=>smp c.1) C[i]) from rfl,eF.set (by rw [fill_len _ _ _ (by omega)];omega),← hR1,fill_set _ _ _ (by omega)] at A6
  refine W.reg (WO.bi rfl rfl rfl (WO.mv rfl (WO.nil ?_)))
  refine ⟨C.length - (i+1),by omega,i+1,by omega,rfl,P6.hx _ (X4.trans X5) (Nat.le_refl _),A6,(by repeat (first | with_reducible refine qak.put ?_ (by decide) _ | with_reducible refine qak.putn ?_ _ | with_reducible exact qak.of _ _ rfl | with_reducible exact qak.start _ _ (Nat.le_of_ble_eq_true rfl) | exact qak.start _ _ (Nat.le_of_ble_eq_true rfl))),rfl,rfl,rfl,rfl,?_⟩
  show some (Value.int .i64 (qbm .i64 ((i:Int)+1)))=_
  rw [qao (by omega) (by omega)]
  rfl
 ·rw [show decide ((i:Int) < (C.length:Int))=false by simpa using hlt]
  refine W.seq (W.cd rfl (OnB.no (W.exit ?_)))
  obtain rfl:i=C.length:=by omega
  refine W.seq (W.reg (WO.mv rfl (WO.as rfl (WO.nil (W.ret ?_)))))
  refine ⟨.inr rfl,_,rfl,h.next,rfl,Nat.le_refl _,?_,X2⟩
  rwa [← hlen,fill_all] at A2
theorem k138 (H:Has tp) {v:Value} {C:List (Int × Bool)} {h:TH} (s:SlL encC 2 h v C) (hC:C.length≤1000000) (f:Free0 h.next h) :
  qad Tryz.prog tp (.func (.func 162) #[] #[]) #[v,.func (.func 163) #[] #[]] h fun v' h'=>∃ b,v'=.slice (some ⟨b,0,none⟩) C.length C.length∧h.next≤b∧At h' b (.cells (cat encB (C.map fun c=>c.2)) true true 4)∧HX h h':=by
 refine qad.full (H.fn 162 f138 rfl rfl) rfl ?_
 refine W.seq (W.reg (WO.as rfl (WO.nil ?_)))
 refine W.seq (W.reg (WO.mv rfl (WO.lenC rfl s u135 ?_)))
 refine WO.msA rfl rfl u145 tp4 (by decide) (by omega) fun h1 N1=>WO.as rfl (WO.nil ?_)
 refine W.seq (W.seq (W.reg (WO.mv rfl (WO.lenC rfl (s.hx N1.hx) u135 (WO.mv rfl (WO.nil ?_))))))
 have hlen:(C.map fun c=>c.2).length=C.length:=by simp
 generalize hR:(C.map fun c=>c.2)=R at hlen
 have A1:At h1 h.next (.cells (cat encB (R.take 0 ++ List.replicate (R.length - 0) false)) true true 4):=by
  rw [fill_zero,hlen,← Enc.rep];exact N1.at_
 refine W.block (W.loop (fun k a h2=>∃ i:Nat,i≤C.length∧k=C.length - i∧HX h h2∧At h2 h.next (.cells (cat encB (R.take i ++ List.replicate (R.length - i) false)) true true 4)∧qak 26 a ∧
   Tr.get a 1=some (.func (.func 163) #[] #[])∧Tr.get a 5=some (.slice (some ⟨h.next,0,none⟩) C.length C.length)∧Tr.get a 11=some v∧Tr.get a 12=some (.int .i64 C.length)∧Tr.get a 13=some (.int .i64 (i:Nat)))
  ?_ C.length _ _ ⟨0,by omega,by omega,N1.hx,A1,(by repeat (first | with_reducible refine qak.put ?_ (by decide) _ | with_reducible refine qak.putn ?_ _ | with_reducible exact qak.of _ _ rfl | with_reducible exact qak.start _ _ (Nat.le_of_ble_eq_true rfl) | exact qak.start _ _ (Nat.le_of_ble_eq_true rfl))),rfl,rfl,rfl,rfl,rfl⟩)
 rintro k a h2 ⟨i,hi,rfl,X2,A2,hf,i1,i5,i11,i12,i13⟩
 (obtain ⟨rl0,hrl0,rfl⟩:=hf;obtain ⟨s0,s1,s2,s3,s4,s5,s6,s7,rl1,rfl,hrl1⟩:=qal hrl0;obtain ⟨s8,s9,s10,s11,s12,s13,s14,s15,rl2,rfl,hrl2⟩:=qal hrl1;obtain ⟨s16,s17,s18,s19,s20,s21,s22,s23,rl3,rfl,hrl3⟩:=qal hrl2;obtain ⟨s24,rl4,rfl,hrl4⟩:=qaj hrl3;obtain ⟨s25,rl5,rfl,hrl5⟩:=qaj hrl4;obtain rfl:=qcg hrl5;clear hrl0 hrl1 hrl2 hrl3 hrl4 hrl5;obtain rfl:s1=_:=Option.some.inj (show some s1=some _ from i1);clear i1;obtain rfl:s5=_:=Option.some.inj (show some s5=some _ from i5);clear i5;obtain rfl:s11=_:=Option.some.inj (show some s11=some _ from i11);clear i11;obtain rfl:s12=_:=Option.some.inj (show some s12=some _ from i12);clear i12;obtain rfl:s13=_:=Option.some.inj (show some s13=some _ from i13);clear i13)
 refine W.seq (W.reg (WO.bi rfl rfl rfl (WO.nil ?_)))
 by_cases hlt:i < C.length
 ·rw [show decide ((i:Int) < (C.length:Int))=true by simpa using hlt]
  refine W.seq (W.cd rfl (OnB.yes (W.skip ?_)))
  have hC1:C[i]?=some C[i]:=List.getElem?_eq_getElem hlt
  have hiR:i < R.length:=by omega
  have hR1:R[i]=(fun c:Int × Bool=>c.2) C[i]:=by subst hR;simp
  obtain ⟨b,o,cc,fix,wr,el,e1,e2,e3,e4,e5⟩:=(s.hx X2).at eC u135 tp134 hC1 .i64
  refine W.seq (W.block (W.seq (W.reg (WO.mv rfl (WO.ix rfl rfl e1 (WO.ld rfl (qab tp134 e2 e4 e3) ?_))))))
  refine WO.alA tp134 fun h3 N3=>WO.as rfl (WO.stA rfl rfl tp134 N3.at_ rfl rfl (Nat.le_of_ble_eq_true rfl) rfl (f.hx (X2.trans N3.hx)) X2.next fun h4 P4=>WO.nil ?_)
  have X4:=P4.hx _ (X2.trans N3.hx) X2.next
  have l2:h.next < h2.next:=A2.lt
  have A4:=P4.oth _ _ (by omega) (A2.hx N3.hx)
  refine W.reg (WO.mv rfl (WO.mv rfl (WO.mv rfl (WO.ld rfl (qab tp134 P4.at_ rfl (Nat.le_of_ble_eq_true rfl)) (WO.cl1 rfl rfl ((k139 H (c:=C[i]) ).mono ?_))))))
  rintro v5 h5 ⟨rfl,X5⟩
  refine WO.ix rfl rfl (qbv u145 tp4 hlt) (WO.stA rfl rfl tp4 (A4.hx X5) rfl rfl (by rw [eB.cat_len,fill_len _ _ _ (by omega)];omega) rfl (f.hx (X4.trans X5)) (Nat.le_refl _) fun h6 P6=>WO.nil ?_)
  have A6:=P6.at_
  rw [show (0:Nat)+i*1=i*1 by omega,show ((Value.bool C[i].2).cells.toList)=encB ((fun c:Int × Bool=>c.2) C[i]) from rfl,eB.set (by rw [fill_len _ _ _ (by omega)];omega),← hR1,fill_set _ _ _ (by omega)] at A6
  refine W.reg (WO.bi rfl rfl rfl (WO.mv rfl (WO.nil ?_)))
  refine ⟨C.length - (i+1),by omega,i+1,by omega,rfl,P6.hx _ (X4.trans X5) (Nat.le_refl _),A6,(by repeat (first | with_reducible refine qak.put ?_ (by decide) _ | with_reducible refine qak.putn ?_ _ | with_reducible exact qak.of _ _ rfl | with_reducible exact qak.start _ _ (Nat.le_of_ble_eq_true rfl) | exact qak.start _ _ (Nat.le_of_ble_eq_true rfl))),rfl,rfl,rfl,rfl,?_⟩
  show some (Value.int .i64 (qbm .i64 ((i:Int)+1)))=_
  rw [qao (by omega) (by omega)]
  rfl
 ·rw [show decide ((i:Int) < (C.length:Int))=false by simpa using hlt]
  refine W.seq (W.cd rfl (OnB.no (W.exit ?_)))
  obtain rfl:i=C.length:=by omega
  refine W.seq (W.reg (WO.mv rfl (WO.as rfl (WO.nil (W.ret ?_)))))
  refine ⟨.inr rfl,_,rfl,h.next,rfl,Nat.le_refl _,?_,X2⟩
  rwa [← hlen,fill_all] at A2
end Go.Tidy
namespace Go.Tidy
open Go Go.Proofs Tab
variable {tp:TProg}
def clrL (C:List (Int × Bool)) (p:Int × Int):List (Int × Bool):=C.take p.1.toNat ++ (List.replicate (p.2.toNat - p.1.toNat) (0,false) ++ C.drop p.2.toNat)
def qbj (L:List Int) (S:List (Int × Int)):List (Int × Bool):=S.foldl clrL (all1 L)
def In (m:Nat) (S:List (Int × Int)):Prop:=∀ p,p ∈ S→0≤p.1∧p.1≤p.2∧p.2≤m
theorem clrL_len {C:List (Int × Bool)} {p:Int × Int} (h1:0≤p.1) (h2:p.1≤p.2) (h3:p.2≤C.length):(clrL C p).length=C.length:=by
 unfold clrL;simp;omega
theorem foldl_len {m:Nat}:∀ (S:List (Int × Int)) (C:List (Int × Bool)),C.length=m→In m S→(S.foldl clrL C).length=m
 | [],C,h,_=>h
 | p::S,C,h,hin=>by
  obtain ⟨h1,h2,h3⟩:=hin p (by simp)
  exact foldl_len S (clrL C p) (by rw [clrL_len h1 h2 (by omega)];exact h) fun q hq=>hin q (by simp [hq])
theorem take_foldl {S:List (Int × Int)} {i:Nat} (h:i < S.length) (C:List (Int × Bool)):(S.take (i+1)).foldl clrL C=clrL ((S.take i).foldl clrL C) S[i]:=by
 rw [← List.take_append_getElem h,List.foldl_append];rfl
set_option maxRecDepth 10000 in
theorem k85 (H:Has tp) {s:ByteArray} {n:Int} {v1 v2:Value} {F:List Nat} {S:List (Int × Int)} {L:List Int} {h:TH} (r:RunH h v1 v2 F S) (hL:Lev F L) (hF:F.length≤1000000) (hS:S.length≤1000000) (hin:In F.length S) (f:Free0 h.next h) :
  qad Tryz.prog tp (.func (.func 115) #[] #[]) #[runV s n v1 v2] h fun v h'=>∃ b,v=.slice (some ⟨b,0,none⟩) F.length F.length∧h.next≤b∧At h' b (.cells (cat encC (qbj L S)) true true 177)∧HX h h':=by
 refine qad.full (H.fn 115 f85 rfl rfl) rfl ?_
 refine W.seq (W.reg (WO.boxA rfl fun h1 N1=>WO.as rfl (WO.nil ?_)))
 refine W.seq (W.reg (WO.fa rfl (qaf fo52_2) (WO.ld rfl (qaa tp43 N1.at_ rfl) (WO.cl2 rfl rfl rfl ((k134 H (r.f.hx N1.hx) hL hF (f.next N1.hx N1.hx.next)).mono ?_)))))
 rintro v h2 ⟨b,rfl,hb,A2,X2⟩
 have q1:=N1.next
 refine WO.as rfl (WO.nil ?_)
 have X2':=N1.hx.trans X2
 refine W.seq (W.seq (W.reg (WO.fa rfl (qaf fo52_3) (WO.ld rfl (qaa tp44 (N1.at_.hx X2) rfl) (WO.lenC rfl (r.s.hx X2') u44 (WO.mv rfl (WO.nil ?_)))))))
 have hlen:(all1 L).length=F.length:=by simp [all1,hL.1]
 refine W.block (W.loop (fun k a h3=>∃ i:Nat,i≤S.length∧k=S.length - i∧HX h h3∧At h3 b (.cells (cat encC ((S.take i).foldl clrL (all1 L))) true true 177)∧qak 24 a ∧
   Tr.get a 3=some (.slice (some ⟨b,0,none⟩) F.length F.length)∧Tr.get a 10=some v2∧Tr.get a 11=some (.int .i64 S.length)∧Tr.get a 12=some (.int .i64 (i:Nat)))
  ?_ S.length _ _ ⟨0,by omega,by omega,X2',A2,(by repeat (first | with_reducible refine qak.put ?_ (by decide) _ | with_reducible refine qak.putn ?_ _ | with_reducible exact qak.of _ _ rfl | with_reducible exact qak.start _ _ (Nat.le_of_ble_eq_true rfl) | exact qak.start _ _ (Nat.le_of_ble_eq_true rfl))),rfl,rfl,rfl,rfl⟩)
 rintro k a h3 ⟨i,hi,rfl,X3,A3,hf,i3,i10,i11,i12⟩
 (obtain ⟨rl0,hrl0,rfl⟩:=hf;obtain ⟨s0,s1,s2,s3,s4,s5,s6,s7,rl1,rfl,hrl1⟩:=qal hrl0;obtain ⟨s8,s9,s10,s11,s12,s13,s14,s15,rl2,rfl,hrl2⟩:=qal hrl1;obtain ⟨s16,s17,s18,s19,s20,s21,s22,s23,rl3,rfl,hrl3⟩:=qal hrl2;obtain rfl:=qcg hrl3;clear hrl0 hrl1 hrl2 hrl3;obtain rfl:s3=_:=Option.some.inj (show some s3=some _ from i3);clear i3;obtain rfl:s10=_:=Option.some.inj (show some s10=some _ from i10);clear i10;obtain rfl:s11=_:=Option.some.inj (show some s11=some _ from i11);clear i11;obtain rfl:s12=_:=Option.some.inj (show some s12=some _ from i12);clear i12)
 refine W.seq (W.reg (WO.bi rfl rfl rfl (WO.nil ?_)))
 by_cases hlt:i < S.length
 ·rw [show decide ((i:Int) < (S.length:Int))=true by simpa using hlt]
  refine W.seq (W.cd rfl (OnB.yes (W.skip ?_)))
  have hS1:S[i]?=some S[i]:=List.getElem?_eq_getElem hlt
  obtain ⟨g1,g2,g3⟩:=hin S[i] (List.getElem_mem hlt)
  have hcl:=foldl_len (S.take i) (all1 L) hlen (fun p hp=>hin p (List.mem_of_mem_take hp))
  obtain ⟨b4,o,cc,fix,wr,el,e1,e2,e3,e4,e5⟩:=(r.s.hx X3).at eS u44 tp48 hS1 .i64
  refine W.seq (W.block (W.seq (W.reg (WO.ix rfl rfl e1 (WO.ld rfl (qab tp48 e2 e4 e3) ?_)))))
  refine WO.alA tp48 fun h4 N4=>WO.stA rfl rfl tp48 N4.at_ rfl rfl (Nat.le_of_ble_eq_true rfl) rfl (f.hx (X3.trans N4.hx)) X3.next fun h5 P5=>WO.nil ?_
  have X5:=P5.hx _ (X3.trans N4.hx) X3.next
  have l3:b < h3.next:=A3.lt
  have A5:=P5.oth _ _ (by omega) (A3.hx N4.hx)
  refine W.reg (WO.mv rfl (WO.fa rfl (qaf qcq) (WO.ld rfl (qaa tp3 P5.at_ rfl) (WO.fa rfl (qaf qcl) (WO.ld rfl (qaa tp3 P5.at_ rfl) ?_)))))
  generalize hp:S[i]=p at *
  obtain ⟨p1,p2⟩:=p
  obtain ⟨lo,rfl⟩:=Int.eq_ofNat_of_zero_le g1
  obtain ⟨hh,rfl⟩:=Int.eq_ofNat_of_zero_le (Int.le_trans g1 g2)
  have g2':lo≤hh:=Int.ofNat_le.1 g2
  have g3':hh≤F.length:=Int.ofNat_le.1 g3
  refine WO.sl rfl rfl rfl (sliceT_at u135 tp134 (Nat.le_refl _) g2' g3' A5 (.inl rfl)) ?_
  obtain ⟨h6,c1,c2,c3,c4,c5⟩:=clear_part (sT:=174) (z0:=((0:Int),false)) (off:=lo) (k:=hh - lo) (cap:=F.length - lo) eC (by decide) u135 tp134 A5 (by omega) (f.hx X5) (by omega:h.next≤b)
  rw [show lo*2=0+lo*2 by omega] at c1
  refine WO.clr rfl c1 (WO.nil ?_)
  refine W.reg (WO.bi rfl rfl rfl (WO.mv rfl (WO.nil ?_)))
  refine ⟨S.length - (i+1),by omega,i+1,by omega,rfl,c2 _ X5 (by omega),?_,(by repeat (first | with_reducible refine qak.put ?_ (by decide) _ | with_reducible refine qak.putn ?_ _ | with_reducible exact qak.of _ _ rfl | with_reducible exact qak.start _ _ (Nat.le_of_ble_eq_true rfl) | exact qak.start _ _ (Nat.le_of_ble_eq_true rfl))),rfl,rfl,rfl,?_⟩
  ·rw [take_foldl hlt,hp]
   unfold clrL
   simp only [Int.toNat_natCast]
   rwa [show lo+(hh - lo)=hh by omega] at c5
  ·show some (Value.int .i64 (qbm .i64 ((i:Int)+1)))=_
   rw [qao (by omega) (by omega)]
   rfl
 ·rw [show decide ((i:Int) < (S.length:Int))=false by simpa using hlt]
  refine W.seq (W.cd rfl (OnB.no (W.exit ?_)))
  obtain rfl:i=S.length:=by omega
  refine W.seq (W.reg (WO.mv rfl (WO.as rfl (WO.nil (W.ret ?_)))))
  refine ⟨.inr rfl,_,rfl,b,rfl,by omega,?_,X3⟩
  rwa [List.take_length] at A3
end Go.Tidy
namespace Go.Tidy
open Go Go.Proofs Tab
variable {tp:TProg}
def hstep (B:List Bool) (acc:List (Int × Int)) (i:Nat):List (Int × Int) :=
 if B.getD i false=true then acc
 else if 0 < i∧B.getD (i - 1) false=false then acc.set (acc.length - 1) ((acc.getD (acc.length - 1) (0,0)).1,(i:Int)+1)
 else acc ++ [((i:Int),(i:Int)+1)]
def qcx (B:List Bool):Nat→List (Int × Int)
 | 0=>[]
 | i+1=>hstep B (qcx B i) i
def qah (B:List Bool):List (Int × Int):=qcx B B.length
theorem hstep_len (B:List Bool) (acc:List (Int × Int)) (i:Nat):(hstep B acc i).length≤acc.length+1:=by
 unfold hstep
 split
 ·omega
 ·split <;> simp
theorem holesN_len (B:List Bool):∀ i,(qcx B i).length≤i
 | 0=>Nat.le_refl _
 | i+1=>by have:=hstep_len B (qcx B i) i;have:=holesN_len B i;unfold qcx;omega
def extS (acc:List (Int × Int)) (i:Nat):List (Int × Int) :=
 if acc≠[]∧(acc.getD (acc.length - 1) (0,0)).2=i then acc.set (acc.length - 1) ((acc.getD (acc.length - 1) (0,0)).1,(i:Int)+1)
 else acc ++ [((i:Int),(i:Int)+1)]
theorem holesN_tail (B:List Bool):∀ i,qcx B i=[]∧(0 < i→B.getD (i - 1) false=true) ∨
    qcx B i≠[]∧((qcx B i).getD ((qcx B i).length - 1) (0,0)).2≤i∧(((qcx B i).getD ((qcx B i).length - 1) (0,0)).2=(i:Int) ↔ 0 < i∧B.getD (i - 1) false=false)
  | 0=>.inl ⟨rfl,fun h=>absurd h (by omega)⟩
  | i + 1 => by
    have ih:=holesN_tail B i
    rw [show i+1 - 1=i by omega,qcx]
    generalize qcx B i=acc at *
    unfold hstep
    cases hk:B.getD i false with
    | true =>
      rw [if_pos rfl]
      rcases ih with ⟨e,_⟩ | ⟨e,l,_⟩
      · exact .inl ⟨e,fun _=>rfl⟩
      · exact .inr ⟨e,by omega,fun h=>absurd h (by omega),fun h=>absurd h.2 (by decide)⟩
    | false =>
      rw [if_neg (by simp)]
      refine .inr ?_
      by_cases hq:0 < i∧B.getD (i - 1) false=false
      · rw [if_pos hq]
        rcases ih with ⟨_,e⟩ | ⟨e,_,_⟩
        · rw [e hq.1] at hq;simp at hq
        · have hp:0 < acc.length:=List.length_pos_iff.2 e
          refine ⟨fun h=>e (by simpa using congrArg List.length h),?_⟩
          rw [List.length_set,show (acc.set (acc.length - 1) ((acc.getD (acc.length - 1) (0,0)).1,(i:Int)+1)).getD (acc.length - 1) (0,0)=((acc.getD (acc.length - 1) (0,0)).1,(i:Int)+1) by
            rw [List.getD_eq_getElem?_getD,List.getElem?_set_self (by omega)];rfl]
          simp
      · rw [if_neg hq]
        refine ⟨by simp,?_⟩
        rw [List.length_append,show (acc ++ [((i:Int),(i:Int)+1)]).getD (acc.length+[((i:Int),(i:Int)+1)].length - 1) (0,0)=((i:Int),(i:Int)+1) by
          simp [List.getD]]
        simp
theorem hstep_ext (B:List Bool) (i:Nat) (h:B.getD i false=false):hstep B (qcx B i) i=extS (qcx B i) i:=by
 unfold hstep extS
 rw [if_neg (by rw [h];decide)]
 rcases holesN_tail B i with ⟨e,e2⟩ | ⟨e,_,e3⟩
 ·rw [if_neg (fun q=>by rw [e2 q.1] at q;exact absurd q.2 (by decide)),if_neg (fun q=>q.1 e)]
 ·by_cases hq:0 < i∧B.getD (i - 1) false=false
  ·rw [if_pos hq,if_pos ⟨e,e3.2 hq⟩]
  ·rw [if_neg hq,if_neg (fun q=>hq (e3.1 q.2))]
set_option maxHeartbeats 1000000 in
set_option maxRecDepth 10000 in
theorem k165 (H:Has tp) {v:Value} {acc:List (Int × Int)} {i n0:Nat} {h:TH} (O:OwnL encS n0 h v 77 acc) (hl:acc.length≤900000) (hi:i≤900000) (f:Free0 n0 h) (hn:n0≤h.next) :
  qad Tryz.prog tp (.func (.func 174) #[] #[]) #[v,.int .i64 (i:Nat)] h fun v' h'=>OwnL encS n0 h' v' 77 (extS acc i)∧∀ h0,HX h0 h→h0.next≤n0→HX h0 h':=by
 refine qad.fnL (H.fn 174 f165 rfl rfl) ?_
 refine WL.sr<|WOL.as rfl<|WOL.nil<|keep [(0,_),(1,_)] ⟨rfl,rfl,trivial⟩ ?_
 have push:extS acc i=acc ++ [((i:Int),(i:Int)+1)]→∀ a,Kn [(0,v),(1,.int .i64 (i:Nat))] a→W Tryz.prog tp false (.seq (.reg r165_5) .ret) a h (Fin Tryz.prog [.tmp 4] fun v' h'=>OwnL encS n0 h' v' 77 (extS acc i)∧∀ h0,HX h0 h→h0.next≤n0→HX h0 h'):=by
  intro he
  rw [he]
  refine WL.sr<|WOL.mv rfl<|WOL.mv rfl<|WOL.mv rfl ?_
  refine WOL.bi (v:=.int .i64 ((i+1:Nat):Int)) rfl rfl (by show some (Value.int .i64 (qbm .i64 ((i:Int)+1)))=_;rw [qao (by omega) (by omega)];rfl) ?_
  refine WOL.bd rfl bd48 ?_
  refine WOL.bs2 rfl u44 tp48 fun h4 N4=>?_
  obtain ⟨w5,h5,ap,O5,x5,_,_,_⟩:=own_push (sT:=50) (x:=((i:Int),((i+1:Nat):Int))) eS u44 tp48 (O.hx N4.hx) (SlC.own (sz:=2) (m:=1) rfl N4.at_) (f.hx N4.hx) (by omega) (by have:=N4.hx.next;omega)
  refine WOL.ap rfl rfl ap<|WOL.as rfl<|WOL.nil<|keep [(4,_)] ⟨rfl,trivial⟩ ?_
  exact WL.done rfl ⟨O5,fun h0 a b=>x5 h0 (a.trans N4.hx) b⟩
 refine WL.seq<|WL.sr ?_
 refine WOL.mv rfl ?_
 refine WOL.len rfl (O.sl eS) u44 ?_
 by_cases hne:acc=[]
 ·subst hne
  refine WOL.bi (v:=.int .i64 (-1)) rfl rfl rfl<|WOL.as rfl<|WOL.nil<|keep [(0,_),(1,_),(5,_)] ⟨rfl,rfl,rfl,trivial⟩ ?_
  refine WL.sr<|WOL.mv rfl<|WOL.bi (v:=.bool false) rfl rfl rfl<|WOL.mv rfl ?_
  refine WOL.skp (b:=false) rfl rfl<|WOL.skp (b:=false) rfl rfl<|WOL.skp (b:=false) rfl rfl<|WOL.skp (b:=false) rfl rfl<|WOL.skp (b:=false) rfl rfl<|WOL.skp (b:=false) rfl rfl<|WOL.skp (b:=false) rfl rfl ?_
  refine WOL.pkf rfl rfl<|WOL.nil<|WL.no rfl<|WL.skip ?_
  exact kto (push (by unfold extS;rw [if_neg (fun q=>q.1 rfl)])) ⟨rfl,rfl,trivial⟩
 ·have hm:0 < acc.length:=List.length_pos_iff.2 hne
  have hp:acc[acc.length - 1]?=some acc[acc.length - 1]:=List.getElem?_eq_getElem (by omega)
  have hg:acc.getD (acc.length - 1) (0,0)=acc[acc.length - 1]:=by simp [List.getD,hp]
  generalize acc[acc.length - 1]=p at *
  have O':=O
  rcases O with ⟨_,he0⟩ | ⟨_,bO,rfl,hbO,AO⟩
  ·exact absurd he0 hne
  refine WOL.bi (v:=.int .i64 ((acc.length - 1:Nat):Int)) rfl rfl (by show some (Value.int .i64 (qbm .i64 ((acc.length:Int) - 1)))=_;rw [qao (by omega) (by omega)];congr 2;omega) ?_
  refine WOL.as rfl<|WOL.nil<|keep [(0,_),(1,_),(5,_)] ⟨rfl,rfl,rfl,trivial⟩ ?_
  refine WL.sr<|WOL.mv rfl<|WOL.bi (v:=.bool true) rfl rfl (by show some (Value.bool (decide (((acc.length - 1:Nat):Int) ≥ 0)))=_;rw [decide_eq_true (by omega)])<|WOL.mv rfl ?_
  refine WOL.now (b:=true) rfl rfl<|WOL.mv rfl<|WOL.now (b:=true) rfl rfl<|WOL.mv rfl<|WOL.now (b:=true) rfl rfl ?_
  obtain ⟨b,o,cc,fix,wr,el,e1,e2,e3,e4,e5⟩:=(O'.sl eS).at eS u44 tp48 hp .i64
  refine WOL.ix rfl rfl e1<|WOL.now (b:=true) rfl rfl<|WOL.fa rfl (qaf qcl)<|WOL.now (b:=true) rfl rfl ?_
  refine WOL.ld rfl (qaa tp3 e2 (e5 1 (by decide))) ?_
  refine WOL.now (b:=true) rfl rfl<|WOL.mv rfl<|WOL.now (b:=true) rfl rfl ?_
  refine WOL.bi (v:=.bool (decide (p.2=(i:Int)))) rfl rfl rfl ?_
  refine WOL.pkt rfl rfl<|WOL.nil<|keep [(0,_),(1,_),(5,_),(19,_)] ⟨rfl,rfl,rfl,rfl,trivial⟩ ?_
  by_cases hq:p.2=(i:Int)
  ·rw [decide_eq_true hq]
   have he:extS acc i=acc.set (acc.length - 1) (p.1,((i+1:Nat):Int)):=by unfold extS;rw [hg,if_pos ⟨hne,hq⟩];rfl
   refine WL.yes rfl ?_
   refine WL.sr<|WOL.mv rfl<|WOL.mv rfl ?_
   refine WOL.ix rfl rfl e1<|WOL.fa rfl (qaf qcl) ?_
   refine WOL.ld rfl (qaa tp3 e2 (e5 1 (by decide))) ?_
   refine WOL.bi (v:=.int .i64 ((i+1:Nat):Int)) rfl rfl (by show some (Value.int .i64 (qbm .i64 (p.2+1)))=_;rw [hq,qao (by omega) (by omega)];rfl) ?_
   refine WOL.ix rfl rfl (qbv u44 tp48 (by omega))<|WOL.fa rfl (qaf qcl) ?_
   refine WOL.sto rfl rfl tp3 AO rfl rfl (by rw [eS.cat_len];omega) rfl f hbO fun h4 P4=>?_
   have A4:=P4.at_
   rw [show (0:Nat)+(acc.length - 1)*2+1=(acc.length - 1)*2+1 by omega,show (Value.int .i64 ((i+1:Nat):Int)).cells.toList=[Value.int .i64 ((i+1:Nat):Int)] from rfl,splice_one _ _ _ (by rw [eS.cat_len];omega),set_one _ _ _ _ hp] at A4
   refine WOL.nil<|keep [(0,_)] ⟨rfl,trivial⟩ ?_
   refine WL.sr<|WOL.mv rfl<|WOL.as rfl<|WOL.nil<|keep [(4,_)] ⟨rfl,trivial⟩ ?_
   refine WL.ret ?_
   refine WL.end_ rfl ⟨?_,fun h0 a b=>P4.hx _ a (by omega)⟩
   rw [he]
   exact .inr ⟨fun e=>hne (by simpa using congrArg List.length e),bO,by rw [List.length_set];rfl,hbO,A4⟩
  ·rw [decide_eq_false hq]
   refine WL.no rfl<|WL.skip ?_
   exact kto (push (by unfold extS;rw [hg,if_neg (fun q=>hq q.2)])) ⟨rfl,rfl,trivial⟩
set_option maxHeartbeats 1000000 in
set_option maxRecDepth 10000 in
theorem k140 (H:Has tp) {v:Value} {B:List Bool} {h:TH} (s:SlL encB 1 h v B) (hB:B.length≤900000) (f:Free0 h.next h) :
  qad Tryz.prog tp (.func (.func 147) #[] #[]) #[v] h fun v' h'=>OwnL encS h.next h' v' 77 (qah B)∧HX h h':=by
 refine qad.fnL (H.fn 147 f140 rfl rfl) ?_
 refine WL.sr<|WOL.as rfl<|WOL.nil<|keep [(0,_)] ⟨rfl,trivial⟩ ?_
 refine WL.sr<|WOL.as rfl<|WOL.nil<|keep [(0,_),(3,_)] ⟨rfl,rfl,trivial⟩ ?_
 refine WL.seq<|WL.sr<|WOL.mv rfl<|WOL.len rfl s u145<|WOL.mv rfl<|WOL.nil<|keep [(0,_),(3,_),(6,_),(7,_),(8,_)] ⟨rfl,rfl,rfl,rfl,rfl,trivial⟩ ?_
 refine WL.block ?_
 refine WL.loop (fun k a h2=>∃ (i:Nat) (w:Value),i≤B.length∧k=B.length - i∧HX h h2∧OwnL encS h.next h2 w 77 (qcx B i)∧Kn [(3,w),(6,v),(7,.int .i64 B.length),(8,.int .i64 (i:Nat))] a) B.length (fun a q=>⟨0,_,by omega,by omega,HX.refl h,OwnL.nil,q.sub ⟨rfl,rfl,rfl,rfl,trivial⟩⟩) ?_
 rintro k a h2 ⟨i,w,hi,rfl,X2,O2,q⟩
 refine q.go ?_
 refine WL.sr<|WOL.bi (v:=.bool (decide ((i:Int) < (B.length:Int)))) rfl rfl rfl<|WOL.nil<|keep [(3,_),(6,_),(7,_),(8,_),(9,_)] ⟨rfl,rfl,rfl,rfl,rfl,trivial⟩ ?_
 by_cases hlt:i < B.length
 ·rw [show decide ((i:Int) < (B.length:Int))=true by simpa using hlt]
  refine WL.seq<|WL.yes rfl<|WL.skip ?_
  have hB1:B[i]?=some B[i]:=List.getElem?_eq_getElem hlt
  have hBd:B.getD i false=B[i]:=by simp [List.getD,hB1]
  have hacc:=holesN_len B i
  obtain ⟨b,o,cc,fix,wr,el,e1,e2,e3,e4,e5⟩:=(s.hx X2).at eB u145 tp4 hB1 .i64
  have fin:∀ {Q:Exit→qan→TH→Prop} w' g',HX h g'→OwnL encS h.next g' w' 77 (qcx B (i+1))→∀ a,Kn [(3,w'),(6,v),(7,.int .i64 B.length),(8,.int .i64 (i:Nat))] a→W Tryz.prog tp false (.reg r140_7) a g' (andThen (fun a h2=>∃ q',q' < B.length - i∧∃ (i:Nat) (w:Value),i≤B.length∧q'=B.length - i∧HX h h2∧OwnL encS h.next h2 w 77 (qcx B i)∧Kn [(3,w),(6,v),(7,.int .i64 B.length),(8,.int .i64 (i:Nat))] a) Q):=by
   intro Q
   intro w' g' Y' O'
   refine WL.reg ?_
   refine WOL.bi (v:=.int .i64 ((i+1:Nat):Int)) rfl rfl (by show some (Value.int .i64 (qbm .i64 ((i:Int)+1)))=_;rw [qao (by omega) (by omega)];rfl) ?_
   refine WOL.mv rfl<|WOL.nil ?_
   exact fun a q=>⟨B.length - (i+1),by omega,i+1,_,by omega,rfl,Y',O',q.sub ⟨rfl,rfl,rfl,rfl,trivial⟩⟩
  refine WL.seq<|WL.block ?_
  refine WL.sr<|WOL.mv rfl<|WOL.ix rfl rfl e1 ?_
  refine WOL.ld rfl (qaa tp4 e2 (e5 0 (by decide))) ?_
  refine WOL.as rfl<|WOL.as rfl<|WOL.nil<|keep [(3,_),(4,_),(5,_),(6,_),(7,_),(8,_)] ⟨rfl,rfl,rfl,rfl,rfl,rfl,trivial⟩ ?_
  refine WL.sr<|WOL.mv rfl<|WOL.nt rfl<|WOL.nil<|keep [(3,_),(4,_),(6,_),(7,_),(8,_),(14,_)] ⟨rfl,rfl,rfl,rfl,rfl,rfl,trivial⟩ ?_
  cases hk:B[i] with
  | true =>
   refine WL.no rfl<|WL.skip ?_
   exact fun a q=>fin w h2 X2 (by unfold qcx hstep;rw [if_pos (by rw [hBd];exact hk)];exact O2) a (q.sub ⟨rfl,rfl,rfl,rfl,trivial⟩)
  | false =>
   refine WL.yes rfl<|WL.reg ?_
   refine WOL.mv rfl<|WOL.mv rfl ?_
   refine WOL.cl2 rfl rfl rfl ((k165 H O2 (by omega) (by omega) (f.hx X2) X2.next).mono ?_)
   rintro w' h3 ⟨O3,x3⟩
   refine WOL.as rfl<|WOL.nil ?_
   exact fun a q=>fin w' h3 (x3 h X2 (Nat.le_refl _)) (by unfold qcx;rw [hstep_ext B i (by rw [hBd];exact hk)];exact O3) a (q.sub ⟨rfl,rfl,rfl,rfl,trivial⟩)
 ·rw [show decide ((i:Int) < (B.length:Int))=false by simpa using hlt]
  refine WL.seq<|WL.no rfl<|WL.exit ?_
  obtain rfl:i=B.length:=by omega
  refine WL.sr<|WOL.mv rfl<|WOL.as rfl<|WOL.nil<|keep [(2,_)] ⟨rfl,trivial⟩ ?_
  exact WL.done rfl ⟨O2,X2⟩
theorem bd52' {s:ByteArray} {n:Int} {b1 b2:Option Addr} {l1 c1 l2 c2:Nat}:buildT Tryz.prog 92 [(0,.string s),(1,.int .i64 n),(2,.slice b1 l1 c1),(3,.slice b2 l2 c2)]=some (runV s n (.slice b1 l1 c1) (.slice b2 l2 c2)):=bd52
theorem k89 (H:Has tp) {s:ByteArray} {n:Int} {v:Value} {C:List (Int × Bool)} {h:TH} (sv:SlL encC 2 h v C) (hS:∀ c,c ∈ C→c.1.natAbs≤16384) (hC:C.length≤900000) (f:Free0 h.next h) :
  qad Tryz.prog tp (.func (.func 117) #[] #[]) #[.string s,.int .i64 n,v] h fun v' h'=>∃ w1 w2,v'=runV s n w1 w2∧HX h h'∧RunO h.next h' w1 w2 (C.map fun c=>smp c.1) (qah (C.map fun c=>c.2)):=by
 refine qad.full (H.fn 117 f89 rfl rfl) rfl ?_
 refine W.seq (W.reg (WO.alA tp52 fun h1 N1=>WO.nil ?_))
 refine W.seq (W.reg (WO.mv rfl (WO.cl2 rfl rfl rfl ((k136 H (sv.hx N1.hx) hS (by omega) (f.next N1.hx N1.hx.next)).mono ?_))))
 rintro v2 h2 ⟨b2,rfl,hb2,A2,X2⟩
 refine WO.as rfl (WO.nil ?_)
 have Y2:=N1.hx.trans X2
 refine W.seq (W.reg (WO.mv rfl (WO.cl2 rfl rfl rfl ((k138 H (sv.hx Y2) (by omega) (f.next Y2 Y2.next)).mono ?_))))
 rintro v3 h3 ⟨b3,rfl,hb3,A3,X3⟩
 refine WO.as rfl (WO.nil ?_)
 have Y3:=Y2.trans X3
 have q1:=N1.next
 refine W.seq (W.reg (WO.mv rfl (WO.mv rfl (WO.mv rfl (WO.mv rfl (WO.cl1 rfl rfl ((k140 H (SlL.own eB A3 (by simp)) (by simpa using hC) (f.next Y3 Y3.next)).mono ?_)))))))
 rintro v4 h4 ⟨O4,X4⟩
 have Y4:=Y3.trans X4
 have s4:=O4.sl eS
 have ab4:=O4.above
 obtain ⟨bo4,c4,rfl⟩:=s4.form
 have A1:=((N1.at_.hx X2).hx X3).hx X4
 have s2:SlL encF 1 h4 (.slice (some ⟨b2,0,none⟩) C.length C.length) (C.map fun c=>smp c.1):=SlL.own eF ((A2.hx X3).hx X4) (by simp)
 refine WO.bd rfl bd52' (WO.stA rfl rfl tp52 A1 rfl rfl (Nat.le_of_ble_eq_true rfl) rfl (f.hx Y4) (Nat.le_refl _) fun h5 P5=>WO.nil (W.ret ?_))
 have r4:RunO (h.next+1) h4 (.slice (some ⟨b2,0,none⟩) C.length C.length) (.slice bo4 (qah (C.map fun c=>c.2)).length c4) (C.map fun c=>smp c.1) (qah (C.map fun c=>c.2)):=⟨⟨s2,s4,Fits.of ((A2.hx X3).hx X4) (.inl rfl)⟩,Above.slice (by omega),ab4.le (by have:=Y3.next;have:=X2.next;have:=X3.next;omega)⟩
 exact ⟨.inr rfl,_,res_cell rfl (qab tp52 P5.at_ rfl (Nat.le_of_ble_eq_true rfl)),_,_,rfl,P5.hx _ Y4 (Nat.le_refl _),(r4.away P5 (by omega)).le (by omega)⟩
end Go.Tidy
namespace Go.Tidy
open Go Go.Proofs Tab
variable {tp:TProg}
def SErr (F:List Nat) (es:List Int):Prop:=F.length=es.length∧∀ (i b:Nat) (e:Int),F[i]?=some b→es[i]?=some e→SampleE b e
theorem serr_ex:∀ F:List Nat,∃ es,SErr F es
 | []=>⟨[],rfl,fun i b e h=>by simp at h⟩
 | b::F=>by
  obtain ⟨es,h1,h2⟩:=serr_ex F
  obtain ⟨e,he⟩:=sampleE_ex b
  refine ⟨e::es,by simp [h1],fun i b' e' hb he'=>?_⟩
  cases i with
  | zero=>simp at hb he';subst hb he';exact he
  | succ i=>exact h2 i b' e' (by simpa using hb) (by simpa using he')
theorem qbb:∀ {l:List Int},qae l=0→∀ x,x ∈ l→x=0
  | [],_,_,h=>by cases h
  | y::l,h,x,hx=>by
    unfold qae at h
    by_cases hy:y=0
    · subst hy
      rcases List.mem_cons.1 hx with rfl | hx
      · rfl
      · exact qbb (by simpa using h) x hx
    · have:(y != 0)=true:=by simpa using hy
      rw [this] at h
      exact absurd h hy
theorem firstNZ_skip (l m:List Int) (h:∀ x,x ∈ l→x=0):qae (l ++ m)=qae m:=by
 induction l with
 | nil=>rfl
 | cons x l ih =>
  have:x=0:=h x (by simp)
  subst this
  show qae (l ++ m)=_
  exact ih fun y hy=>h y (by simp [hy])
theorem lev_ex:∀ (F:List Nat) (es:List Int),SErr F es→(∀ e,e ∈ es→e=0)→∃ L,Lev F L
 | [],_,_,_=>⟨[],rfl,fun i b n h=>by simp at h⟩
 | b::F,[],h,_=>by have:=h.1;simp at this
 | b::F,e::es,h,hz=>by
  obtain ⟨L,l1,l2⟩:=lev_ex F es ⟨by have:=h.1;simpa using this,fun i b e hb he=>h.2 (i+1) b e (by simpa using hb) (by simpa using he)⟩ (fun e he=>hz e (by simp [he]))
  have h0:=h.2 0 b e rfl rfl
  obtain rfl:e=0:=hz e (by simp)
  obtain ⟨n,hn⟩:=samp_of h0
  refine ⟨n::L,by simp [l1],fun i b' n' hb hn'=>?_⟩
  cases i with
  | zero=>simp at hb hn';subst hb hn';exact hn
  | succ i=>exact l2 i b' n' (by simpa using hb) (by simpa using hn')
theorem firstNZ_at {l:List Int} {i:Nat} {e:Int} (h:l[i]?=some e) (h0:∀ x,x ∈ l.take i→x=0) (he:e≠0):qae l=e:=by
 have hlt:=(List.getElem?_eq_some_iff.1 h).1
 have hv:=(List.getElem?_eq_some_iff.1 h).2
 rw [← List.take_append_drop i l,firstNZ_skip _ _ h0,List.drop_eq_getElem_cons hlt,hv]
 unfold qae
 have:(e != 0)=true:=by simpa using he
 rw [this];rfl
theorem firstNZ_all {l:List Int} (h0:∀ x,x ∈ l→x=0):qae l=0:=by
 have:=firstNZ_skip l [] h0
 rwa [List.append_nil] at this
theorem take_more {l:List Int} {i:Nat} {e:Int} (h:l[i]?=some e) (h0:∀ x,x ∈ l.take i→x=0) (he:e=0):∀ x,x ∈ l.take (i+1)→x=0:=by
 have hlt:=(List.getElem?_eq_some_iff.1 h).1
 have hv:=(List.getElem?_eq_some_iff.1 h).2
 intro x hx
 rw [← List.take_append_getElem hlt,List.mem_append] at hx
 rcases hx with hx | hx
 ·exact h0 x hx
 ·simp only [List.mem_singleton] at hx
  rw [hx,hv,he]
theorem k144 (H:Has tp) (X:HasX tp) {v:Value} {F:List Nat} {es:List Int} {h:TH} (s:SlL encF 1 h v F) (hE:SErr F es) (hF:F.length≤1000000) :
  qad Tryz.prog tp (.func (.func 165) #[] #[]) #[v,.func (.func 129) #[] #[]] h fun v' h'=>v'=.int .i64 (qae es)∧h'=h:=by
 refine qad.full (H.fn 165 f144 rfl rfl) rfl ?_
 refine W.seq (W.reg (WO.as rfl (WO.nil ?_)))
 refine W.seq (W.seq (W.reg (WO.mv rfl (WO.lenC rfl s u43 (WO.mv rfl (WO.nil ?_))))))
 refine W.block (W.loop (fun k a h2=>h2=h∧∃ i:Nat,i≤F.length∧k=F.length - i∧(∀ x,x ∈ es.take i→x=0)∧qak 21 a∧Tr.get a 1=some (.func (.func 129) #[] #[])∧Tr.get a 8=some v∧Tr.get a 9=some (.int .i64 F.length)∧Tr.get a 10=some (.int .i64 (i:Nat)))
  ?_ F.length _ _ ⟨rfl,0,by omega,by omega,by simp,(by repeat (first | with_reducible refine qak.put ?_ (by decide) _ | with_reducible refine qak.putn ?_ _ | with_reducible exact qak.of _ _ rfl | with_reducible exact qak.start _ _ (Nat.le_of_ble_eq_true rfl) | exact qak.start _ _ (Nat.le_of_ble_eq_true rfl))),rfl,rfl,rfl,rfl⟩)
 rintro k a h2 ⟨rfl,i,hi,rfl,hz,hf,i1,i8,i9,i10⟩
 (obtain ⟨rl0,hrl0,rfl⟩:=hf;obtain ⟨s0,s1,s2,s3,s4,s5,s6,s7,rl1,rfl,hrl1⟩:=qal hrl0;obtain ⟨s8,s9,s10,s11,s12,s13,s14,s15,rl2,rfl,hrl2⟩:=qal hrl1;obtain ⟨s16,rl3,rfl,hrl3⟩:=qaj hrl2;obtain ⟨s17,rl4,rfl,hrl4⟩:=qaj hrl3;obtain ⟨s18,rl5,rfl,hrl5⟩:=qaj hrl4;obtain ⟨s19,rl6,rfl,hrl6⟩:=qaj hrl5;obtain ⟨s20,rl7,rfl,hrl7⟩:=qaj hrl6;obtain rfl:=qcg hrl7;clear hrl0 hrl1 hrl2 hrl3 hrl4 hrl5 hrl6 hrl7;obtain rfl:s1=_:=Option.some.inj (show some s1=some _ from i1);clear i1;obtain rfl:s8=_:=Option.some.inj (show some s8=some _ from i8);clear i8;obtain rfl:s9=_:=Option.some.inj (show some s9=some _ from i9);clear i9;obtain rfl:s10=_:=Option.some.inj (show some s10=some _ from i10);clear i10)
 refine W.seq (W.reg (WO.bi rfl rfl rfl (WO.nil ?_)))
 by_cases hlt:i < F.length
 ·rw [show decide ((i:Int) < (F.length:Int))=true by simpa using hlt]
  refine W.seq (W.cd rfl (OnB.yes (W.skip ?_)))
  have hF1:F[i]?=some F[i]:=List.getElem?_eq_getElem hlt
  have hie:i < es.length:=by rw [← hE.1];exact hlt
  have hE1:es[i]?=some es[i]:=List.getElem?_eq_getElem hie
  obtain ⟨b,o,cc,fix,wr,el,e1,e2,e3,e4,e5⟩:=s.at eF u43 tp25 hF1 .i64
  refine W.seq (W.block (W.seq (W.reg (WO.ix rfl rfl e1 (WO.ld rfl (qaa tp25 e2 (e5 0 (by decide))) (WO.as rfl (WO.nil ?_)))))))
  refine W.seq (W.reg (WO.mv rfl (WO.mv rfl (WO.cl1 rfl rfl ((k21 H X (hE.2 i _ _ hF1 hE1) h2).mono ?_)))))
  rintro v3 h3 ⟨rfl,rfl⟩
  refine WO.as rfl (WO.nil ?_)
  refine W.seq (W.reg (WO.mv rfl (WO.bi rfl rfl rfl (WO.nil ?_))))
  generalize es[i]=e at hE1
  by_cases he:e=0
  ·rw [show (e != 0)=false by simpa using he]
   refine W.cd rfl (OnB.no (W.skip ?_))
   refine W.reg (WO.bi rfl rfl rfl (WO.mv rfl (WO.nil ?_)))
   refine ⟨F.length - (i+1),by omega,rfl,i+1,by omega,rfl,take_more hE1 hz he,(by repeat (first | with_reducible refine qak.put ?_ (by decide) _ | with_reducible refine qak.putn ?_ _ | with_reducible exact qak.of _ _ rfl | with_reducible exact qak.start _ _ (Nat.le_of_ble_eq_true rfl) | exact qak.start _ _ (Nat.le_of_ble_eq_true rfl))),rfl,rfl,rfl,?_⟩
   show some (Value.int .i64 (qbm .i64 ((i:Int)+1)))=_
   rw [qao (by omega) (by omega)]
   rfl
  ·rw [show (e != 0)=true by simpa using he]
   refine W.cd rfl (OnB.yes (W.seq (W.reg (WO.mv rfl (WO.as rfl (WO.nil (W.ret ?_)))))))
   exact ⟨.inr rfl,_,rfl,by rw [firstNZ_at hE1 hz he];rfl,rfl⟩
 ·rw [show decide ((i:Int) < (F.length:Int))=false by simpa using hlt]
  refine W.seq (W.cd rfl (OnB.no (W.exit ?_)))
  obtain rfl:i=F.length:=by omega
  refine W.seq (W.reg (WO.as rfl (WO.nil (W.ret ?_))))
  rw [hE.1,List.take_length] at hz
  exact ⟨.inr rfl,_,rfl,by rw [firstNZ_all hz];rfl,rfl⟩
theorem k99 (H:Has tp) (X:HasX tp) {v:Value} {F:List Nat} {es:List Int} {h:TH} (s:SlL encF 1 h v F) (hE:SErr F es) (hF:F.length≤1000000) :
  qad Tryz.prog tp (.func (.func 126) #[] #[]) #[v] h fun v' h'=>v'=.int .i64 (qae es)∧h'=h:=by
 refine qad.full (H.fn 126 f99 rfl rfl) rfl ?_
 refine W.seq (W.reg (WO.as rfl (WO.nil ?_)))
 refine W.seq (W.reg (WO.mv rfl (WO.cl2 rfl rfl rfl ((k144 H X s hE hF).mono ?_))))
 rintro v3 h3 ⟨rfl,rfl⟩
 exact WO.as rfl (WO.nil (W.ret ⟨.inr rfl,_,rfl,rfl,rfl⟩))
theorem k141 (H:Has tp) {v:Value} {F:List Nat} {es:List Int} {h:TH} (s:SlL encF 1 h v F) (hE:SErr F es) (hF:F.length≤1000000) :
  qad Tryz.prog tp (.func (.func 176) #[] #[]) #[v] h fun v' h'=>v'=.int .i64 (qae es)∧h'=h:=by
 refine qad.full (H.fn 176 f141 rfl rfl) rfl ?_
 refine W.seq (W.reg (WO.as rfl (WO.nil ?_)))
 refine W.seq (W.seq (W.reg (WO.as rfl (WO.nil ?_))))
 refine W.block (W.loop (fun k a h2=>h2=h∧∃ i:Nat,i≤F.length∧k=F.length - i∧(∀ x,x ∈ es.take i→x=0)∧qak 19 a∧Tr.get a 0=some v∧Tr.get a 3=some (.int .i64 (i:Nat)))
  ?_ F.length _ _ ⟨rfl,0,by omega,by omega,by simp,(by repeat (first | with_reducible refine qak.put ?_ (by decide) _ | with_reducible refine qak.putn ?_ _ | with_reducible exact qak.of _ _ rfl | with_reducible exact qak.start _ _ (Nat.le_of_ble_eq_true rfl) | exact qak.start _ _ (Nat.le_of_ble_eq_true rfl))),rfl,rfl⟩)
 rintro k a h2 ⟨rfl,i,hi,rfl,hz,hf,i0,i3⟩
 (obtain ⟨rl0,hrl0,rfl⟩:=hf;obtain ⟨s0,s1,s2,s3,s4,s5,s6,s7,rl1,rfl,hrl1⟩:=qal hrl0;obtain ⟨s8,s9,s10,s11,s12,s13,s14,s15,rl2,rfl,hrl2⟩:=qal hrl1;obtain ⟨s16,rl3,rfl,hrl3⟩:=qaj hrl2;obtain ⟨s17,rl4,rfl,hrl4⟩:=qaj hrl3;obtain ⟨s18,rl5,rfl,hrl5⟩:=qaj hrl4;obtain rfl:=qcg hrl5;clear hrl0 hrl1 hrl2 hrl3 hrl4 hrl5;obtain rfl:s0=_:=Option.some.inj (show some s0=some _ from i0);clear i0;obtain rfl:s3=_:=Option.some.inj (show some s3=some _ from i3);clear i3)
 refine W.seq (W.seq (W.reg (WO.mv rfl (WO.mv rfl (WO.lenC rfl s u43 (WO.bi rfl rfl rfl (WO.nil ?_)))))))
 by_cases hlt:i < F.length
 ·rw [show decide ((i:Int) < (F.length:Int))=true by simpa using hlt]
  refine W.cd rfl (OnB.yes (W.skip ?_))
  have hF1:F[i]?=some F[i]:=List.getElem?_eq_getElem hlt
  have hie:i < es.length:=by rw [← hE.1];exact hlt
  have hE1:es[i]?=some es[i]:=List.getElem?_eq_getElem hie
  obtain ⟨b,o,cc,fix,wr,el,e1,e2,e3,e4,e5⟩:=s.at eF u43 tp25 hF1 .i64
  refine W.seq (W.block (W.seq (W.reg (WO.mv rfl (WO.mv rfl (WO.ix rfl rfl e1 (WO.ld rfl (qaa tp25 e2 (e5 0 (by decide))) (WO.cl1 rfl rfl ((k22 H (hE.2 i _ _ hF1 hE1) h2).mono ?_)))))))))
  rintro v3 h3 ⟨rfl,rfl⟩
  refine WO.as rfl (WO.nil ?_)
  refine W.seq (W.reg (WO.mv rfl (WO.bi rfl rfl rfl (WO.nil ?_))))
  generalize es[i]=e at hE1
  by_cases he:e=0
  ·rw [show (e != 0)=false by simpa using he]
   refine W.cd rfl (OnB.no (W.skip ?_))
   refine W.reg (WO.mv rfl (WO.bi rfl rfl rfl (WO.as rfl (WO.nil ?_))))
   refine ⟨F.length - (i+1),by omega,rfl,i+1,by omega,rfl,take_more hE1 hz he,(by repeat (first | with_reducible refine qak.put ?_ (by decide) _ | with_reducible refine qak.putn ?_ _ | with_reducible exact qak.of _ _ rfl | with_reducible exact qak.start _ _ (Nat.le_of_ble_eq_true rfl) | exact qak.start _ _ (Nat.le_of_ble_eq_true rfl))),rfl,?_⟩
   show some (Value.int .i64 (qbm .i64 ((i:Int)+1)))=_
   rw [qao (by omega) (by omega)]
   rfl
  ·rw [show (e != 0)=true by simpa using he]
   refine W.cd rfl (OnB.yes (W.seq (W.reg (WO.mv rfl (WO.as rfl (WO.nil (W.ret ?_)))))))
   exact ⟨.inr rfl,_,rfl,by rw [firstNZ_at hE1 hz he];rfl,rfl⟩
 ·rw [show decide ((i:Int) < (F.length:Int))=false by simpa using hlt]
  refine W.cd rfl (OnB.no (W.exit ?_))
  obtain rfl:i=F.length:=by omega
  refine W.seq (W.reg (WO.as rfl (WO.nil (W.ret ?_))))
  rw [hE.1,List.take_length] at hz
  exact ⟨.inr rfl,_,rfl,by rw [firstNZ_all hz];rfl,rfl⟩
end Go.Tidy
namespace Go.Tidy
open Go Go.Proofs Tab
variable {tp:TProg}
def badS (m:Nat) (p:Int × Int):Bool:=decide (p.1 < 0) || (decide (p.2≤p.1) || decide ((m:Int) < p.2))
def qay (m:Nat):Int→List (Int × Int)→Int
 | _,[]=>0
 | prev,p::r=>cond (badS m p) 14 (cond (decide (p.1≤prev)) 11 (qay m p.2 r))
theorem qcz (m:Nat) (prev:Int) (p:Int × Int) (r:List (Int × Int)):qay m prev (p::r)=cond (badS m p) 14 (cond (decide (p.1≤prev)) 11 (qay m p.2 r)):=rfl
theorem qct {m:Nat}:∀ {S:List (Int × Int)} {prev:Int},qay m prev S=0→In m S
  | [],_,_=>fun p hp=>by cases hp
  | p::r,prev,h=>by
    unfold qay at h
    cases hb:badS m p with
    | true=>rw [hb] at h;cases h
    | false =>
      rw [hb] at h
      cases hc:decide (p.1≤prev) with
      | true=>rw [hc] at h;cases h
      | false =>
        rw [hc] at h
        have ih:=qct (S:=r) h
        unfold badS at hb
        simp only [Bool.or_eq_false_iff,decide_eq_false_iff_not] at hb
        intro q hq
        rcases List.mem_cons.1 hq with rfl | hq
        · omega
        · exact ih q hq
set_option maxRecDepth 10000 in
theorem k100a (H:Has tp) {v1 v2:Value} {F:List Nat} {S:List (Int × Int)} {h:TH} (r:RunH h v1 v2 F S) (hF:F.length≤1000000) (hS:S.length≤1000000) (f:Free0 h.next h) {a:qan} {Q:Exit→qan→TH→Prop} (hf:qak 73 a)
    (i0:Tr.get a 0=some v1) (i1:Tr.get a 1=some v2) (i5:Tr.get a 5=some (.int .i64 (-1)))
    (q1:∀ a' h',HX h h'→qay F.length (-1) S≠0→Tr.get a' 4=some (.int .i64 (qay F.length (-1) S))→Q .ret a' h')
    (q2:∀ a' h',HX h h'→qay F.length (-1) S=0→qak 73 a'→Tr.get a' 0=some v1→Tr.get a' 1=some v2→Q .normal a' h') :
    W Tryz.prog tp false (.seq (.reg r100_2) (.block 0 (.loop (.seq (.reg r100_3) (.seq (.cond (.tmp 17) .skip (.exit 0)) (.seq (.block 1 (.seq (.reg r100_4) (.seq (.reg r100_5) (.seq (.seq (.reg r100_6) (.cond (.tmp 46) (.seq (.reg r100_7) .ret) .skip)) (.reg r100_8))))) (.reg r100_9))))))) a h Q:=by
  (obtain ⟨rl0,hrl0,rfl⟩:=hf;obtain ⟨s0,s1,s2,s3,s4,s5,s6,s7,rl1,rfl,hrl1⟩:=qal hrl0;obtain ⟨s8,s9,s10,s11,s12,s13,s14,s15,rl2,rfl,hrl2⟩:=qal hrl1;obtain ⟨s16,s17,s18,s19,s20,s21,s22,s23,rl3,rfl,hrl3⟩:=qal hrl2;obtain ⟨s24,s25,s26,s27,s28,s29,s30,s31,rl4,rfl,hrl4⟩:=qal hrl3;obtain ⟨s32,s33,s34,s35,s36,s37,s38,s39,rl5,rfl,hrl5⟩:=qal hrl4;obtain ⟨s40,s41,s42,s43,s44,s45,s46,s47,rl6,rfl,hrl6⟩:=qal hrl5;obtain ⟨s48,s49,s50,s51,s52,s53,s54,s55,rl7,rfl,hrl7⟩:=qal hrl6;obtain ⟨s56,s57,s58,s59,s60,s61,s62,s63,rl8,rfl,hrl8⟩:=qal hrl7;obtain ⟨s64,s65,s66,s67,s68,s69,s70,s71,rl9,rfl,hrl9⟩:=qal hrl8;obtain ⟨s72,rl10,rfl,hrl10⟩:=qaj hrl9;obtain rfl:=qcg hrl10;clear hrl0 hrl1 hrl2 hrl3 hrl4 hrl5 hrl6 hrl7 hrl8 hrl9 hrl10;obtain rfl:s0=_:=Option.some.inj (show some s0=some _ from i0);clear i0;obtain rfl:s1=_:=Option.some.inj (show some s1=some _ from i1);clear i1;obtain rfl:s5=_:=Option.some.inj (show some s5=some _ from i5);clear i5)
  refine W.seq (W.reg (WO.mv rfl (WO.lenC rfl r.s u44 (WO.mv rfl (WO.nil ?_)))))
  refine W.block (W.loop (fun k a h2=>∃ (i:Nat) (prev:Int),i≤S.length∧k=S.length - i∧HX h h2∧qay F.length (-1) S=qay F.length prev (S.drop i)∧qak 73 a∧Tr.get a 0=some s0∧Tr.get a 1=some s1∧Tr.get a 5=some (.int .i64 prev)∧Tr.get a 14=some s1∧Tr.get a 15=some (.int .i64 S.length)∧Tr.get a 16=some (.int .i64 (i:Nat)))
    ?_ S.length _ _ ⟨0,-1,by omega,by omega,HX.refl h,rfl,(by repeat (first | with_reducible refine qak.put ?_ (by decide) _ | with_reducible refine qak.putn ?_ _ | with_reducible exact qak.of _ _ rfl | with_reducible exact qak.start _ _ (Nat.le_of_ble_eq_true rfl) | exact qak.start _ _ (Nat.le_of_ble_eq_true rfl))),rfl,rfl,rfl,rfl,rfl,rfl⟩)
  rintro k a h2 ⟨i,prev,hi,rfl,X2,hE,hf,i0,i1,i5,i14,i15,i16⟩
  (obtain ⟨rl0,hrl0,rfl⟩:=hf;obtain ⟨s0,s1,s2,s3,s4,s5,s6,s7,rl1,rfl,hrl1⟩:=qal hrl0;obtain ⟨s8,s9,s10,s11,s12,s13,s14,s15,rl2,rfl,hrl2⟩:=qal hrl1;obtain ⟨s16,s17,s18,s19,s20,s21,s22,s23,rl3,rfl,hrl3⟩:=qal hrl2;obtain ⟨s24,s25,s26,s27,s28,s29,s30,s31,rl4,rfl,hrl4⟩:=qal hrl3;obtain ⟨s32,s33,s34,s35,s36,s37,s38,s39,rl5,rfl,hrl5⟩:=qal hrl4;obtain ⟨s40,s41,s42,s43,s44,s45,s46,s47,rl6,rfl,hrl6⟩:=qal hrl5;obtain ⟨s48,s49,s50,s51,s52,s53,s54,s55,rl7,rfl,hrl7⟩:=qal hrl6;obtain ⟨s56,s57,s58,s59,s60,s61,s62,s63,rl8,rfl,hrl8⟩:=qal hrl7;obtain ⟨s64,s65,s66,s67,s68,s69,s70,s71,rl9,rfl,hrl9⟩:=qal hrl8;obtain ⟨s72,rl10,rfl,hrl10⟩:=qaj hrl9;obtain rfl:=qcg hrl10;clear hrl0 hrl1 hrl2 hrl3 hrl4 hrl5 hrl6 hrl7 hrl8 hrl9 hrl10;obtain rfl:s0=_:=Option.some.inj (show some s0=some _ from i0);clear i0;obtain rfl:s1=_:=Option.some.inj (show some s1=some _ from i1);clear i1;obtain rfl:s5=_:=Option.some.inj (show some s5=some _ from i5);clear i5;obtain rfl:s14=_:=Option.some.inj (show some s14=some _ from i14);clear i14;obtain rfl:s15=_:=Option.some.inj (show some s15=some _ from i15);clear i15;obtain rfl:s16=_:=Option.some.inj (show some s16=some _ from i16);clear i16)
  refine W.seq (W.reg (WO.bi rfl rfl rfl (WO.nil ?_)))
  by_cases hlt:i < S.length
  · rw [show decide ((i:Int) < (S.length:Int))=true by simpa using hlt]
    refine W.seq (W.cd rfl (OnB.yes (W.skip ?_)))
    have hS1:S[i]?=some S[i]:=List.getElem?_eq_getElem hlt
    have hdrop:S.drop i=S[i]::S.drop (i+1):=List.drop_eq_getElem_cons hlt
    obtain ⟨b,o,cc,fix,wr,el,e1,e2,e3,e4,e5⟩:=(r.s.hx X2).at eS u44 tp48 hS1 .i64
    refine W.seq (W.block (W.seq (W.reg (WO.ix rfl rfl e1 (WO.ld rfl (qab tp48 e2 e4 e3) ?_)))))
    refine WO.alA tp48 fun h3 N3=>WO.stA rfl rfl tp48 N3.at_ rfl rfl (Nat.le_of_ble_eq_true rfl) rfl (f.hx (X2.trans N3.hx)) X2.next fun h4 P4=>WO.nil ?_
    have X4:=P4.hx _ (X2.trans N3.hx) X2.next
    have A4:=P4.at_
    clear e1 e2 e3 e4 e5 hS1
    generalize S[i]=p at *
    obtain ⟨p1,p2⟩:=p
    refine W.seq (W.reg (WO.cut 17 (WO.mono (Q:=fun a' h'=>h'=h4∧qak 73 a'∧Tr.get a' 0=some s0∧Tr.get a' 1=some s14∧Tr.get a' 5=some (.int .i64 prev)∧Tr.get a' 7=some (.pointer (some ⟨h2.next,0,none⟩))∧Tr.get a' 14=some s14∧Tr.get a' 15=some (.int .i64 S.length)∧Tr.get a' 16=some (.int .i64 (i:Nat))∧Tr.get a' 36=some (.bool (badS F.length (p1,p2)))) ?_ ?_)))
    · refine WO.fa rfl (qaf qcq) (WO.ld rfl (qaa tp3 A4 rfl) (WO.bi rfl rfl rfl ?_))
      by_cases c1:p1 < 0
      · rw [show decide ((p1,p2).1 < 0)=true by simpa using c1]
        refine WO.mv rfl (WO.skp (b:=true) rfl rfl (WO.skp (b:=true) rfl rfl (WO.skp (b:=true) rfl rfl (WO.skp (b:=true) rfl rfl (WO.skp (b:=true) rfl rfl (WO.pk rfl rfl rfl (OnB.yes ?_)))))))
        refine WO.mv rfl (WO.skp (b:=true) rfl rfl (WO.skp (b:=true) rfl rfl (WO.skp (b:=true) rfl rfl (WO.skp (b:=true) rfl rfl (WO.skp (b:=true) rfl rfl (WO.pk rfl rfl rfl (OnB.yes (WO.nil ?_))))))))
        refine ⟨rfl,(by repeat (first | with_reducible refine qak.put ?_ (by decide) _ | with_reducible refine qak.putn ?_ _ | with_reducible exact qak.of _ _ rfl | with_reducible exact qak.start _ _ (Nat.le_of_ble_eq_true rfl) | exact qak.start _ _ (Nat.le_of_ble_eq_true rfl))),rfl,rfl,rfl,rfl,rfl,rfl,rfl,?_⟩
        simp [badS,c1]
        rfl
      · rw [show decide ((p1,p2).1 < 0)=false by simpa using c1]
        refine WO.mv rfl (WO.now (b:=false) rfl rfl (WO.fa rfl (qaf qcq) (WO.now (b:=false) rfl rfl (WO.ld rfl (qaa tp3 A4 rfl) (WO.now (b:=false) rfl rfl (WO.fa rfl (qaf qcl) (WO.now (b:=false) rfl rfl (WO.ld rfl (qaa tp3 A4 rfl) (WO.now (b:=false) rfl rfl (WO.bi rfl rfl rfl (WO.pk rfl rfl rfl (OnB.no ?_))))))))))))
        by_cases c2:p2≤p1
        · rw [show decide ((p1,p2).1 ≥ (p1,p2).2)=true by simpa using c2]
          refine WO.mv rfl (WO.skp (b:=true) rfl rfl (WO.skp (b:=true) rfl rfl (WO.skp (b:=true) rfl rfl (WO.skp (b:=true) rfl rfl (WO.skp (b:=true) rfl rfl (WO.pk rfl rfl rfl (OnB.yes (WO.nil ?_))))))))
          refine ⟨rfl,(by repeat (first | with_reducible refine qak.put ?_ (by decide) _ | with_reducible refine qak.putn ?_ _ | with_reducible exact qak.of _ _ rfl | with_reducible exact qak.start _ _ (Nat.le_of_ble_eq_true rfl) | exact qak.start _ _ (Nat.le_of_ble_eq_true rfl))),rfl,rfl,rfl,rfl,rfl,rfl,rfl,?_⟩
          simp [badS,c2]
          rfl
        · rw [show decide ((p1,p2).1 ≥ (p1,p2).2)=false by simpa using c2]
          refine WO.mv rfl (WO.now (b:=false) rfl rfl (WO.fa rfl (qaf qcl) (WO.now (b:=false) rfl rfl (WO.ld rfl (qaa tp3 A4 rfl) (WO.now (b:=false) rfl rfl (WO.mv rfl (WO.now (b:=false) rfl rfl (WO.lenC rfl (r.f.hx X4) u43 (WO.now (b:=false) rfl rfl (WO.bi rfl rfl rfl (WO.pk rfl rfl rfl (OnB.no (WO.nil ?_)))))))))))))
          refine ⟨rfl,(by repeat (first | with_reducible refine qak.put ?_ (by decide) _ | with_reducible refine qak.putn ?_ _ | with_reducible exact qak.of _ _ rfl | with_reducible exact qak.start _ _ (Nat.le_of_ble_eq_true rfl) | exact qak.start _ _ (Nat.le_of_ble_eq_true rfl))),rfl,rfl,rfl,rfl,rfl,rfl,rfl,?_⟩
          show some (Value.bool (decide (p2 > (F.length:Int))))=_
          simp [badS,c1,c2]
    · rintro a' h' ⟨rfl,hf',j0,j1,j5,j7,j14,j15,j16,j36⟩
      (obtain ⟨rl0,hrl0,rfl⟩:=hf';obtain ⟨s0,s1,s2,s3,s4,s5,s6,s7,rl1,rfl,hrl1⟩:=qal hrl0;obtain ⟨s8,s9,s10,s11,s12,s13,s14,s15,rl2,rfl,hrl2⟩:=qal hrl1;obtain ⟨s16,s17,s18,s19,s20,s21,s22,s23,rl3,rfl,hrl3⟩:=qal hrl2;obtain ⟨s24,s25,s26,s27,s28,s29,s30,s31,rl4,rfl,hrl4⟩:=qal hrl3;obtain ⟨s32,s33,s34,s35,s36,s37,s38,s39,rl5,rfl,hrl5⟩:=qal hrl4;obtain ⟨s40,s41,s42,s43,s44,s45,s46,s47,rl6,rfl,hrl6⟩:=qal hrl5;obtain ⟨s48,s49,s50,s51,s52,s53,s54,s55,rl7,rfl,hrl7⟩:=qal hrl6;obtain ⟨s56,s57,s58,s59,s60,s61,s62,s63,rl8,rfl,hrl8⟩:=qal hrl7;obtain ⟨s64,s65,s66,s67,s68,s69,s70,s71,rl9,rfl,hrl9⟩:=qal hrl8;obtain ⟨s72,rl10,rfl,hrl10⟩:=qaj hrl9;obtain rfl:=qcg hrl10;clear hrl0 hrl1 hrl2 hrl3 hrl4 hrl5 hrl6 hrl7 hrl8 hrl9 hrl10;obtain rfl:s0=_:=Option.some.inj (show some s0=some _ from j0);clear j0;obtain rfl:s1=_:=Option.some.inj (show some s1=some _ from j1);clear j1;obtain rfl:s5=_:=Option.some.inj (show some s5=some _ from j5);clear j5;obtain rfl:s7=_:=Option.some.inj (show some s7=some _ from j7);clear j7;obtain rfl:s14=_:=Option.some.inj (show some s14=some _ from j14);clear j14;obtain rfl:s15=_:=Option.some.inj (show some s15=some _ from j15);clear j15;obtain rfl:s16=_:=Option.some.inj (show some s16=some _ from j16);clear j16;obtain rfl:s36=_:=Option.some.inj (show some s36=some _ from j36);clear j36)
      refine WO.fa rfl (qaf qcq) (WO.ld rfl (qaa tp3 A4 rfl) (WO.mv rfl (WO.bi rfl rfl rfl ?_)))
      refine WO.lk2 rfl rfl rfl fun LL=>(k77 H _ _ _).mono ?_
      rintro v5 h5 ⟨rfl,rfl⟩
      rw [TH.relock]
      refine WO.cl2 rfl rfl rfl ((k77 H _ _ _).mono ?_)
      rintro v5 h5 ⟨rfl,rfl⟩
      refine WO.bslA rfl u166 tp30 (by decide) (by decide) (by decide) (qcn _ _) fun h6 N6=>?_
      refine WO.cl1 rfl rfl ((k71 H (l:=[_,_]) N6.at_.get (by simp)).mono ?_)
      rintro v7 h7 ⟨rfl,rfl⟩
      have X6:=X4.trans N6.hx
      refine WO.as rfl (WO.nil ?_)
      have hstep:qay F.length prev ((p1,p2)::S.drop (i+1))=cond (qae [cond (badS F.length (p1,p2)) 14 0,cond (decide (p1≤prev)) 11 0] != 0) (qae [cond (badS F.length (p1,p2)) 14 0,cond (decide (p1≤prev)) 11 0]) (qay F.length p2 (S.drop (i+1))):=by
        rw [qcz]
        show cond (badS F.length (p1,p2)) 14 (cond (decide (p1≤prev)) 11 (qay F.length p2 (S.drop (i+1))))=_
        cases badS F.length (p1,p2) <;> cases decide (p1≤prev) <;> rfl
      rw [hdrop,hstep] at hE
      refine W.seq (W.seq (W.reg (WO.mv rfl (WO.bi rfl rfl rfl (WO.nil ?_)))))
      show W Tryz.prog tp false _ (qan.put _ (some 46) (.bool (qae [cond (badS F.length (p1,p2)) 14 0,cond (decide (p1≤prev)) 11 0] != 0))) _ _
      generalize qae [cond (badS F.length (p1,p2)) 14 0,cond (decide (p1≤prev)) 11 0]=e at *
      by_cases he:e=0
      · rw [show (e != 0)=false by simpa using he] at *
        refine W.cd rfl (OnB.no (W.skip ?_))
        refine W.reg (WO.fa rfl (qaf qcl) (WO.ld rfl (qaa tp3 (A4.hx N6.hx) rfl) (WO.as rfl (WO.nil ?_))))
        refine W.reg (WO.bi rfl rfl rfl (WO.mv rfl (WO.nil ?_)))
        refine ⟨S.length - (i+1),by omega,i+1,p2,by omega,rfl,X6,hE,(by repeat (first | with_reducible refine qak.put ?_ (by decide) _ | with_reducible refine qak.putn ?_ _ | with_reducible exact qak.of _ _ rfl | with_reducible exact qak.start _ _ (Nat.le_of_ble_eq_true rfl) | exact qak.start _ _ (Nat.le_of_ble_eq_true rfl))),rfl,rfl,rfl,rfl,rfl,?_⟩
        show some (Value.int .i64 (qbm .i64 ((i:Int)+1)))=_
        rw [qao (by omega) (by omega)]
        rfl
      · rw [show (e != 0)=true by simpa using he] at *
        refine W.cd rfl (OnB.yes (W.seq (W.reg (WO.mv rfl (WO.as rfl (WO.nil (W.ret ?_)))))))
        rw [Bool.cond_true] at hE
        exact q1 _ _ X6 (by rw [hE];exact he) (by rw [hE];rfl)
  · rw [show decide ((i:Int) < (S.length:Int))=false by simpa using hlt]
    refine W.seq (W.cd rfl (OnB.no (W.exit ?_)))
    obtain rfl:i=S.length:=by omega
    rw [List.drop_length] at hE
    exact q2 _ _ X2 hE (by repeat (first | with_reducible refine qak.put ?_ (by decide) _ | with_reducible refine qak.putn ?_ _ | with_reducible exact qak.of _ _ rfl | with_reducible exact qak.start _ _ (Nat.le_of_ble_eq_true rfl) | exact qak.start _ _ (Nat.le_of_ble_eq_true rfl))) rfl rfl
end Go.Tidy
namespace Go.Tidy
open Go Go.Proofs Tab
variable {tp:TProg}
def qdo (L:List Int) (p:Int × Int):Bool:=((L.drop p.1.toNat).take (p.2.toNat - p.1.toNat)).any (· != 0)
def formE (L:List Int) (S:List (Int × Int)):Int:=cond (S.any (qdo L)) 1 0
theorem zero_samp:Samp 0 0:=by
 have:=(smp_ok (n:=0) (by decide)).2.2
 rwa [smp_zero] at this
theorem WO.fne {P:Program} {a:qan} {h:TH} {K:qan→TH→Prop} {rest:List TOper} {d:Option Tmp} {ty:TypeId} {i:Nat} {x y:Operand} {t u:TypeId} {b:Nat} (hx:qbn a x=some (.float .f32 b)) (hy:qbn a y=some (.float .f32 0))
  (w:∀ r:Bool,(∀ n,Samp b n→r=!decide (n=0))→WO P tp rest (a.put d (.bool r)) h K):WO P tp (⟨d,.binOp .neq t x y u,ty,none,[],i⟩::rest) a h K:=by
 by_cases hb:qcy .f32 b=true
 ·refine WO.fnan hx hy (by rw [hb];rfl) (v:=.bool true) rfl (w true fun n hn=>?_)
  rw [hn.nan] at hb;cases hb
 ·have hb:qcy .f32 b=false:=by simpa using hb
  obtain ⟨r,hr⟩:∃ r,cmpF .neq .f32 b 0=some r:=⟨_,rfl⟩
  refine WO.fcmp hx hy hb (by decide) hr (w r fun n hn=>?_)
  have:=(hn.cmp zero_samp).2
  rw [hr] at this
  exact Option.some.inj this
end Go.Tidy
namespace Go.Tidy
open Go Go.Proofs Tab
variable {tp:TProg}
theorem Lev.part {F:List Nat} {L:List Int} (h:Lev F L) (lo k:Nat):Lev ((F.drop lo).take k) ((L.drop lo).take k):=by
 refine ⟨by simp [h.1],fun i b n hb hn=>?_⟩
 by_cases hi:i < k
 ·rw [List.getElem?_take_of_lt hi,List.getElem?_drop] at hb hn
  exact h.2 _ b n hb hn
 ·rw [List.getElem?_eq_none (by simp;omega)] at hb
  cases hb
theorem Lev.get {F:List Nat} {L:List Int} (h:Lev F L) {i:Nat} {b:Nat} (hb:F[i]?=some b):∃ n,L[i]?=some n∧Samp b n:=by
 have hlt:=(List.getElem?_eq_some_iff.1 hb).1
 have:i < L.length:=by rw [← h.1];exact hlt
 exact ⟨L[i],List.getElem?_eq_getElem this,h.2 i b _ hb (List.getElem?_eq_getElem this)⟩
theorem holeE_lt {m:Nat}:∀ {S:List (Int × Int)} {prev:Int},qay m prev S=0→∀ p,p ∈ S→p.1 < p.2
  | [],_,_=>fun p hp=>by cases hp
  | p::r,prev,h=>by
    rw [qcz] at h
    cases hb:badS m p with
    | true=>rw [hb] at h;cases h
    | false =>
      rw [hb] at h
      cases hc:decide (p.1≤prev) with
      | true=>rw [hc] at h;cases h
      | false =>
        rw [hc] at h
        have ih:=holeE_lt (S:=r) h
        unfold badS at hb
        simp only [Bool.or_eq_false_iff,decide_eq_false_iff_not] at hb
        intro q hq
        rcases List.mem_cons.1 hq with rfl | hq
        · omega
        · exact ih q hq
theorem k99in (H:Has tp) {w:Value} {G:List Nat} {h:TH} (s:SlL encF 1 h w G) (hG:G.length≤1000000) {a:qan} {Q:Exit→qan→TH→Prop} (hf:qak 73 a) {x0 x1 x51 x52 x53:Value}
  (i0:Tr.get a 0=some x0) (i9:Tr.get a 9=some (.float .f32 0)) (i51:Tr.get a 51=some x51) (i52:Tr.get a 52=some x52) (i53:Tr.get a 53=some x53) (i62:Tr.get a 62=some w) (i63:Tr.get a 63=some (.int .i64 G.length)) (i64:Tr.get a 64=some (.int .i64 0))
  (q1:∀ a',(∀ L,Lev G L→L.any (· != 0)=true)→Tr.get a' 4=some (.int .i64 1)→Q .ret a' h)
  (q2:∀ a',(∀ L,Lev G L→L.any (· != 0)=false)→qak 73 a'→Tr.get a' 0=some x0→Tr.get a' 9=some (.float .f32 0)→Tr.get a' 51=some x51→Tr.get a' 52=some x52→Tr.get a' 53=some x53→Q .normal a' h) :
  W Tryz.prog tp false (.block 4 (.loop (.seq (.reg r100_15) (.seq (.cond (.tmp 65) .skip (.exit 4)) (.seq (.block 5 (.seq (.reg r100_16) (.seq (.reg r100_17) (.cond (.tmp 70) (.seq (.reg r100_18) .ret) .skip)))) (.reg r100_19)))))) a h Q:=by
 refine W.block (W.loop (fun k a h2=>h2=h∧∃ j:Nat,j≤G.length∧k=G.length - j∧(∀ L,Lev G L→(L.take j).any (· != 0)=false)∧qak 73 a∧Tr.get a 0=some x0∧Tr.get a 9=some (.float .f32 0)∧Tr.get a 51=some x51∧Tr.get a 52=some x52∧Tr.get a 53=some x53∧Tr.get a 62=some w∧Tr.get a 63=some (.int .i64 G.length)∧Tr.get a 64=some (.int .i64 (j:Nat)))
  ?_ G.length _ _ ⟨rfl,0,by omega,by omega,fun L _=>by simp,hf,i0,i9,i51,i52,i53,i62,i63,i64⟩)
 clear hf i0 i9 i51 i52 i53 i62 i63 i64
 rintro k a h2 ⟨rfl,j,hj,rfl,hz,hf,i0,i9,i51,i52,i53,i62,i63,i64⟩
 (obtain ⟨rl0,hrl0,rfl⟩:=hf;obtain ⟨s0,s1,s2,s3,s4,s5,s6,s7,rl1,rfl,hrl1⟩:=qal hrl0;obtain ⟨s8,s9,s10,s11,s12,s13,s14,s15,rl2,rfl,hrl2⟩:=qal hrl1;obtain ⟨s16,s17,s18,s19,s20,s21,s22,s23,rl3,rfl,hrl3⟩:=qal hrl2;obtain ⟨s24,s25,s26,s27,s28,s29,s30,s31,rl4,rfl,hrl4⟩:=qal hrl3;obtain ⟨s32,s33,s34,s35,s36,s37,s38,s39,rl5,rfl,hrl5⟩:=qal hrl4;obtain ⟨s40,s41,s42,s43,s44,s45,s46,s47,rl6,rfl,hrl6⟩:=qal hrl5;obtain ⟨s48,s49,s50,s51,s52,s53,s54,s55,rl7,rfl,hrl7⟩:=qal hrl6;obtain ⟨s56,s57,s58,s59,s60,s61,s62,s63,rl8,rfl,hrl8⟩:=qal hrl7;obtain ⟨s64,s65,s66,s67,s68,s69,s70,s71,rl9,rfl,hrl9⟩:=qal hrl8;obtain ⟨s72,rl10,rfl,hrl10⟩:=qaj hrl9;obtain rfl:=qcg hrl10;clear hrl0 hrl1 hrl2 hrl3 hrl4 hrl5 hrl6 hrl7 hrl8 hrl9 hrl10;obtain rfl:s0=_:=Option.some.inj (show some s0=some _ from i0);clear i0;obtain rfl:s9=_:=Option.some.inj (show some s9=some _ from i9);clear i9;obtain rfl:s51=_:=Option.some.inj (show some s51=some _ from i51);clear i51;obtain rfl:s52=_:=Option.some.inj (show some s52=some _ from i52);clear i52;obtain rfl:s53=_:=Option.some.inj (show some s53=some _ from i53);clear i53;obtain rfl:s62=_:=Option.some.inj (show some s62=some _ from i62);clear i62;obtain rfl:s63=_:=Option.some.inj (show some s63=some _ from i63);clear i63;obtain rfl:s64=_:=Option.some.inj (show some s64=some _ from i64);clear i64)
 refine W.seq (W.reg (WO.bi rfl rfl rfl (WO.nil ?_)))
 by_cases hlt:j < G.length
 ·rw [show decide ((j:Int) < (G.length:Int))=true by simpa using hlt]
  refine W.seq (W.cd rfl (OnB.yes (W.skip ?_)))
  have hG1:G[j]?=some G[j]:=List.getElem?_eq_getElem hlt
  obtain ⟨b,o,cc,fix,wr,el,e1,e2,e3,e4,e5⟩:=s.at eF u43 tp25 hG1 .i64
  refine W.seq (W.block (W.seq (W.reg (WO.ix rfl rfl e1 (WO.ld rfl (qaa tp25 e2 (e5 0 (by decide))) (WO.as rfl (WO.nil ?_)))))))
  refine W.seq (W.reg (WO.mv rfl (WO.mv rfl (WO.fne rfl rfl fun q hq=>WO.nil ?_))))
  have step:∀ L,Lev G L→(L.take (j+1)).any (· != 0)=q:=fun L hL=>by
   obtain ⟨n,hn,hs⟩:=hL.get hG1
   have hlt':=(List.getElem?_eq_some_iff.1 hn).1
   have hv:=(List.getElem?_eq_some_iff.1 hn).2
   rw [← List.take_append_getElem hlt',List.any_append,hz L hL,hv,hq n hs]
   simp [bne]
   by_cases h0:n=0 <;> simp [h0]
  cases q with
  | true =>
   refine W.cd rfl (OnB.yes (W.seq (W.reg (WO.as rfl (WO.nil (W.ret ?_))))))
   refine q1 _ (fun L hL=>?_) rfl
   rw [← List.take_append_drop (j+1) L,List.any_append,step L hL];rfl
  | false =>
   refine W.cd rfl (OnB.no (W.skip ?_))
   refine W.reg (WO.bi rfl rfl rfl (WO.mv rfl (WO.nil ?_)))
   refine ⟨G.length - (j+1),by omega,rfl,j+1,by omega,rfl,step,(by repeat (first | with_reducible refine qak.put ?_ (by decide) _ | with_reducible refine qak.putn ?_ _ | with_reducible exact qak.of _ _ rfl | with_reducible exact qak.start _ _ (Nat.le_of_ble_eq_true rfl) | exact qak.start _ _ (Nat.le_of_ble_eq_true rfl))),rfl,rfl,rfl,rfl,rfl,rfl,rfl,?_⟩
   show some (Value.int .i64 (qbm .i64 ((j:Int)+1)))=_
   rw [qao (by omega) (by omega)]
   rfl
 ·rw [show decide ((j:Int) < (G.length:Int))=false by simpa using hlt]
  refine W.seq (W.cd rfl (OnB.no (W.exit ?_)))
  obtain rfl:j=G.length:=by omega
  refine q2 _ (fun L hL=>?_) (by repeat (first | with_reducible refine qak.put ?_ (by decide) _ | with_reducible refine qak.putn ?_ _ | with_reducible exact qak.of _ _ rfl | with_reducible exact qak.start _ _ (Nat.le_of_ble_eq_true rfl) | exact qak.start _ _ (Nat.le_of_ble_eq_true rfl))) rfl rfl rfl rfl rfl
  have:=hz L hL
  rwa [hL.1,List.take_length] at this
end Go.Tidy
namespace Go.Tidy
open Go Go.Proofs Tab
variable {tp:TProg}
theorem res_tmp {P:Program} {a:qan} {h:TH} {t:Nat} {v:Value} (hv:Tr.get a t=some v):qbc P [.tmp t] a h=some [v]:=by
 simp [qbc,qan.at_,hv]
set_option maxRecDepth 100000 in
theorem k100b (H:Has tp) {v1 v2:Value} {F:List Nat} {S:List (Int × Int)} {h:TH} (r:RunH h v1 v2 F S) (hF:F.length≤1000000) (hS:S.length≤1000000) (f:Free0 h.next h) (hin:In F.length S) (hlt0:∀ p,p ∈ S→p.1 < p.2) {n0:Nat} {h1:TH} (X1:HX h h1) {a:qan} {Q:Exit→qan→TH→Prop} (hf:qak 73 a)
    (i0:Tr.get a 0=some v1) (i1:Tr.get a 1=some v2) (i9:Tr.get a 9=some (.float .f32 0))
    (q1:∀ a' h',HX h h'→(∀ L,Lev F L→S.any (qdo L)=true)→Tr.get a' 4=some (.int .i64 1)→Q .ret a' h')
    (q2:∀ a' h',HX h h'→(∀ L,Lev F L→S.any (qdo L)=false)→qak 73 a'→Q .normal a' h') :
    W Tryz.prog tp false (.seq (.reg r100_11) (.block 2 (.loop (.seq (.reg r100_12) (.seq (.cond (.tmp 54) .skip (.exit 2)) (.seq (.block 3 (.seq (.reg r100_13) (.seq (.reg r100_14) (.block 4 (.loop (.seq (.reg r100_15) (.seq (.cond (.tmp 65) .skip (.exit 4)) (.seq (.block 5 (.seq (.reg r100_16) (.seq (.reg r100_17) (.cond (.tmp 70) (.seq (.reg r100_18) .ret) .skip)))) (.reg r100_19))))))))) (.reg r100_20))))))) a h1 Q:=by
  (obtain ⟨rl0,hrl0,rfl⟩:=hf;obtain ⟨s0,s1,s2,s3,s4,s5,s6,s7,rl1,rfl,hrl1⟩:=qal hrl0;obtain ⟨s8,s9,s10,s11,s12,s13,s14,s15,rl2,rfl,hrl2⟩:=qal hrl1;obtain ⟨s16,s17,s18,s19,s20,s21,s22,s23,rl3,rfl,hrl3⟩:=qal hrl2;obtain ⟨s24,s25,s26,s27,s28,s29,s30,s31,rl4,rfl,hrl4⟩:=qal hrl3;obtain ⟨s32,s33,s34,s35,s36,s37,s38,s39,rl5,rfl,hrl5⟩:=qal hrl4;obtain ⟨s40,s41,s42,s43,s44,s45,s46,s47,rl6,rfl,hrl6⟩:=qal hrl5;obtain ⟨s48,s49,s50,s51,s52,s53,s54,s55,rl7,rfl,hrl7⟩:=qal hrl6;obtain ⟨s56,s57,s58,s59,s60,s61,s62,s63,rl8,rfl,hrl8⟩:=qal hrl7;obtain ⟨s64,s65,s66,s67,s68,s69,s70,s71,rl9,rfl,hrl9⟩:=qal hrl8;obtain ⟨s72,rl10,rfl,hrl10⟩:=qaj hrl9;obtain rfl:=qcg hrl10;clear hrl0 hrl1 hrl2 hrl3 hrl4 hrl5 hrl6 hrl7 hrl8 hrl9 hrl10;obtain rfl:s0=_:=Option.some.inj (show some s0=some _ from i0);clear i0;obtain rfl:s1=_:=Option.some.inj (show some s1=some _ from i1);clear i1;obtain rfl:s9=_:=Option.some.inj (show some s9=some _ from i9);clear i9)
  refine W.seq (W.reg (WO.mv rfl (WO.lenC rfl (r.s.hx X1) u44 (WO.mv rfl (WO.nil ?_)))))
  refine W.block (W.loop (fun k a h2=>∃ (i:Nat),i≤S.length∧k=S.length - i∧HX h h2∧(∀ L,Lev F L→(S.take i).any (qdo L)=false)∧qak 73 a∧Tr.get a 0=some s0∧Tr.get a 9=some (.float .f32 0)∧Tr.get a 51=some s1∧Tr.get a 52=some (.int .i64 S.length)∧Tr.get a 53=some (.int .i64 (i:Nat)))
    ?_ S.length _ _ ⟨0,by omega,by omega,X1,fun L _=>by simp,(by repeat (first | with_reducible refine qak.put ?_ (by decide) _ | with_reducible refine qak.putn ?_ _ | with_reducible exact qak.of _ _ rfl | with_reducible exact qak.start _ _ (Nat.le_of_ble_eq_true rfl) | exact qak.start _ _ (Nat.le_of_ble_eq_true rfl))),rfl,rfl,rfl,rfl,rfl⟩)
  rintro k a h2 ⟨i,hi,rfl,X2,hz,hf,i0,i9,i51,i52,i53⟩
  (obtain ⟨rl0,hrl0,rfl⟩:=hf;obtain ⟨s0,s1,s2,s3,s4,s5,s6,s7,rl1,rfl,hrl1⟩:=qal hrl0;obtain ⟨s8,s9,s10,s11,s12,s13,s14,s15,rl2,rfl,hrl2⟩:=qal hrl1;obtain ⟨s16,s17,s18,s19,s20,s21,s22,s23,rl3,rfl,hrl3⟩:=qal hrl2;obtain ⟨s24,s25,s26,s27,s28,s29,s30,s31,rl4,rfl,hrl4⟩:=qal hrl3;obtain ⟨s32,s33,s34,s35,s36,s37,s38,s39,rl5,rfl,hrl5⟩:=qal hrl4;obtain ⟨s40,s41,s42,s43,s44,s45,s46,s47,rl6,rfl,hrl6⟩:=qal hrl5;obtain ⟨s48,s49,s50,s51,s52,s53,s54,s55,rl7,rfl,hrl7⟩:=qal hrl6;obtain ⟨s56,s57,s58,s59,s60,s61,s62,s63,rl8,rfl,hrl8⟩:=qal hrl7;obtain ⟨s64,s65,s66,s67,s68,s69,s70,s71,rl9,rfl,hrl9⟩:=qal hrl8;obtain ⟨s72,rl10,rfl,hrl10⟩:=qaj hrl9;obtain rfl:=qcg hrl10;clear hrl0 hrl1 hrl2 hrl3 hrl4 hrl5 hrl6 hrl7 hrl8 hrl9 hrl10;obtain rfl:s0=_:=Option.some.inj (show some s0=some _ from i0);clear i0;obtain rfl:s9=_:=Option.some.inj (show some s9=some _ from i9);clear i9;obtain rfl:s51=_:=Option.some.inj (show some s51=some _ from i51);clear i51;obtain rfl:s52=_:=Option.some.inj (show some s52=some _ from i52);clear i52;obtain rfl:s53=_:=Option.some.inj (show some s53=some _ from i53);clear i53)
  refine W.seq (W.reg (WO.bi rfl rfl rfl (WO.nil ?_)))
  by_cases hlt:i < S.length
  · rw [show decide ((i:Int) < (S.length:Int))=true by simpa using hlt]
    refine W.seq (W.cd rfl (OnB.yes (W.skip ?_)))
    have hS1:S[i]?=some S[i]:=List.getElem?_eq_getElem hlt
    obtain ⟨g1,g2,g3⟩:=hin S[i] (List.getElem_mem hlt)
    have g4:=hlt0 S[i] (List.getElem_mem hlt)
    have hany:∀ L,(S.take (i+1)).any (qdo L)=((S.take i).any (qdo L) || qdo L S[i]):=fun L=>by
      rw [← List.take_append_getElem hlt,List.any_append];simp
    obtain ⟨b,o,cc,fix,wr,el,e1,e2,e3,e4,e5⟩:=(r.s.hx X2).at eS u44 tp48 hS1 .i64
    refine W.seq (W.block (W.seq (W.reg (WO.ix rfl rfl e1 (WO.ld rfl (qab tp48 e2 e4 e3) ?_)))))
    refine WO.alA tp48 fun h3 N3=>WO.stA rfl rfl tp48 N3.at_ rfl rfl (Nat.le_of_ble_eq_true rfl) rfl (f.hx (X2.trans N3.hx)) X2.next fun h4 P4=>WO.nil ?_
    have X4:=P4.hx _ (X2.trans N3.hx) X2.next
    have A4:=P4.at_
    clear e1 e2 e3 e4 e5 hS1
    have hmem:S[i] ∈ S:=List.getElem_mem hlt
    generalize S[i]=p at *
    obtain ⟨p1,p2⟩:=p
    obtain ⟨lo,rfl⟩:=Int.eq_ofNat_of_zero_le g1
    obtain ⟨hh,rfl⟩:=Int.eq_ofNat_of_zero_le (Int.le_trans g1 g2)
    have g4':lo < hh:=Int.ofNat_lt.1 g4
    have g3':hh≤F.length:=Int.ofNat_le.1 g3
    have sF:=r.f.hx X4
    have gF:=r.g.hx X4
    obtain ⟨w,w1,w2,w3⟩:=sliceT_C (k:=.i64) (k':=.i64) (lo:=lo) (hi:=hh) u43 tp25 sF (by omega) g3' (fun b off cap cc fix wr el hv hg=>by
      obtain ⟨cc',fix',wr',el',k1,k2⟩:=gF b off _ cap hv
      rw [k1.get] at hg
      cases hg
      exact k2)
    rcases w3 with ⟨_,_,_,w3⟩ | ⟨b',off',cap',rfl,rfl⟩
    · omega
    refine W.seq (W.reg (WO.mv rfl (WO.fa rfl (qaf qcq) (WO.ld rfl (qaa tp3 A4 rfl) (WO.fa rfl (qaf qcl) (WO.ld rfl (qaa tp3 A4 rfl) (WO.sl rfl rfl rfl w1 ?_)))))))
    have sG:SlL encF 1 h4 (.slice (some ⟨b',off'+lo*1,none⟩) (hh - lo) (cap' - lo)) ((F.drop lo).take (hh - lo)):=by
      have hl:((F.drop lo).take (hh - lo)).length=hh - lo:=by simp;omega
      rw [eF.part] at w2
      unfold SlL
      rw [hl]
      exact w2
    have hGl:((F.drop lo).take (hh - lo)).length=hh - lo:=by simp;omega
    refine WO.lenC rfl w2 u43 (WO.mv rfl (WO.nil ?_))
    have hpart:∀ L,Lev F L→Lev ((F.drop lo).take (hh - lo)) ((L.drop lo).take (hh - lo)):=fun L hL=>hL.part lo (hh - lo)
    have hval:∀ L,qdo L ((lo:Int),(hh:Int))=((L.drop lo).take (hh - lo)).any (· != 0):=fun L=>rfl
    refine k99in H sG (by omega) (by repeat (first | with_reducible refine qak.put ?_ (by decide) _ | with_reducible refine qak.putn ?_ _ | with_reducible exact qak.of _ _ rfl | with_reducible exact qak.start _ _ (Nat.le_of_ble_eq_true rfl) | exact qak.start _ _ (Nat.le_of_ble_eq_true rfl))) (x0:=.slice (some ⟨b',off',none⟩) F.length cap') (x1:=undef) (x51:=s51) (x52:=.int .i64 S.length) (x53:=.int .i64 (i:Nat)) rfl rfl rfl rfl rfl rfl (by rw [hGl];rfl) rfl (fun a' ha h4'=>?_) (fun a' ha hf' j0 j9 j51 j52 j53=>?_)
    · exact q1 _ _ X4 (fun L hL=>List.any_eq_true.2 ⟨_,hmem,by rw [hval];exact ha _ (hpart L hL)⟩) h4'
    · (obtain ⟨rl0,hrl0,rfl⟩:=hf';obtain ⟨s0,s1,s2,s3,s4,s5,s6,s7,rl1,rfl,hrl1⟩:=qal hrl0;obtain ⟨s8,s9,s10,s11,s12,s13,s14,s15,rl2,rfl,hrl2⟩:=qal hrl1;obtain ⟨s16,s17,s18,s19,s20,s21,s22,s23,rl3,rfl,hrl3⟩:=qal hrl2;obtain ⟨s24,s25,s26,s27,s28,s29,s30,s31,rl4,rfl,hrl4⟩:=qal hrl3;obtain ⟨s32,s33,s34,s35,s36,s37,s38,s39,rl5,rfl,hrl5⟩:=qal hrl4;obtain ⟨s40,s41,s42,s43,s44,s45,s46,s47,rl6,rfl,hrl6⟩:=qal hrl5;obtain ⟨s48,s49,s50,s51,s52,s53,s54,s55,rl7,rfl,hrl7⟩:=qal hrl6;obtain ⟨s56,s57,s58,s59,s60,s61,s62,s63,rl8,rfl,hrl8⟩:=qal hrl7;obtain ⟨s64,s65,s66,s67,s68,s69,s70,s71,rl9,rfl,hrl9⟩:=qal hrl8;obtain ⟨s72,rl10,rfl,hrl10⟩:=qaj hrl9;obtain rfl:=qcg hrl10;clear hrl0 hrl1 hrl2 hrl3 hrl4 hrl5 hrl6 hrl7 hrl8 hrl9 hrl10;obtain rfl:s0=_:=Option.some.inj (show some s0=some _ from j0);clear j0;obtain rfl:s9=_:=Option.some.inj (show some s9=some _ from j9);clear j9;obtain rfl:s51=_:=Option.some.inj (show some s51=some _ from j51);clear j51;obtain rfl:s52=_:=Option.some.inj (show some s52=some _ from j52);clear j52;obtain rfl:s53=_:=Option.some.inj (show some s53=some _ from j53);clear j53)
      refine W.reg (WO.bi rfl rfl rfl (WO.mv rfl (WO.nil ?_)))
      refine ⟨S.length - (i+1),by omega,i+1,by omega,rfl,X4,fun L hL=>?_,(by repeat (first | with_reducible refine qak.put ?_ (by decide) _ | with_reducible refine qak.putn ?_ _ | with_reducible exact qak.of _ _ rfl | with_reducible exact qak.start _ _ (Nat.le_of_ble_eq_true rfl) | exact qak.start _ _ (Nat.le_of_ble_eq_true rfl))),rfl,rfl,rfl,rfl,?_⟩
      · rw [hany,hz L hL,hval,ha _ (hpart L hL)];rfl
      · show some (Value.int .i64 (qbm .i64 ((i:Int)+1)))=_
        rw [qao (by omega) (by omega)]
        rfl
  · rw [show decide ((i:Int) < (S.length:Int))=false by simpa using hlt]
    refine W.seq (W.cd rfl (OnB.no (W.exit ?_)))
    obtain rfl:i=S.length:=by omega
    refine q2 _ _ X2 (fun L hL=>?_) (by repeat (first | with_reducible refine qak.put ?_ (by decide) _ | with_reducible refine qak.putn ?_ _ | with_reducible exact qak.of _ _ rfl | with_reducible exact qak.start _ _ (Nat.le_of_ble_eq_true rfl) | exact qak.start _ _ (Nat.le_of_ble_eq_true rfl)))
    have:=hz L hL
    rwa [List.take_length] at this
theorem k100 (H:Has tp) {v1 v2:Value} {F:List Nat} {S:List (Int × Int)} {h:TH} (r:RunH h v1 v2 F S) (hF:F.length≤1000000) (hS:S.length≤1000000) (f:Free0 h.next h) :
  qad Tryz.prog tp (.func (.func 153) #[] #[]) #[v1,v2] h fun v h'=>HX h h'∧∃ e:Int,v=.int .i64 e∧(∀ L,Lev F L→e=cond (qay F.length (-1) S != 0) (qay F.length (-1) S) (formE L S)):=by
 refine qad.full (H.fn 153 f100 rfl rfl) rfl ?_
 refine W.seq (W.reg (WO.as rfl (WO.nil ?_)))
 refine W.seq (W.reg (WO.as rfl (WO.nil ?_)))
 refine W.seq (k100a H r hF hS f (by repeat (first | with_reducible refine qak.put ?_ (by decide) _ | with_reducible refine qak.putn ?_ _ | with_reducible exact qak.of _ _ rfl | with_reducible exact qak.start _ _ (Nat.le_of_ble_eq_true rfl) | exact qak.start _ _ (Nat.le_of_ble_eq_true rfl))) rfl rfl rfl (fun a' h' X he h4=>?_) (fun a' h' X he hf j0 j1=>?_))
 ·have hb:(qay F.length (-1) S != 0)=true:=by simpa using he
  generalize qay F.length (-1) S=e at *
  exact ⟨.inr rfl,[.int .i64 e],res_tmp h4,X,e,rfl,fun L _=>by rw [hb];rfl⟩
 ·have hin:=qct he
  have hlt:=holeE_lt he
  (obtain ⟨rl0,hrl0,rfl⟩:=hf;obtain ⟨s0,s1,s2,s3,s4,s5,s6,s7,rl1,rfl,hrl1⟩:=qal hrl0;obtain ⟨s8,s9,s10,s11,s12,s13,s14,s15,rl2,rfl,hrl2⟩:=qal hrl1;obtain ⟨s16,s17,s18,s19,s20,s21,s22,s23,rl3,rfl,hrl3⟩:=qal hrl2;obtain ⟨s24,s25,s26,s27,s28,s29,s30,s31,rl4,rfl,hrl4⟩:=qal hrl3;obtain ⟨s32,s33,s34,s35,s36,s37,s38,s39,rl5,rfl,hrl5⟩:=qal hrl4;obtain ⟨s40,s41,s42,s43,s44,s45,s46,s47,rl6,rfl,hrl6⟩:=qal hrl5;obtain ⟨s48,s49,s50,s51,s52,s53,s54,s55,rl7,rfl,hrl7⟩:=qal hrl6;obtain ⟨s56,s57,s58,s59,s60,s61,s62,s63,rl8,rfl,hrl8⟩:=qal hrl7;obtain ⟨s64,s65,s66,s67,s68,s69,s70,s71,rl9,rfl,hrl9⟩:=qal hrl8;obtain ⟨s72,rl10,rfl,hrl10⟩:=qaj hrl9;obtain rfl:=qcg hrl10;clear hrl0 hrl1 hrl2 hrl3 hrl4 hrl5 hrl6 hrl7 hrl8 hrl9 hrl10;obtain rfl:s0=_:=Option.some.inj (show some s0=some _ from j0);clear j0;obtain rfl:s1=_:=Option.some.inj (show some s1=some _ from j1);clear j1)
  refine W.seq (W.reg (WO.as rfl (WO.nil ?_)))
  refine W.seq (k100b H r hF hS f hin hlt (n0:=0) X (by repeat (first | with_reducible refine qak.put ?_ (by decide) _ | with_reducible refine qak.putn ?_ _ | with_reducible exact qak.of _ _ rfl | with_reducible exact qak.start _ _ (Nat.le_of_ble_eq_true rfl) | exact qak.start _ _ (Nat.le_of_ble_eq_true rfl))) rfl rfl rfl (fun a' h' X' ha h4=>?_) (fun a' h' X' ha hf'=>?_))
  ·refine ⟨.inr rfl,[.int .i64 1],res_tmp h4,X',1,rfl,fun L hL=>?_⟩
   rw [he];unfold formE;rw [ha L hL];rfl
  ·(obtain ⟨rl0,hrl0,rfl⟩:=hf';obtain ⟨s0,s1,s2,s3,s4,s5,s6,s7,rl1,rfl,hrl1⟩:=qal hrl0;obtain ⟨s8,s9,s10,s11,s12,s13,s14,s15,rl2,rfl,hrl2⟩:=qal hrl1;obtain ⟨s16,s17,s18,s19,s20,s21,s22,s23,rl3,rfl,hrl3⟩:=qal hrl2;obtain ⟨s24,s25,s26,s27,s28,s29,s30,s31,rl4,rfl,hrl4⟩:=qal hrl3;obtain ⟨s32,s33,s34,s35,s36,s37,s38,s39,rl5,rfl,hrl5⟩:=qal hrl4;obtain ⟨s40,s41,s42,s43,s44,s45,s46,s47,rl6,rfl,hrl6⟩:=qal hrl5;obtain ⟨s48,s49,s50,s51,s52,s53,s54,s55,rl7,rfl,hrl7⟩:=qal hrl6;obtain ⟨s56,s57,s58,s59,s60,s61,s62,s63,rl8,rfl,hrl8⟩:=qal hrl7;obtain ⟨s64,s65,s66,s67,s68,s69,s70,s71,rl9,rfl,hrl9⟩:=qal hrl8;obtain ⟨s72,rl10,rfl,hrl10⟩:=qaj hrl9;obtain rfl:=qcg hrl10;clear hrl0 hrl1 hrl2 hrl3 hrl4 hrl5 hrl6 hrl7 hrl8 hrl9 hrl10)
   refine W.seq (W.reg (WO.as rfl (WO.nil (W.ret ?_))))
   refine ⟨.inr rfl,_,rfl,X',0,rfl,fun L hL=>?_⟩
   rw [he];unfold formE;rw [ha L hL];rfl
end Go.Tidy
namespace Go.Tidy
open Go Go.Proofs Tab
variable {tp:TProg}
def headE (s:ByteArray) (n:Int) (m:Nat):Int:=qae [cond (!nameB s) 8 0,outB n 0 100000000,cond (decide ((m:Int) > 4096)) 5 0]
def tailE (m:Nat) (S:List (Int × Int)) (L:List Int):Int:=cond (qay m (-1) S != 0) (qay m (-1) S) (formE L S)
def runE (s:ByteArray) (n:Int) (m:Nat) (S:List (Int × Int)) (es L:List Int):Int :=
 cond (headE s n m != 0) (headE s n m) (qae [qae es,cond (decide (n+m > 100000000)) 4 0,tailE m S L])
theorem headE_zero {s:ByteArray} {n:Int} {m:Nat} (h:headE s n m=0):nameB s=true∧0≤n∧n≤100000000∧m≤4096:=by
  have hz:=qbb h
  have h1:=hz _ (List.mem_cons_self ..)
  have h2:=hz (outB n 0 100000000) (by simp)
  have h3:=hz (cond (decide ((m:Int) > 4096)) 5 0) (by simp)
  refine ⟨?_,?_⟩
  · cases hb:nameB s with
    | true=>rfl
    | false=>rw [hb] at h1;cases h1
  · unfold outB at h2
    by_cases a1:n < 0
    · rw [decide_eq_true a1] at h2;cases h2
    · by_cases a2:n > 100000000
      · rw [decide_eq_true a2,Bool.or_true] at h2;cases h2
      · by_cases a3:(m:Int) > 4096
        · rw [decide_eq_true a3] at h3;cases h3
        · omega
set_option maxRecDepth 10000 in
theorem k41 (H:Has tp) (X:HasX tp) {s:ByteArray} {n:Int} {v1 v2:Value} {F:List Nat} {S:List (Int × Int)} {es L:List Int} {h:TH} (r:RunH h v1 v2 F S) (hE:SErr F es) (hL:qae es=0→Lev F L) (hF:F.length≤1000000) (hS:S.length≤1000000) (f:Free0 h.next h) :
  qad Tryz.prog tp (.func (.func 109) #[] #[]) #[runV s n v1 v2] h fun v h'=>v=.int .i64 (runE s n F.length S es L)∧HX h h':=by
 refine qad.full (H.fn 109 f41 rfl rfl) rfl ?_
 refine W.seq (W.reg (WO.boxA rfl fun h1 N1=>WO.as rfl (WO.nil ?_)))
 have q1:=N1.next
 have f1:=f.next N1.hx N1.hx.next
 refine W.seq (W.reg (WO.fa rfl (qaf fo52_2) (WO.ld rfl (qaa tp43 N1.at_ rfl) (WO.lenC rfl (r.f.hx N1.hx) u43 (WO.as rfl (WO.nil ?_))))))
 refine W.seq (W.reg (WO.fa rfl (qaf fo52_0) (WO.ld rfl (qaa tp9 N1.at_ rfl) (WO.fa rfl (qaf fo52_1) (WO.ld rfl (qaa tp3 N1.at_ rfl) (WO.mv rfl (WO.bi rfl rfl rfl ?_)))))))
 refine WO.lq1 [h.next] rfl rfl rfl fun LL hLL=>(k16 H s (h1.withLock LL) (f1.held hLL (by simp;omega))).mono ?_
 rintro v2' h2 ⟨rfl,X2⟩
 have X2:=X2.relock
 generalize h2.withLock h1.lock=h2 at *
 have Y2:=N1.hx.trans X2
 have A2:=N1.at_.hx X2
 refine WO.nt rfl (WO.lk2 rfl rfl rfl fun LL=>(k77 H _ _ _).mono ?_)
 rintro v5 h5 ⟨rfl,rfl⟩
 rw [TH.relock]
 refine WO.cl3 rfl rfl rfl rfl ((k72 H _ _ _ _).mono ?_)
 rintro v5 h5 ⟨rfl,rfl⟩
 refine WO.cl2 rfl rfl rfl ((k77 H _ _ _).mono ?_)
 rintro v5 h5 ⟨rfl,rfl⟩
 refine WO.bslA rfl u166 tp30 (by decide) (by decide) (by decide) (filled_ints3 _ _ _) fun h6 N6=>?_
 refine WO.cl1 rfl rfl ((k71 H (l:=[_,_,_]) N6.at_.get (by simp)).mono ?_)
 rintro v7 h7 ⟨rfl,rfl⟩
 have Y6:=Y2.trans N6.hx
 have A6:=A2.hx N6.hx
 refine WO.as rfl (WO.nil ?_)
 refine W.seq (W.seq (W.reg (WO.mv rfl (WO.bi rfl rfl rfl (WO.nil ?_)))))
 show W Tryz.prog tp false _ (qan.put _ (some 22) (.bool (headE s n F.length != 0))) _ _
 have hhead:qae [cond (!nameB s) 8 0,outB n 0 100000000,cond (decide ((F.length:Int) > 4096)) 5 0]=headE s n F.length:=rfl
 rw [hhead]
 by_cases he:headE s n F.length=0
 ·rw [show (headE s n F.length != 0)=false by simpa using he]
  refine W.cd rfl (OnB.no (W.skip ?_))
  obtain ⟨_,hn1,hn2,hm⟩:=headE_zero he
  refine W.seq (W.reg (WO.fa rfl (qaf fo52_2) (WO.ld rfl (qaa tp43 A6 rfl) (WO.fa rfl (qaf fo52_1) (WO.ld rfl (qaa tp3 A6 rfl) (WO.mv rfl (WO.bi (v:=.int .i64 (n+F.length)) rfl rfl ?_ ?_)))))))
  ·show some (Value.int .i64 (qbm .i64 (n+(F.length:Int))))=_
   rw [qao (by omega) (by omega)]
  refine WO.bi rfl rfl rfl (WO.fa rfl (qaf fo52_2) (WO.ld rfl (qaa tp43 A6 rfl) (WO.fa rfl (qaf fo52_3) (WO.ld rfl (qaa tp44 A6 rfl) ?_))))
  refine WO.lk1 rfl rfl fun LL=>(k99 H X ((r.f.hx Y6).relock LL) hE hF).mono ?_
  rintro v8 h8 ⟨rfl,rfl⟩
  rw [TH.relock]
  refine WO.lk2 rfl rfl rfl fun LL=>(k77 H _ _ _).mono ?_
  rintro v8 h8 ⟨rfl,rfl⟩
  rw [TH.relock]
  refine WO.cl2 rfl rfl rfl ((k100 H (r.hx Y6) hF hS (f.next Y6 Y6.next)).mono ?_)
  rintro v9 h9 ⟨X9,e9,rfl,he9⟩
  refine WO.bslA rfl u166 tp30 (by decide) (by decide) (by decide) (filled_ints3 _ _ _) fun h10 N10=>?_
  refine WO.cl1 rfl rfl ((k71 H (l:=[_,_,_]) N10.at_.get (by simp)).mono ?_)
  rintro v7 h7 ⟨rfl,rfl⟩
  refine WO.as rfl (WO.nil (W.ret ?_))
  refine ⟨.inr rfl,_,rfl,?_,(Y6.trans X9).trans N10.hx⟩
  show Value.int .i64 _=Value.int .i64 _
  congr 1
  unfold runE
  rw [show (headE s n F.length != 0)=false by simpa using he,Bool.cond_false]
  by_cases h0:qae es=0
  ·rw [he9 L (hL h0)];rfl
  ·have hb:(qae es != 0)=true:=by simpa using h0
   simp only [qae] at hb ⊢
   rw [hb];rfl
 ·rw [show (headE s n F.length != 0)=true by simpa using he]
  refine W.cd rfl (OnB.yes (W.seq (W.reg (WO.mv rfl (WO.as rfl (WO.nil (W.ret ?_)))))))
  refine ⟨.inr rfl,_,rfl,?_,Y6⟩
  show Value.int .i64 _=Value.int .i64 _
  unfold runE
  rw [show (headE s n F.length != 0)=true by simpa using he,Bool.cond_true]
end Go.Tidy
namespace Go.Tidy
open Go Go.Proofs Tab
variable {tp:TProg}
def spanE (m:Nat) (p:Int × Int):Int:=cond (decide (p.1 < 0) || (decide (p.2 < p.1) || decide ((m:Int) < p.2))) 14 0
theorem k166 (H:Has tp) {p1 p2:Int} {m:Nat} {h:TH}:qad Tryz.prog tp (.func (.func 192) #[] #[]) #[.agg #[.int .i64 p1,.int .i64 p2],.int .i64 m] h fun v h'=>v=.int .i64 (spanE m (p1,p2))∧HX h h':=by
 refine qad.full (H.fn 192 f166 rfl rfl) rfl ?_
 refine W.seq (W.reg (WO.boxA rfl fun h1 N1=>WO.as rfl (WO.nil ?_)))
 have A1:=N1.at_
 refine W.seq (W.reg (WO.fa rfl (qaf qcq) (WO.ld rfl (qaa tp3 A1 rfl) (WO.bi rfl rfl rfl ?_))))
 by_cases c1:p1 < 0
 ·rw [show decide (p1 < 0)=true by simpa using c1]
  refine WO.mv rfl (WO.skp (b:=true) rfl rfl (WO.skp (b:=true) rfl rfl (WO.skp (b:=true) rfl rfl (WO.skp (b:=true) rfl rfl (WO.skp (b:=true) rfl rfl (WO.pk rfl rfl rfl (OnB.yes ?_)))))))
  refine WO.mv rfl (WO.skp (b:=true) rfl rfl (WO.skp (b:=true) rfl rfl (WO.skp (b:=true) rfl rfl (WO.skp (b:=true) rfl rfl (WO.pk rfl rfl rfl (OnB.yes (WO.cl2 rfl rfl rfl ((k32 H _ _ _).mono ?_))))))))
  rintro v2 h2 ⟨rfl,rfl⟩
  refine WO.as rfl (WO.nil (W.ret ⟨.inr rfl,_,rfl,?_,N1.hx⟩))
  simp [spanE,c1];rfl
 ·rw [show decide (p1 < 0)=false by simpa using c1]
  refine WO.mv rfl (WO.now (b:=false) rfl rfl (WO.fa rfl (qaf qcq) (WO.now (b:=false) rfl rfl (WO.ld rfl (qaa tp3 A1 rfl) (WO.now (b:=false) rfl rfl (WO.fa rfl (qaf qcl) (WO.now (b:=false) rfl rfl (WO.ld rfl (qaa tp3 A1 rfl) (WO.now (b:=false) rfl rfl (WO.bi rfl rfl rfl (WO.pk rfl rfl rfl (OnB.no ?_))))))))))))
  by_cases c2:p2 < p1
  ·rw [show decide (p1 > p2)=true by simpa using c2]
   refine WO.mv rfl (WO.skp (b:=true) rfl rfl (WO.skp (b:=true) rfl rfl (WO.skp (b:=true) rfl rfl (WO.skp (b:=true) rfl rfl (WO.pk rfl rfl rfl (OnB.yes (WO.cl2 rfl rfl rfl ((k32 H _ _ _).mono ?_))))))))
   rintro v2 h2 ⟨rfl,rfl⟩
   refine WO.as rfl (WO.nil (W.ret ⟨.inr rfl,_,rfl,?_,N1.hx⟩))
   simp [spanE,c2];rfl
  ·rw [show decide (p1 > p2)=false by simpa using c2]
   refine WO.mv rfl (WO.now (b:=false) rfl rfl (WO.fa rfl (qaf qcl) (WO.now (b:=false) rfl rfl (WO.ld rfl (qaa tp3 A1 rfl) (WO.now (b:=false) rfl rfl (WO.mv rfl (WO.now (b:=false) rfl rfl (WO.bi rfl rfl rfl (WO.pk rfl rfl rfl (OnB.no (WO.cl2 rfl rfl rfl ((k32 H _ _ _).mono ?_))))))))))))
   rintro v2 h2 ⟨rfl,rfl⟩
   refine WO.as rfl (WO.nil (W.ret ⟨.inr rfl,_,rfl,?_,N1.hx⟩))
   show Value.int .i64 (cond (decide (p2 > (m:Int))) 14 0)=_
   simp [spanE,c1,c2]
theorem full_eq (m:Nat) (p:Int × Int):qae [spanE m p,cond (p.1 == p.2) 14 0]=cond (badS m p) 14 0:=by
  unfold spanE badS
  by_cases c1:p.1 < 0
  · simp [c1,qae]
  · by_cases c2:p.2 < p.1
    · have c3:p.2≤p.1:=by omega
      simp [c2,c3,qae]
    · by_cases c3:p.1=p.2
      · have c6:¬ p.2 < 0:=by omega
        by_cases c4:(m:Int) < p.2 <;> simp [c6,c3,c4,qae]
      · have c5:¬ p.2≤p.1:=by omega
        have c6:(p.1 == p.2)=false:=by simpa using c3
        by_cases c4:(m:Int) < p.2 <;> simp [c1,c2,c6,c4,c5,qae]
theorem k142 (H:Has tp) {p1 p2:Int} {m:Nat} {h:TH}:qad Tryz.prog tp (.func (.func 177) #[] #[]) #[.agg #[.int .i64 p1,.int .i64 p2],.int .i64 m] h fun v h'=>v=.int .i64 (cond (badS m (p1,p2)) 14 0)∧HX h h':=by
 refine qad.full (H.fn 177 f142 rfl rfl) rfl ?_
 refine W.seq (W.reg (WO.boxA rfl fun h1 N1=>WO.as rfl (WO.nil ?_)))
 have A1:=N1.at_
 refine W.seq (W.reg (WO.ld rfl (qab tp48 A1 rfl (Nat.le_of_ble_eq_true rfl)) (WO.mv rfl (WO.fa rfl (qaf qcq) (WO.ld rfl (qaa tp3 A1 rfl) (WO.fa rfl (qaf qcl) (WO.ld rfl (qaa tp3 A1 rfl) (WO.bi rfl rfl rfl ?_))))))))
 refine WO.lk2 rfl rfl rfl fun LL=>(k166 H (p1:=p1) (p2:=p2)).mono ?_
 rintro v2 h2 ⟨rfl,X2⟩
 have X2:=X2.relock
 generalize h2.withLock h1.lock=h2 at *
 refine WO.cl2 rfl rfl rfl ((k32 H _ _ _).mono ?_)
 rintro v3 h3 ⟨rfl,rfl⟩
 refine WO.bslA rfl u29 tp3 (by decide) (by decide) (by decide) (qcn _ _) fun h6 N6=>?_
 refine WO.cl1 rfl rfl ((k13 H (l:=[_,_]) N6.at_.get (by simp)).mono ?_)
 rintro v7 h7 ⟨rfl,rfl⟩
 refine WO.as rfl (WO.nil (W.ret ⟨.inr rfl,_,rfl,?_,(N1.hx.trans X2).trans N6.hx⟩))
 rw [← full_eq]
 rfl
theorem k92 (H:Has tp) {s:ByteArray} {h:TH}:qad Tryz.prog tp (.func (.func 149) #[] #[]) #[.string s] h fun v h'=>v=.int .i64 (cond (!nameB s) 8 0)∧h'=h:=by
 refine qad.full (H.fn 149 f92 rfl rfl) rfl ?_
 refine W.seq (W.reg (WO.as rfl (WO.nil ?_)))
 refine W.seq (W.reg (WO.mv rfl (WO.cl1 rfl rfl ((k17 H s h).mono ?_))))
 rintro v2 h2 ⟨rfl,rfl⟩
 refine WO.nt rfl (WO.cl2 rfl rfl rfl ((k32 H _ _ _).mono ?_))
 rintro v2 h3 ⟨rfl,rfl⟩
 exact WO.as rfl (WO.nil (W.ret ⟨.inr rfl,_,rfl,rfl,rfl⟩))
theorem k93 (H:Has tp) {v:Value} {F:List Nat} {es:List Int} {h:TH} (s:SlL encF 1 h v F) (hE:SErr F es) (hF:F.length≤1000000) :
  qad Tryz.prog tp (.func (.func 150) #[] #[]) #[v] h fun v' h'=>v'=.int .i64 (qae [cond (decide ((F.length:Int) > 4096)) 5 0,qae es])∧HX h h':=by
 refine qad.full (H.fn 150 f93 rfl rfl) rfl ?_
 refine W.seq (W.reg (WO.as rfl (WO.nil ?_)))
 refine W.seq (W.reg (WO.mv rfl (WO.lenC rfl s u43 (WO.bi rfl rfl rfl (WO.cl2 rfl rfl rfl ((k32 H _ _ _).mono ?_))))))
 rintro v2 h2 ⟨rfl,rfl⟩
 refine WO.mv rfl (WO.cl1 rfl rfl ((k141 H s hE hF).mono ?_))
 rintro v3 h3 ⟨rfl,rfl⟩
 refine WO.bslA rfl u29 tp3 (by decide) (by decide) (by decide) (qcn _ _) fun h6 N6=>?_
 refine WO.cl1 rfl rfl ((k13 H (l:=[_,_]) N6.at_.get (by simp)).mono ?_)
 rintro v7 h7 ⟨rfl,rfl⟩
 exact WO.as rfl (WO.nil (W.ret ⟨.inr rfl,_,rfl,rfl,N6.hx⟩))
end Go.Tidy
namespace Go.Tidy
open Go Go.Proofs Tab
variable {tp:TProg}
set_option maxRecDepth 10000 in
theorem k94 (H:Has tp) {v2:Value} {S:List (Int × Int)} {m:Nat} {h:TH} (s:SlL encS 2 h v2 S) (hS:S.length≤1000000) :
    qad Tryz.prog tp (.func (.func 151) #[] #[]) #[v2,.int .i64 m] h fun v h'=>v=.int .i64 (qay m (-1) S)∧HX h h':=by
  refine qad.full (H.fn 151 f94 rfl rfl) rfl ?_
  refine W.seq (W.reg (WO.as rfl (WO.nil ?_)))
  refine W.seq (W.seq (W.reg (WO.as rfl (WO.nil ?_))))
  refine W.block (W.loop (fun k a h2=>∃ (i:Nat) (prev:Int),i≤S.length∧k=S.length - i∧HX h h2∧qay m (-1) S=qay m prev (S.drop i)∧((i=0∧prev=-1)∨(0 < i∧∃ q,S[i - 1]?=some q∧q.2=prev))∧qak 42 a∧Tr.get a 0=some v2∧Tr.get a 1=some (.int .i64 m)∧Tr.get a 5=some (.int .i64 (i:Nat)))
    ?_ S.length _ _ ⟨0,-1,by omega,by omega,HX.refl h,rfl,.inl ⟨rfl,rfl⟩,(by repeat (first | with_reducible refine qak.put ?_ (by decide) _ | with_reducible refine qak.putn ?_ _ | with_reducible exact qak.of _ _ rfl | with_reducible exact qak.start _ _ (Nat.le_of_ble_eq_true rfl) | exact qak.start _ _ (Nat.le_of_ble_eq_true rfl))),rfl,rfl,rfl⟩)
  rintro k a h2 ⟨i,prev,hi,rfl,X2,hE,hprev,hf,i0,i1,i5⟩
  (obtain ⟨rl0,hrl0,rfl⟩:=hf;obtain ⟨s0,s1,s2,s3,s4,s5,s6,s7,rl1,rfl,hrl1⟩:=qal hrl0;obtain ⟨s8,s9,s10,s11,s12,s13,s14,s15,rl2,rfl,hrl2⟩:=qal hrl1;obtain ⟨s16,s17,s18,s19,s20,s21,s22,s23,rl3,rfl,hrl3⟩:=qal hrl2;obtain ⟨s24,s25,s26,s27,s28,s29,s30,s31,rl4,rfl,hrl4⟩:=qal hrl3;obtain ⟨s32,s33,s34,s35,s36,s37,s38,s39,rl5,rfl,hrl5⟩:=qal hrl4;obtain ⟨s40,rl6,rfl,hrl6⟩:=qaj hrl5;obtain ⟨s41,rl7,rfl,hrl7⟩:=qaj hrl6;obtain rfl:=qcg hrl7;clear hrl0 hrl1 hrl2 hrl3 hrl4 hrl5 hrl6 hrl7;obtain rfl:s0=_:=Option.some.inj (show some s0=some _ from i0);clear i0;obtain rfl:s1=_:=Option.some.inj (show some s1=some _ from i1);clear i1;obtain rfl:s5=_:=Option.some.inj (show some s5=some _ from i5);clear i5)
  refine W.seq (W.seq (W.reg (WO.mv rfl (WO.mv rfl (WO.lenC rfl (s.hx X2) u44 (WO.bi rfl rfl rfl (WO.nil ?_)))))))
  by_cases hlt:i < S.length
  · rw [show decide ((i:Int) < (S.length:Int))=true by simpa using hlt]
    refine W.cd rfl (OnB.yes (W.skip ?_))
    have hS1:S[i]?=some S[i]:=List.getElem?_eq_getElem hlt
    have hdrop:S.drop i=S[i]::S.drop (i+1):=List.drop_eq_getElem_cons hlt
    obtain ⟨b,o,cc,fix,wr,el,e1,e2,e3,e4,e5⟩:=(s.hx X2).at eS u44 tp48 hS1 .i64
    have p0:=e5 0 (by decide)
    refine W.seq (W.block (W.seq (W.reg (WO.mv rfl (WO.mv rfl (WO.ix rfl rfl e1 (WO.ld rfl (qab tp48 e2 e4 e3) (WO.mv rfl (WO.mv rfl (WO.bi rfl rfl rfl ?_)))))))))) 
    have hnext:((i+1=0∧(S[i]).2=-1)∨(0 < i+1∧∃ q,S[i+1 - 1]?=some q∧q.2=(S[i]).2)):=.inr ⟨by omega,S[i],by rw [Nat.add_sub_cancel];exact hS1,rfl⟩
    generalize hp:S[i]=p at *
    obtain ⟨p1,p2⟩:=p
    refine WO.cl2 rfl rfl rfl ((k142 H (p1:=p1) (p2:=p2)).mono ?_)
    rintro v3 h3 ⟨rfl,X3⟩
    have Y3:=X2.trans X3
    refine WO.cut 15 (WO.mono (Q:=fun a' h'=>h'=h3∧qak 42 a'∧Tr.get a' 0=some s0∧Tr.get a' 1=some (.int .i64 m)∧Tr.get a' 5=some (.int .i64 (i:Nat))∧Tr.get a' 18=some (.int .i64 (cond (badS m (p1,p2)) 14 0))∧∃ q:Bool,Tr.get a' 35=some (.bool q)∧(badS m (p1,p2)=false→q=decide (p1≤prev))) ?_ ?_)
    · rcases hprev with ⟨rfl,rfl⟩ | ⟨h0,q,hq1,hq2⟩
      · refine WO.mv rfl ?_
        rw [show decide (((0:Nat):Int) > 0)=false by decide]
        refine WO.skp (b:=false) rfl rfl (WO.skp (b:=false) rfl rfl (WO.skp (b:=false) rfl rfl (WO.skp (b:=false) rfl rfl (WO.skp (b:=false) rfl rfl (WO.skp (b:=false) rfl rfl (WO.skp (b:=false) rfl rfl (WO.skp (b:=false) rfl rfl (WO.skp (b:=false) rfl rfl (WO.skp (b:=false) rfl rfl (WO.skp (b:=false) rfl rfl (WO.skp (b:=false) rfl rfl (WO.skp (b:=false) rfl rfl (WO.pk rfl rfl rfl (OnB.no (WO.nil ?_)))))))))))))))
        refine ⟨rfl,(by repeat (first | with_reducible refine qak.put ?_ (by decide) _ | with_reducible refine qak.putn ?_ _ | with_reducible exact qak.of _ _ rfl | with_reducible exact qak.start _ _ (Nat.le_of_ble_eq_true rfl) | exact qak.start _ _ (Nat.le_of_ble_eq_true rfl))),rfl,rfl,rfl,rfl,false,rfl,fun hb=>?_⟩
        unfold badS at hb
        simp only [Bool.or_eq_false_iff,decide_eq_false_iff_not] at hb
        exact (decide_eq_false (by omega)).symm
      · refine WO.mv rfl ?_
        rw [show decide ((i:Int) > 0)=true by simpa using h0]
        obtain ⟨b',o',cc',fix',wr',el',g1,g2,g3,g4,g5⟩:=(s.hx Y3).at eS u44 tp48 hq1 .i64
        refine WO.now (b:=true) rfl rfl (WO.mv rfl (WO.now (b:=true) rfl rfl (WO.mv rfl (WO.now (b:=true) rfl rfl (WO.ix rfl rfl e1 (WO.now (b:=true) rfl rfl (WO.fa rfl (qaf qcq) (WO.now (b:=true) rfl rfl (WO.ld rfl (qaa tp3 (e2.hx X3) (e5 0 (by decide))) ?_)))))))))
        refine WO.now (b:=true) rfl rfl (WO.mv rfl (WO.now (b:=true) rfl rfl (WO.mv rfl (WO.now (b:=true) rfl rfl (WO.bi (v:=.int .i64 ((i - 1:Nat):Int)) rfl rfl ?_ ?_)))))
        · show some (Value.int .i64 (qbm .i64 ((i:Int) - 1)))=_
          rw [qao (by omega) (by omega)]
          congr 2
          omega
        refine WO.now (b:=true) rfl rfl (WO.max rfl rfl ?_)
        rw [show max (0:Int) ((i - 1:Nat):Int)=((i - 1:Nat):Int) by omega]
        refine WO.now (b:=true) rfl rfl (WO.ix rfl rfl g1 (WO.now (b:=true) rfl rfl (WO.fa rfl (qaf qcl) (WO.now (b:=true) rfl rfl (WO.ld rfl (qaa tp3 g2 (g5 1 (by decide))) (WO.now (b:=true) rfl rfl (WO.bi rfl rfl rfl (WO.pk rfl rfl rfl (OnB.yes (WO.nil ?_))))))))))
        refine ⟨rfl,(by repeat (first | with_reducible refine qak.put ?_ (by decide) _ | with_reducible refine qak.putn ?_ _ | with_reducible exact qak.of _ _ rfl | with_reducible exact qak.start _ _ (Nat.le_of_ble_eq_true rfl) | exact qak.start _ _ (Nat.le_of_ble_eq_true rfl))),rfl,rfl,rfl,rfl,decide (p1≤q.2),rfl,fun _=>by rw [hq2]⟩
    · rintro a' h' ⟨rfl,hf',j0,j1,j5,j18,q,j35,hq⟩
      (obtain ⟨rl0,hrl0,rfl⟩:=hf';obtain ⟨s0,s1,s2,s3,s4,s5,s6,s7,rl1,rfl,hrl1⟩:=qal hrl0;obtain ⟨s8,s9,s10,s11,s12,s13,s14,s15,rl2,rfl,hrl2⟩:=qal hrl1;obtain ⟨s16,s17,s18,s19,s20,s21,s22,s23,rl3,rfl,hrl3⟩:=qal hrl2;obtain ⟨s24,s25,s26,s27,s28,s29,s30,s31,rl4,rfl,hrl4⟩:=qal hrl3;obtain ⟨s32,s33,s34,s35,s36,s37,s38,s39,rl5,rfl,hrl5⟩:=qal hrl4;obtain ⟨s40,rl6,rfl,hrl6⟩:=qaj hrl5;obtain ⟨s41,rl7,rfl,hrl7⟩:=qaj hrl6;obtain rfl:=qcg hrl7;clear hrl0 hrl1 hrl2 hrl3 hrl4 hrl5 hrl6 hrl7;obtain rfl:s0=_:=Option.some.inj (show some s0=some _ from j0);clear j0;obtain rfl:s1=_:=Option.some.inj (show some s1=some _ from j1);clear j1;obtain rfl:s5=_:=Option.some.inj (show some s5=some _ from j5);clear j5;obtain rfl:s18=_:=Option.some.inj (show some s18=some _ from j18);clear j18;obtain rfl:s35=_:=Option.some.inj (show some s35=some _ from j35);clear j35)
      refine WO.cl2 rfl rfl rfl ((k32 H _ _ _).mono ?_)
      rintro v5 h5 ⟨rfl,rfl⟩
      refine WO.bslA rfl u29 tp3 (by decide) (by decide) (by decide) (qcn _ _) fun h6 N6=>?_
      refine WO.cl1 rfl rfl ((k13 H (l:=[_,_]) N6.at_.get (by simp)).mono ?_)
      rintro v7 h7 ⟨rfl,rfl⟩
      have X6:=Y3.trans N6.hx
      refine WO.as rfl (WO.nil ?_)
      have hstep:qay m prev ((p1,p2)::S.drop (i+1))=cond (qae [cond (badS m (p1,p2)) 14 0,cond q 11 0] != 0) (qae [cond (badS m (p1,p2)) 14 0,cond q 11 0]) (qay m p2 (S.drop (i+1))):=by
        rw [qcz]
        show cond (badS m (p1,p2)) 14 (cond (decide (p1≤prev)) 11 (qay m p2 (S.drop (i+1))))=_
        cases hb:badS m (p1,p2) with
        | true=>rfl
        | false=>rw [hq hb];cases decide (p1≤prev) <;> rfl
      rw [hdrop,hstep] at hE
      refine W.seq (W.reg (WO.mv rfl (WO.bi rfl rfl rfl (WO.nil ?_))))
      show W Tryz.prog tp false _ (qan.put _ (some 40) (.bool (qae [cond (badS m (p1,p2)) 14 0,cond q 11 0] != 0))) _ _
      generalize qae [cond (badS m (p1,p2)) 14 0,cond q 11 0]=e at *
      by_cases he:e=0
      · rw [show (e != 0)=false by simpa using he] at *
        refine W.cd rfl (OnB.no (W.skip ?_))
        refine W.reg (WO.mv rfl (WO.bi rfl rfl rfl (WO.as rfl (WO.nil ?_))))
        refine ⟨S.length - (i+1),by omega,i+1,p2,by omega,rfl,X6,hE,hnext,(by repeat (first | with_reducible refine qak.put ?_ (by decide) _ | with_reducible refine qak.putn ?_ _ | with_reducible exact qak.of _ _ rfl | with_reducible exact qak.start _ _ (Nat.le_of_ble_eq_true rfl) | exact qak.start _ _ (Nat.le_of_ble_eq_true rfl))),rfl,rfl,?_⟩
        show some (Value.int .i64 (qbm .i64 ((i:Int)+1)))=_
        rw [qao (by omega) (by omega)]
        rfl
      · rw [show (e != 0)=true by simpa using he] at *
        rw [Bool.cond_true] at hE
        refine W.cd rfl (OnB.yes (W.seq (W.reg (WO.mv rfl (WO.as rfl (WO.nil (W.ret ?_)))))))
        exact ⟨.inr rfl,_,rfl,by rw [hE];rfl,X6⟩
  · rw [show decide ((i:Int) < (S.length:Int))=false by simpa using hlt]
    refine W.cd rfl (OnB.no (W.exit ?_))
    obtain rfl:i=S.length:=by omega
    rw [List.drop_length] at hE
    refine W.seq (W.reg (WO.as rfl (WO.nil (W.ret ?_))))
    exact ⟨.inr rfl,_,rfl,by rw [hE];rfl,X2⟩
end Go.Tidy
namespace Go.Tidy
open Go Go.Proofs Tab
variable {tp:TProg}
def inS (x:Int) (p:Int × Int):Bool:=decide (x ≥ p.1) && decide (x < p.2)
def qam (S:List (Int × Int)) (x:Int):Bool:=!S.any (inS x)
set_option maxRecDepth 10000 in
theorem k39 (H:Has tp) {s:ByteArray} {n x:Int} {v1 v2:Value} {S:List (Int × Int)} {h:TH} (r:SlL encS 2 h v2 S) (hS:S.length≤1000000) :
    qad Tryz.prog tp (.func (.func 49) #[] #[]) #[runV s n v1 v2,.int .i64 x] h fun v h'=>v=.bool (qam S x)∧HX h h':=by
  refine qad.full (H.fn 49 f39 rfl rfl) rfl ?_
  refine W.seq (W.reg (WO.boxA rfl fun h1 N1=>WO.as rfl (WO.nil ?_)))
  have A1:=N1.at_
  have s1:=r.hx N1.hx
  refine W.seq (W.seq (W.reg (WO.as rfl (WO.nil ?_))))
  refine W.block (W.loop (fun k a h2=>h2=h1∧∃ (i:Nat),i≤S.length∧k=S.length - i∧(S.take i).any (inS x)=false∧qak 31 a∧Tr.get a 1=some (.int .i64 x)∧Tr.get a 2=some (.pointer (some ⟨h.next,0,none⟩))∧Tr.get a 5=some (.int .i64 (i:Nat)))
    ?_ S.length _ _ ⟨rfl,0,by omega,by omega,rfl,(by repeat (first | with_reducible refine qak.put ?_ (by decide) _ | with_reducible refine qak.putn ?_ _ | with_reducible exact qak.of _ _ rfl | with_reducible exact qak.start _ _ (Nat.le_of_ble_eq_true rfl) | exact qak.start _ _ (Nat.le_of_ble_eq_true rfl))),rfl,rfl,rfl⟩)
  rintro k a h2 ⟨rfl,i,hi,rfl,hz,hf,i1,i2,i5⟩
  (obtain ⟨rl0,hrl0,rfl⟩:=hf;obtain ⟨s0,s1,s2,s3,s4,s5,s6,s7,rl1,rfl,hrl1⟩:=qal hrl0;obtain ⟨s8,s9,s10,s11,s12,s13,s14,s15,rl2,rfl,hrl2⟩:=qal hrl1;obtain ⟨s16,s17,s18,s19,s20,s21,s22,s23,rl3,rfl,hrl3⟩:=qal hrl2;obtain ⟨s24,rl4,rfl,hrl4⟩:=qaj hrl3;obtain ⟨s25,rl5,rfl,hrl5⟩:=qaj hrl4;obtain ⟨s26,rl6,rfl,hrl6⟩:=qaj hrl5;obtain ⟨s27,rl7,rfl,hrl7⟩:=qaj hrl6;obtain ⟨s28,rl8,rfl,hrl8⟩:=qaj hrl7;obtain ⟨s29,rl9,rfl,hrl9⟩:=qaj hrl8;obtain ⟨s30,rl10,rfl,hrl10⟩:=qaj hrl9;obtain rfl:=qcg hrl10;clear hrl0 hrl1 hrl2 hrl3 hrl4 hrl5 hrl6 hrl7 hrl8 hrl9 hrl10;obtain rfl:s1=_:=Option.some.inj (show some s1=some _ from i1);clear i1;obtain rfl:s2=_:=Option.some.inj (show some s2=some _ from i2);clear i2;obtain rfl:s5=_:=Option.some.inj (show some s5=some _ from i5);clear i5)
  refine W.seq (W.seq (W.reg (WO.mv rfl (WO.fa rfl (qaf fo46_3) (WO.ld rfl (qaa tp44 A1 rfl) (WO.lenC rfl s1 u44 (WO.bi rfl rfl rfl (WO.nil ?_))))))))
  by_cases hlt:i < S.length
  · rw [show decide ((i:Int) < (S.length:Int))=true by simpa using hlt]
    refine W.cd rfl (OnB.yes (W.skip ?_))
    have hS1:S[i]?=some S[i]:=List.getElem?_eq_getElem hlt
    have hany:(S.take (i+1)).any (inS x)=inS x S[i]:=by rw [← List.take_append_getElem hlt,List.any_append,hz];simp
    have hmem:S[i] ∈ S:=List.getElem_mem hlt
    obtain ⟨b,o,cc,fix,wr,el,e1,e2,e3,e4,e5⟩:=s1.at eS u44 tp48 hS1 .i64
    generalize S[i]=p at *
    obtain ⟨p1,p2⟩:=p
    refine W.seq (W.block (W.seq (W.mono (Q:=fun y a' h'=>y=.normal∧h'=h2∧qak 31 a'∧Tr.get a' 1=some (.int .i64 x)∧Tr.get a' 2=some (.pointer (some ⟨h.next,0,none⟩))∧Tr.get a' 5=some (.int .i64 (i:Nat))∧Tr.get a' 30=some (.bool (inS x (p1,p2)))) ?_ ?_)))
    · refine W.reg (WO.mv rfl (WO.fa rfl (qaf fo46_3) (WO.ld rfl (qaa tp44 A1 rfl) (WO.mv rfl (WO.ix rfl rfl e1 (WO.fa rfl (qaf qcq) (WO.ld rfl (qaa tp3 e2 (e5 0 (by decide))) (WO.bi rfl rfl rfl ?_))))))))
      by_cases c1:x ≥ p1
      · rw [show decide (x ≥ p1)=true by simpa using c1]
        refine WO.mv rfl (WO.now (b:=true) rfl rfl (WO.mv rfl (WO.now (b:=true) rfl rfl (WO.fa rfl (qaf fo46_3) (WO.now (b:=true) rfl rfl (WO.ld rfl (qaa tp44 A1 rfl) (WO.now (b:=true) rfl rfl (WO.mv rfl (WO.now (b:=true) rfl rfl (WO.ix rfl rfl e1 ?_))))))))))
        refine WO.now (b:=true) rfl rfl (WO.fa rfl (qaf qcl) (WO.now (b:=true) rfl rfl (WO.ld rfl (qaa tp3 e2 (e5 1 (by decide))) (WO.now (b:=true) rfl rfl (WO.bi rfl rfl rfl (WO.pk rfl rfl rfl (OnB.yes (WO.nil ?_))))))))
        refine ⟨rfl,rfl,(by repeat (first | with_reducible refine qak.put ?_ (by decide) _ | with_reducible refine qak.putn ?_ _ | with_reducible exact qak.of _ _ rfl | with_reducible exact qak.start _ _ (Nat.le_of_ble_eq_true rfl) | exact qak.start _ _ (Nat.le_of_ble_eq_true rfl))),rfl,rfl,rfl,?_⟩
        show some (Value.bool (decide (x < p2)))=_
        simp [inS,c1]
      · rw [show decide (x ≥ p1)=false by simpa using c1]
        refine WO.mv rfl (WO.skp (b:=false) rfl rfl (WO.skp (b:=false) rfl rfl (WO.skp (b:=false) rfl rfl (WO.skp (b:=false) rfl rfl (WO.skp (b:=false) rfl rfl (WO.skp (b:=false) rfl rfl (WO.skp (b:=false) rfl rfl (WO.skp (b:=false) rfl rfl (WO.pk rfl rfl rfl (OnB.no (WO.nil ?_)))))))))))
        refine ⟨rfl,rfl,(by repeat (first | with_reducible refine qak.put ?_ (by decide) _ | with_reducible refine qak.putn ?_ _ | with_reducible exact qak.of _ _ rfl | with_reducible exact qak.start _ _ (Nat.le_of_ble_eq_true rfl) | exact qak.start _ _ (Nat.le_of_ble_eq_true rfl))),rfl,rfl,rfl,?_⟩
        simp [inS,c1]
        rfl
    · rintro y a' h' ⟨rfl,rfl,hf',j1,j2,j5,j30⟩
      (obtain ⟨rl0,hrl0,rfl⟩:=hf';obtain ⟨s0,s1,s2,s3,s4,s5,s6,s7,rl1,rfl,hrl1⟩:=qal hrl0;obtain ⟨s8,s9,s10,s11,s12,s13,s14,s15,rl2,rfl,hrl2⟩:=qal hrl1;obtain ⟨s16,s17,s18,s19,s20,s21,s22,s23,rl3,rfl,hrl3⟩:=qal hrl2;obtain ⟨s24,rl4,rfl,hrl4⟩:=qaj hrl3;obtain ⟨s25,rl5,rfl,hrl5⟩:=qaj hrl4;obtain ⟨s26,rl6,rfl,hrl6⟩:=qaj hrl5;obtain ⟨s27,rl7,rfl,hrl7⟩:=qaj hrl6;obtain ⟨s28,rl8,rfl,hrl8⟩:=qaj hrl7;obtain ⟨s29,rl9,rfl,hrl9⟩:=qaj hrl8;obtain ⟨s30,rl10,rfl,hrl10⟩:=qaj hrl9;obtain rfl:=qcg hrl10;clear hrl0 hrl1 hrl2 hrl3 hrl4 hrl5 hrl6 hrl7 hrl8 hrl9 hrl10;obtain rfl:s1=_:=Option.some.inj (show some s1=some _ from j1);clear j1;obtain rfl:s2=_:=Option.some.inj (show some s2=some _ from j2);clear j2;obtain rfl:s5=_:=Option.some.inj (show some s5=some _ from j5);clear j5;obtain rfl:s30=_:=Option.some.inj (show some s30=some _ from j30);clear j30)
      cases hq:inS x (p1,p2) with
      | true =>
        refine W.cd rfl (OnB.yes (W.seq (W.reg (WO.as rfl (WO.nil (W.ret ?_))))))
        refine ⟨.inr rfl,_,rfl,?_,N1.hx⟩
        have:S.any (inS x)=true:=List.any_eq_true.2 ⟨_,hmem,hq⟩
        unfold qam
        rw [this];rfl
      | false =>
        refine W.cd rfl (OnB.no (W.skip ?_))
        refine W.reg (WO.mv rfl (WO.bi rfl rfl rfl (WO.as rfl (WO.nil ?_))))
        refine ⟨S.length - (i+1),by omega,rfl,i+1,by omega,rfl,by rw [hany];exact hq,(by repeat (first | with_reducible refine qak.put ?_ (by decide) _ | with_reducible refine qak.putn ?_ _ | with_reducible exact qak.of _ _ rfl | with_reducible exact qak.start _ _ (Nat.le_of_ble_eq_true rfl) | exact qak.start _ _ (Nat.le_of_ble_eq_true rfl))),rfl,rfl,?_⟩
        show some (Value.int .i64 (qbm .i64 ((i:Int)+1)))=_
        rw [qao (by omega) (by omega)]
        rfl
  · rw [show decide ((i:Int) < (S.length:Int))=false by simpa using hlt]
    refine W.cd rfl (OnB.no (W.exit ?_))
    obtain rfl:i=S.length:=by omega
    refine W.seq (W.reg (WO.as rfl (WO.nil (W.ret ?_))))
    rw [List.take_length] at hz
    refine ⟨.inr rfl,_,rfl,?_,N1.hx⟩
    unfold qam
    rw [hz];rfl
end Go.Tidy
namespace Go.Tidy
open Go Go.Proofs Tab
variable {tp:TProg}
theorem anyIn_iff {L:List Int} {p:Int × Int} (h1:0≤p.1) (h2:p.1≤p.2):qdo L p=true ↔ ∃ (j:Nat) (x:Int),L[j]?=some x∧x≠0∧inS j p=true:=by
 unfold qdo
 rw [List.any_eq_true]
 constructor
 ·rintro ⟨x,hx,h0⟩
  obtain ⟨k,hk⟩:=List.mem_iff_getElem?.1 hx
  have hlt:k < p.2.toNat - p.1.toNat:=by
   have:=(List.getElem?_eq_some_iff.1 hk).1
   simp at this
   omega
  rw [List.getElem?_take_of_lt hlt,List.getElem?_drop] at hk
  refine ⟨p.1.toNat+k,x,hk,by simpa using h0,?_⟩
  unfold inS
  rw [decide_eq_true (by omega),decide_eq_true (by omega)];rfl
 ·rintro ⟨j,x,hj,h0,hin⟩
  unfold inS at hin
  simp only [Bool.and_eq_true,decide_eq_true_eq] at hin
  refine ⟨x,List.mem_iff_getElem?.2 ⟨j - p.1.toNat,?_⟩,by simpa using h0⟩
  rw [List.getElem?_take_of_lt (by omega),List.getElem?_drop,show p.1.toNat+(j - p.1.toNat)=j by omega]
  exact hj
theorem form_iff {L:List Int} {S:List (Int × Int)} {m:Nat} (hin:In m S):S.any (qdo L)=true ↔ ∃ (j:Nat) (x:Int),L[j]?=some x∧x≠0∧qam S j=false:=by
 rw [List.any_eq_true]
 constructor
 ·rintro ⟨p,hp,ha⟩
  obtain ⟨g1,g2,g3⟩:=hin p hp
  obtain ⟨j,x,hj,h0,hk⟩:=(anyIn_iff g1 g2).1 ha
  refine ⟨j,x,hj,h0,?_⟩
  unfold qam
  rw [List.any_eq_true.2 ⟨p,hp,hk⟩];rfl
 ·rintro ⟨j,x,hj,h0,hk⟩
  unfold qam at hk
  have hk:S.any (inS j)=true:=by simpa using hk
  obtain ⟨p,hp,hpj⟩:=List.any_eq_true.1 hk
  obtain ⟨g1,g2,g3⟩:=hin p hp
  exact ⟨p,hp,(anyIn_iff g1 g2).2 ⟨j,x,hj,h0,hpj⟩⟩
theorem qdt (a:Int):a=0∨(a != 0)=true:=by
 by_cases h:a=0
 ·exact .inl h
 ·exact .inr (by simpa using h)
theorem first_mix (a b c d g g':Int) (hg:c=0→g'=g):qae [a,b,qae [c,d],g']=cond (qae [a,b,c] != 0) (qae [a,b,c]) (qae [d,g]):=by
  rcases qdt a with rfl | ha
  · rcases qdt b with rfl | hb
    · rcases qdt c with rfl | hc
      · rw [hg rfl]
        rcases qdt d with rfl | hd
        · simp [qae]
        · simp [qae,hd]
      · simp [qae,hc]
    · simp [qae,hb]
  · simp [qae,ha]
theorem first_more (a b c:Int):qae [a,b,c]=cond (qae [a,b] != 0) (qae [a,b]) c:=by
 rcases qdt a with rfl | ha
 ·rcases qdt b with rfl | hb
  ·rcases qdt c with rfl | hc
   ·simp [qae]
   ·simp [qae,hc]
  ·simp [qae,hb]
 ·simp [qae,ha]
def lookE (s:ByteArray) (n:Int) (m:Nat) (es:List Int):Int:=qae [cond (!nameB s) 8 0,outB n 0 100000000,qae [cond (decide ((m:Int) > 4096)) 5 0,qae es],cond (decide (n > 100000000 - m) && decide ((m:Int)≤4096)) 4 0]
theorem runE_look (s:ByteArray) (n:Int) (m:Nat) (S:List (Int × Int)) (es L:List Int):runE s n m S es L=cond (lookE s n m es != 0) (lookE s n m es) (tailE m S L):=by
 unfold runE
 rw [first_more]
 have:lookE s n m es=cond (headE s n m != 0) (headE s n m) (qae [qae es,cond (decide (n+m > 100000000)) 4 0]):=by
  unfold lookE headE
  refine first_mix _ _ _ _ _ _ fun hc=>?_
  by_cases hm:(m:Int) > 4096
  ·rw [decide_eq_true hm] at hc;cases hc
  ·rw [decide_eq_true (show (m:Int)≤4096 by omega),Bool.and_true]
   congr 1
   exact decide_eq_decide.2 (by omega)
 rw [this]
 by_cases h1:headE s n m=0
 ·rw [show (headE s n m != 0)=false by simpa using h1];rfl
 ·rw [show (headE s n m != 0)=true by simpa using h1]
  simp only [Bool.cond_true]
  rw [show (headE s n m != 0)=true by simpa using h1];rfl
theorem lookE_zero {s:ByteArray} {n:Int} {m:Nat} {es:List Int} (h:lookE s n m es=0):qae es=0:=by
 have h1:=qbb h (qae [cond (decide ((m:Int) > 4096)) 5 0,qae es]) (by simp)
 exact qbb h1 (qae es) (by simp)
set_option maxRecDepth 10000 in
theorem k31 (H:Has tp) {s:ByteArray} {n:Int} {v1 v2:Value} {F:List Nat} {S:List (Int × Int)} {es L:List Int} {h:TH} (r:RunH h v1 v2 F S) (hE:SErr F es) (hL:qae es=0→Lev F L) (hF:F.length≤1000000) (hS:S.length≤1000000) :
    qad Tryz.prog tp (.func (.func 108) #[] #[]) #[runV s n v1 v2] h fun v h'=>v=.int .i64 (runE s n F.length S es L)∧HX h h':=by
  refine qad.full (H.fn 108 f31 rfl rfl) rfl ?_
  refine W.seq (W.reg (WO.boxA rfl fun h1 N1=>WO.as rfl (WO.nil ?_)))
  have A1:=N1.at_
  refine W.seq (W.seq (W.reg (WO.fa rfl (qaf fo46_0) (WO.ld rfl (qaa tp9 A1 rfl) (WO.fa rfl (qaf fo46_1) (WO.ld rfl (qaa tp3 A1 rfl) (WO.fa rfl (qaf fo46_2) (WO.ld rfl (qaa tp43 A1 rfl) (WO.fa rfl (qaf fo46_1) (WO.ld rfl (qaa tp3 A1 rfl) (WO.fa rfl (qaf fo46_2) (WO.ld rfl (qaa tp43 A1 rfl) (WO.lenC rfl (r.f.hx N1.hx) u43 (WO.bi (v:=.int .i64 (100000000 - F.length)) rfl rfl ?_ ?_))))))))))))))
  · show some (Value.int .i64 (qbm .i64 (100000000 - (F.length:Int))))=_
    rw [qao (by omega) (by omega)]
  refine WO.bi rfl rfl rfl (WO.lk1 rfl rfl fun LL=>(k92 H).mono ?_)
  rintro v2' h2 ⟨rfl,rfl⟩
  rw [TH.relock]
  refine WO.lk3 rfl rfl rfl rfl fun LL=>(k14 H _ _ _ _).mono ?_
  rintro v2' h2 ⟨rfl,rfl⟩
  rw [TH.relock]
  refine WO.lk1 rfl rfl fun LL=>(k93 H ((r.f.hx N1.hx).relock LL) hE hF).mono ?_
  rintro v2' h2 ⟨rfl,X2⟩
  have X2:=X2.relock
  generalize h2.withLock h1.lock=h2 at *
  have Y2:=N1.hx.trans X2
  have A2:=A1.hx X2
  refine WO.cut 6 (WO.mono (Q:=fun a' h'=>h'=h2∧qak 62 a'∧Tr.get a' 1=some (.pointer (some ⟨h.next,0,none⟩))∧Tr.get a' 8=some (.int .i64 (cond (!nameB s) 8 0))∧Tr.get a' 11=some (.int .i64 (outB n 0 100000000))∧Tr.get a' 14=some (.int .i64 (qae [cond (decide ((F.length:Int) > 4096)) 5 0,qae es]))∧Tr.get a' 27=some (.bool (decide (n > 100000000 - F.length) && decide ((F.length:Int)≤4096)))) ?_ ?_)
  · by_cases c1:n > 100000000 - F.length
    · rw [show decide (n > 100000000 - (F.length:Int))=true by simpa using c1]
      refine WO.mv rfl (WO.now (b:=true) rfl rfl (WO.fa rfl (qaf fo46_2) (WO.now (b:=true) rfl rfl (WO.ld rfl (qaa tp43 A2 rfl) (WO.now (b:=true) rfl rfl (WO.lenC rfl (r.f.hx Y2) u43 (WO.now (b:=true) rfl rfl (WO.bi rfl rfl rfl (WO.pk rfl rfl rfl (OnB.yes (WO.nil ?_)))))))))))
      exact ⟨rfl,(by repeat (first | with_reducible refine qak.put ?_ (by decide) _ | with_reducible refine qak.putn ?_ _ | with_reducible exact qak.of _ _ rfl | with_reducible exact qak.start _ _ (Nat.le_of_ble_eq_true rfl) | exact qak.start _ _ (Nat.le_of_ble_eq_true rfl))),rfl,rfl,rfl,rfl,rfl⟩
    · rw [show decide (n > 100000000 - (F.length:Int))=false by simpa using c1]
      refine WO.mv rfl (WO.skp (b:=false) rfl rfl (WO.skp (b:=false) rfl rfl (WO.skp (b:=false) rfl rfl (WO.skp (b:=false) rfl rfl (WO.pk rfl rfl rfl (OnB.no (WO.nil ?_)))))))
      exact ⟨rfl,(by repeat (first | with_reducible refine qak.put ?_ (by decide) _ | with_reducible refine qak.putn ?_ _ | with_reducible exact qak.of _ _ rfl | with_reducible exact qak.start _ _ (Nat.le_of_ble_eq_true rfl) | exact qak.start _ _ (Nat.le_of_ble_eq_true rfl))),rfl,rfl,rfl,rfl,rfl⟩
  rintro a' h' ⟨rfl,hf',j1,j8,j11,j14,j27⟩
  (obtain ⟨rl0,hrl0,rfl⟩:=hf';obtain ⟨s0,s1,s2,s3,s4,s5,s6,s7,rl1,rfl,hrl1⟩:=qal hrl0;obtain ⟨s8,s9,s10,s11,s12,s13,s14,s15,rl2,rfl,hrl2⟩:=qal hrl1;obtain ⟨s16,s17,s18,s19,s20,s21,s22,s23,rl3,rfl,hrl3⟩:=qal hrl2;obtain ⟨s24,s25,s26,s27,s28,s29,s30,s31,rl4,rfl,hrl4⟩:=qal hrl3;obtain ⟨s32,s33,s34,s35,s36,s37,s38,s39,rl5,rfl,hrl5⟩:=qal hrl4;obtain ⟨s40,s41,s42,s43,s44,s45,s46,s47,rl6,rfl,hrl6⟩:=qal hrl5;obtain ⟨s48,s49,s50,s51,s52,s53,s54,s55,rl7,rfl,hrl7⟩:=qal hrl6;obtain ⟨s56,rl8,rfl,hrl8⟩:=qaj hrl7;obtain ⟨s57,rl9,rfl,hrl9⟩:=qaj hrl8;obtain ⟨s58,rl10,rfl,hrl10⟩:=qaj hrl9;obtain ⟨s59,rl11,rfl,hrl11⟩:=qaj hrl10;obtain ⟨s60,rl12,rfl,hrl12⟩:=qaj hrl11;obtain ⟨s61,rl13,rfl,hrl13⟩:=qaj hrl12;obtain rfl:=qcg hrl13;clear hrl0 hrl1 hrl2 hrl3 hrl4 hrl5 hrl6 hrl7 hrl8 hrl9 hrl10 hrl11 hrl12 hrl13;obtain rfl:s1=_:=Option.some.inj (show some s1=some _ from j1);clear j1;obtain rfl:s8=_:=Option.some.inj (show some s8=some _ from j8);clear j8;obtain rfl:s11=_:=Option.some.inj (show some s11=some _ from j11);clear j11;obtain rfl:s14=_:=Option.some.inj (show some s14=some _ from j14);clear j14;obtain rfl:s27=_:=Option.some.inj (show some s27=some _ from j27);clear j27)
  refine WO.cl2 rfl rfl rfl ((k32 H _ _ _).mono ?_)
  rintro v5 h5 ⟨rfl,rfl⟩
  refine WO.bslA rfl u29 tp3 (by decide) (by decide) (by decide) (filled_ints4 _ _ _ _) fun h6 N6=>?_
  refine WO.cl1 rfl rfl ((k13 H (l:=[_,_,_,_]) N6.at_.get (by simp)).mono ?_)
  rintro v7 h7 ⟨rfl,rfl⟩
  have Y6:=Y2.trans N6.hx
  have A6:=A2.hx N6.hx
  refine WO.as rfl (WO.nil ?_)
  refine W.seq (W.reg (WO.mv rfl (WO.bi rfl rfl rfl (WO.nil ?_))))
  have hlook:qae [cond (!nameB s) 8 0,outB n 0 100000000,qae [cond (decide ((F.length:Int) > 4096)) 5 0,qae es],cond (decide (n > 100000000 - F.length) && decide ((F.length:Int)≤4096)) 4 0]=lookE s n F.length es:=rfl
  rw [hlook]
  show W Tryz.prog tp false _ (qan.put _ (some 32) (.bool (lookE s n F.length es != 0))) _ _
  rw [runE_look]
  by_cases he:lookE s n F.length es=0
  · have hlev:=hL (lookE_zero he)
    rw [show (lookE s n F.length es != 0)=false by simpa using he]
    refine W.cd rfl (OnB.no (W.skip ?_))
    refine W.seq (W.seq (W.reg (WO.fa rfl (qaf fo46_3) (WO.ld rfl (qaa tp44 A6 rfl) (WO.fa rfl (qaf fo46_2) (WO.ld rfl (qaa tp43 A6 rfl) (WO.lenC rfl (r.f.hx Y6) u43 (WO.cl2 rfl rfl rfl ((k94 H (r.s.hx Y6) hS).mono ?_)))))))))
    rintro v8 h8 ⟨rfl,X8⟩
    have Y8:=Y6.trans X8
    have A8:=A6.hx X8
    refine WO.as rfl (WO.nil ?_)
    refine W.seq (W.reg (WO.mv rfl (WO.bi rfl rfl rfl (WO.nil ?_))))
    by_cases h0:qay F.length (-1) S=0
    · rw [show (qay F.length (-1) S != 0)=false by simpa using h0]
      refine W.cd rfl (OnB.no (W.skip ?_))
      have hin:=qct h0
      have htail:tailE F.length S L=formE L S:=by unfold tailE;rw [h0];rfl
      rw [Bool.cond_false,htail]
      refine W.seq (W.seq (W.reg (WO.as rfl (WO.nil ?_))))
      refine W.block (W.loop (fun k a h2=>∃ (i:Nat),i≤F.length∧k=F.length - i∧HX h h2∧At h2 h.next (.cells (runV s n v1 v2).cells.toList true true 88)∧(∀ (j:Nat) (x:Int),j < i→L[j]?=some x→x≠0→qam S j=true)∧qak 62 a∧Tr.get a 1=some (.pointer (some ⟨h.next,0,none⟩))∧Tr.get a 5=some (.int .i64 (i:Nat)))
        ?_ F.length _ _ ⟨0,by omega,by omega,Y8,A8,fun j x hj=>by omega,(by repeat (first | with_reducible refine qak.put ?_ (by decide) _ | with_reducible refine qak.putn ?_ _ | with_reducible exact qak.of _ _ rfl | with_reducible exact qak.start _ _ (Nat.le_of_ble_eq_true rfl) | exact qak.start _ _ (Nat.le_of_ble_eq_true rfl))),rfl,rfl⟩)
      rintro k a h9 ⟨i,hi,rfl,Y9,A9,hz,hf,i1,i5⟩
      (obtain ⟨rl0,hrl0,rfl⟩:=hf;obtain ⟨s0,s1,s2,s3,s4,s5,s6,s7,rl1,rfl,hrl1⟩:=qal hrl0;obtain ⟨s8,s9,s10,s11,s12,s13,s14,s15,rl2,rfl,hrl2⟩:=qal hrl1;obtain ⟨s16,s17,s18,s19,s20,s21,s22,s23,rl3,rfl,hrl3⟩:=qal hrl2;obtain ⟨s24,s25,s26,s27,s28,s29,s30,s31,rl4,rfl,hrl4⟩:=qal hrl3;obtain ⟨s32,s33,s34,s35,s36,s37,s38,s39,rl5,rfl,hrl5⟩:=qal hrl4;obtain ⟨s40,s41,s42,s43,s44,s45,s46,s47,rl6,rfl,hrl6⟩:=qal hrl5;obtain ⟨s48,s49,s50,s51,s52,s53,s54,s55,rl7,rfl,hrl7⟩:=qal hrl6;obtain ⟨s56,rl8,rfl,hrl8⟩:=qaj hrl7;obtain ⟨s57,rl9,rfl,hrl9⟩:=qaj hrl8;obtain ⟨s58,rl10,rfl,hrl10⟩:=qaj hrl9;obtain ⟨s59,rl11,rfl,hrl11⟩:=qaj hrl10;obtain ⟨s60,rl12,rfl,hrl12⟩:=qaj hrl11;obtain ⟨s61,rl13,rfl,hrl13⟩:=qaj hrl12;obtain rfl:=qcg hrl13;clear hrl0 hrl1 hrl2 hrl3 hrl4 hrl5 hrl6 hrl7 hrl8 hrl9 hrl10 hrl11 hrl12 hrl13;obtain rfl:s1=_:=Option.some.inj (show some s1=some _ from i1);clear i1;obtain rfl:s5=_:=Option.some.inj (show some s5=some _ from i5);clear i5)
      refine W.seq (W.seq (W.reg (WO.mv rfl (WO.fa rfl (qaf fo46_2) (WO.ld rfl (qaa tp43 A9 rfl) (WO.lenC rfl (r.f.hx Y9) u43 (WO.bi rfl rfl rfl (WO.nil ?_))))))))
      by_cases hlt:i < F.length
      · rw [show decide ((i:Int) < (F.length:Int))=true by simpa using hlt]
        refine W.cd rfl (OnB.yes (W.skip ?_))
        have hF1:F[i]?=some F[i]:=List.getElem?_eq_getElem hlt
        obtain ⟨x,hx,hsx⟩:=hlev.get hF1
        obtain ⟨b,o,cc,fix,wr,el,e1,e2,e3,e4,e5⟩:=(r.f.hx Y9).at eF u43 tp25 hF1 .i64
        refine W.seq (W.block (W.seq (W.mono (Q:=fun y a' h'=>y=.normal∧HX h9 h'∧qak 62 a'∧Tr.get a' 1=some (.pointer (some ⟨h.next,0,none⟩))∧Tr.get a' 5=some (.int .i64 (i:Nat))∧Tr.get a' 61=some (.bool (!decide (x=0) && !qam S i))) ?_ ?_)))
        · refine W.reg (WO.fa rfl (qaf fo46_2) (WO.ld rfl (qaa tp43 A9 rfl) (WO.mv rfl (WO.ix rfl rfl e1 (WO.ld rfl (qaa tp25 e2 (e5 0 (by decide))) (WO.fne rfl rfl fun q hq=>?_))))))
          rw [← hq x hsx]
          cases q with
          | false =>
            refine WO.mv rfl (WO.skp (b:=false) rfl rfl (WO.skp (b:=false) rfl rfl (WO.skp (b:=false) rfl rfl (WO.skp (b:=false) rfl rfl (WO.pk rfl rfl rfl (OnB.no (WO.nil ?_)))))))
            exact ⟨rfl,HX.refl _,(by repeat (first | with_reducible refine qak.put ?_ (by decide) _ | with_reducible refine qak.putn ?_ _ | with_reducible exact qak.of _ _ rfl | with_reducible exact qak.start _ _ (Nat.le_of_ble_eq_true rfl) | exact qak.start _ _ (Nat.le_of_ble_eq_true rfl))),rfl,rfl,rfl⟩
          | true =>
            refine WO.mv rfl (WO.now (b:=true) rfl rfl (WO.ld rfl (qab tp46 A9 rfl (Nat.le_of_ble_eq_true rfl)) (WO.now (b:=true) rfl rfl (WO.mv rfl (WO.now (b:=true) rfl rfl (WO.cl2 rfl rfl rfl ((k39 H (s:=s) (n:=n) (v1:=v1) (r.s.hx Y9) hS).mono ?_)))))))
            rintro v10 h10 ⟨rfl,X10⟩
            refine WO.now (b:=true) rfl rfl (WO.nt rfl (WO.pk rfl rfl rfl (OnB.yes (WO.nil ?_))))
            exact ⟨rfl,X10,(by repeat (first | with_reducible refine qak.put ?_ (by decide) _ | with_reducible refine qak.putn ?_ _ | with_reducible exact qak.of _ _ rfl | with_reducible exact qak.start _ _ (Nat.le_of_ble_eq_true rfl) | exact qak.start _ _ (Nat.le_of_ble_eq_true rfl))),rfl,rfl,rfl⟩
        · rintro y a' h' ⟨rfl,X10,hf',j1,j5,j61⟩
          (obtain ⟨rl0,hrl0,rfl⟩:=hf';obtain ⟨s0,s1,s2,s3,s4,s5,s6,s7,rl1,rfl,hrl1⟩:=qal hrl0;obtain ⟨s8,s9,s10,s11,s12,s13,s14,s15,rl2,rfl,hrl2⟩:=qal hrl1;obtain ⟨s16,s17,s18,s19,s20,s21,s22,s23,rl3,rfl,hrl3⟩:=qal hrl2;obtain ⟨s24,s25,s26,s27,s28,s29,s30,s31,rl4,rfl,hrl4⟩:=qal hrl3;obtain ⟨s32,s33,s34,s35,s36,s37,s38,s39,rl5,rfl,hrl5⟩:=qal hrl4;obtain ⟨s40,s41,s42,s43,s44,s45,s46,s47,rl6,rfl,hrl6⟩:=qal hrl5;obtain ⟨s48,s49,s50,s51,s52,s53,s54,s55,rl7,rfl,hrl7⟩:=qal hrl6;obtain ⟨s56,rl8,rfl,hrl8⟩:=qaj hrl7;obtain ⟨s57,rl9,rfl,hrl9⟩:=qaj hrl8;obtain ⟨s58,rl10,rfl,hrl10⟩:=qaj hrl9;obtain ⟨s59,rl11,rfl,hrl11⟩:=qaj hrl10;obtain ⟨s60,rl12,rfl,hrl12⟩:=qaj hrl11;obtain ⟨s61,rl13,rfl,hrl13⟩:=qaj hrl12;obtain rfl:=qcg hrl13;clear hrl0 hrl1 hrl2 hrl3 hrl4 hrl5 hrl6 hrl7 hrl8 hrl9 hrl10 hrl11 hrl12 hrl13;obtain rfl:s1=_:=Option.some.inj (show some s1=some _ from j1);clear j1;obtain rfl:s5=_:=Option.some.inj (show some s5=some _ from j5);clear j5;obtain rfl:s61=_:=Option.some.inj (show some s61=some _ from j61);clear j61)
          have Y10:=Y9.trans X10
          have A10:=A9.hx X10
          cases hq:(!decide (x=0) && !qam S i) with
          | true =>
            simp only [Bool.and_eq_true,Bool.not_eq_true',decide_eq_false_iff_not] at hq
            refine W.cd rfl (OnB.yes (W.seq (W.reg (WO.as rfl (WO.nil (W.ret ?_))))))
            refine ⟨.inr rfl,_,rfl,?_,Y10⟩
            unfold formE
            rw [(form_iff hin).2 ⟨i,x,hx,hq.1,hq.2⟩];rfl
          | false =>
            refine W.cd rfl (OnB.no (W.skip ?_))
            refine W.reg (WO.mv rfl (WO.bi rfl rfl rfl (WO.as rfl (WO.nil ?_))))
            refine ⟨F.length - (i+1),by omega,i+1,by omega,rfl,Y10,A10,fun j x' hj hx' h0'=>?_,(by repeat (first | with_reducible refine qak.put ?_ (by decide) _ | with_reducible refine qak.putn ?_ _ | with_reducible exact qak.of _ _ rfl | with_reducible exact qak.start _ _ (Nat.le_of_ble_eq_true rfl) | exact qak.start _ _ (Nat.le_of_ble_eq_true rfl))),rfl,?_⟩
            · by_cases hji:j=i
              · subst hji
                rw [hx] at hx'
                cases hx'
                simpa [h0'] using hq
              · exact hz j x' (by omega) hx' h0'
            · show some (Value.int .i64 (qbm .i64 ((i:Int)+1)))=_
              rw [qao (by omega) (by omega)]
              rfl
      · rw [show decide ((i:Int) < (F.length:Int))=false by simpa using hlt]
        refine W.cd rfl (OnB.no (W.exit ?_))
        refine W.seq (W.reg (WO.as rfl (WO.nil (W.ret ?_))))
        refine ⟨.inr rfl,_,rfl,?_,Y9⟩
        unfold formE
        have:S.any (qdo L)=false:=by
          cases hc:S.any (qdo L) with
          | false=>rfl
          | true =>
            obtain ⟨j,x,hj,h0',hk⟩:=(form_iff hin).1 hc
            have hjl:j < L.length:=(List.getElem?_eq_some_iff.1 hj).1
            have:=hz j x (by have:=hlev.1;omega) hj h0'
            rw [hk] at this;cases this
        rw [this];rfl
    · rw [show (qay F.length (-1) S != 0)=true by simpa using h0]
      refine W.cd rfl (OnB.yes (W.seq (W.reg (WO.mv rfl (WO.as rfl (WO.nil (W.ret ?_)))))))
      refine ⟨.inr rfl,_,rfl,?_,Y8⟩
      unfold tailE
      rw [show (qay F.length (-1) S != 0)=true by simpa using h0];rfl
  · rw [show (lookE s n F.length es != 0)=true by simpa using he]
    refine W.cd rfl (OnB.yes (W.seq (W.reg (WO.mv rfl (WO.as rfl (WO.nil (W.ret ?_)))))))
    exact ⟨.inr rfl,_,rfl,rfl,Y6⟩
end Go.Tidy
namespace Go.Tidy
open Go Go.Proofs Tab
variable {tp:TProg}
def qav (S:List (Int × Int)) (m:Nat):List Bool:=(List.range m).map fun (i:Nat)=>qam S (i:Int)
theorem qcb (S:List (Int × Int)) (m:Nat):(qav S m).length=m:=by simp [qav]
end Go.Tidy
namespace Go.Tidy
open Go Go.Proofs Tab
variable {tp:TProg}
def cellsK (L:List Int) (K:List Bool):List (Int × Bool):=List.zipWith (fun l k=>if k=true then (l,true) else (0,false)) L K
def madeF (L:List Int) (K:List Bool):List Nat:=(cellsK L K).map fun c=>smp c.1
theorem take_succ_get {α:Type} {l:List α} {i:Nat} {x:α} (h:l[i]?=some x):l.take (i+1)=l.take i ++ [x]:=by
 have h1:=(List.getElem?_eq_some_iff.1 h).1
 have h2:=(List.getElem?_eq_some_iff.1 h).2
 rw [← List.take_append_getElem h1,h2]
end Go.Tidy
namespace Go.Tidy
open Go Go.Proofs Tab
variable {tp:TProg}
theorem pv_eq3 (a b:Int) (d:Nat):pv Tryz.prog (Op.equalIn (d+1) 3 (.int .i64 a) (.int .i64 b))=some (a == b):=by
 rw [Op.equalIn,qch,qbd u3]
 simp [qcs]
theorem pv_p0 (a b:Int):pv Tryz.prog (Go.part 3 #[.int .i64 a,.int .i64 b] 0)=some (.int .i64 a):=by kernel_rfl
theorem pv_p1 (a b:Int):pv Tryz.prog (Go.part 3 #[.int .i64 a,.int .i64 b] 1)=some (.int .i64 b):=by kernel_rfl
theorem pv_eq48 (a b:Int):pv Tryz.prog (Op.equal 77 (.agg #[.int .i64 a,.int .i64 b]) (.agg #[.int .i64 a,.int .i64 b]))=some true:=by
 show pv Tryz.prog (Op.equalIn (9998+1+1) 77 _ _)=_
 rw [Op.equalIn,qch,qbd Tryz.underlying77]
 simp only [Option.bind_some]
 rw [qch,pv_program]
 simp only [Option.bind_some]
 have h0:Tryz.prog.stoodInHeld 77=false:=by kernel_rfl
 rw [h0]
 simp
 have e:∀ c:Int,pv Tryz.prog (Op.equalIn 9999 3 (.int .i64 c) (.int .i64 c))=some true:=fun c=>by rw [pv_eq3 c c 9998];simp
 simp [qch,pv_p0,pv_p1,e,qcs]
theorem eqT_agg {P:Program} {t:TypeId} {xs ys:Array Value}:eqT P t (.agg xs) (.agg ys)=none:=by
 unfold eqT ptrEq nilEq
 cases P.underlying t with
 | none=>rfl
 | some d=>cases d <;> rfl
theorem WO.ne48 {a:qan} {h:TH} {K:qan→TH→Prop} {rest:List TOper} {d:Option Tmp} {ty:TypeId} {i:Nat} {x y:Operand} {u:TypeId} {p1 p2:Int} (hx:qbn a x=some (.agg #[.int .i64 p1,.int .i64 p2])) (hy:qbn a y=some (.agg #[.int .i64 p1,.int .i64 p2]))
    (w:WO Tryz.prog tp rest (a.put d (.bool false)) h K):WO Tryz.prog tp (⟨d,.binOp .neq 77 x y u,ty,none,[],i⟩::rest) a h K:=by
  have ex:=qac hx
  have ey:=qac hy
  refine WO.plainly rfl rfl rfl (by simp [qbw,qcj,ex,ey]) (by simp [qbp,ex,ey,eqT_agg]) (qca (by rfl) (fun q hq=>?_) ?_ rfl) w
  · simp only [Op.operands] at hq
    simp at hq
    rcases hq with rfl | rfl
    · rw [ex];rfl
    · rw [ey];rfl
  · show pv Tryz.prog (execOp a.eval ⟨d, .binOp .neq 77 x y u, ty, "", #[], none⟩) = _
    have hg:Tryz.prog.eqGuardType Tryz.prog.depth 77=false:=by kernel_rfl
    simp [execOp,qch,pv_map,qcs,pv_program,ex,ey,eqGuard,binOp,pv_eq48,hg]
theorem k59 (H:Has tp) {v w:Value} {S:List (Int × Int)} {h:TH} (s:SlL encS 2 h v S) (t:SlL encS 2 h w S) (hl:S.length≤1000000) :
  qad Tryz.prog tp (.func (.func 55) #[] #[]) #[v,w] h fun v' h'=>v'=.bool true∧h'=h:=by
 refine qad.full (H.fn 55 f59 rfl rfl) rfl ?_
 refine W.seq (W.reg (WO.as rfl (WO.nil ?_)))
 refine W.seq (W.seq (W.reg (WO.mv rfl (WO.lenC rfl s u44 (WO.mv rfl (WO.lenC rfl t u44 (WO.bi rfl rfl rfl (WO.nil ?_))))))))
 rw [show ((S.length:Int) != (S.length:Int))=false by simp]
 refine W.cd rfl (OnB.no (W.skip ?_))
 refine W.seq (W.seq (W.reg (WO.as rfl (WO.nil ?_))))
 refine W.block (W.loop (fun k a h2=>h2=h∧∃ i:Nat,i≤S.length∧k=S.length - i∧qak 26 a∧Tr.get a 0=some v∧Tr.get a 1=some w∧Tr.get a 5=some (.int .i64 (i:Nat)))
  ?_ S.length _ _ ⟨rfl,0,by omega,by omega,(by repeat (first | with_reducible refine qak.put ?_ (by decide) _ | with_reducible refine qak.putn ?_ _ | with_reducible exact qak.of _ _ rfl | with_reducible exact qak.start _ _ (Nat.le_of_ble_eq_true rfl) | exact qak.start _ _ (Nat.le_of_ble_eq_true rfl))),rfl,rfl,rfl⟩)
 rintro k a h2 ⟨rfl,i,hi,rfl,hf,i0,i1,i5⟩
 (obtain ⟨rl0,hrl0,rfl⟩:=hf;obtain ⟨s0,s1,s2,s3,s4,s5,s6,s7,rl1,rfl,hrl1⟩:=qal hrl0;obtain ⟨s8,s9,s10,s11,s12,s13,s14,s15,rl2,rfl,hrl2⟩:=qal hrl1;obtain ⟨s16,s17,s18,s19,s20,s21,s22,s23,rl3,rfl,hrl3⟩:=qal hrl2;obtain ⟨s24,rl4,rfl,hrl4⟩:=qaj hrl3;obtain ⟨s25,rl5,rfl,hrl5⟩:=qaj hrl4;obtain rfl:=qcg hrl5;clear hrl0 hrl1 hrl2 hrl3 hrl4 hrl5;obtain rfl:s0=_:=Option.some.inj (show some s0=some _ from i0);clear i0;obtain rfl:s1=_:=Option.some.inj (show some s1=some _ from i1);clear i1;obtain rfl:s5=_:=Option.some.inj (show some s5=some _ from i5);clear i5)
 refine W.seq (W.seq (W.reg (WO.mv rfl (WO.mv rfl (WO.lenC rfl s u44 (WO.bi rfl rfl rfl (WO.nil ?_)))))))
 by_cases hlt:i < S.length
 ·rw [show decide ((i:Int) < (S.length:Int))=true by simpa using hlt]
  refine W.cd rfl (OnB.yes (W.skip ?_))
  have hS1:S[i]?=some S[i]:=List.getElem?_eq_getElem hlt
  obtain ⟨b,o,cc,fix,wr,el,e1,e2,e3,e4,e5⟩:=s.at eS u44 tp48 hS1 .i64
  obtain ⟨b',o',cc',fix',wr',el',g1,g2,g3,g4,g5⟩:=t.at eS u44 tp48 hS1 .i64
  refine W.seq (W.block (W.seq (W.reg (WO.mv rfl (WO.mv rfl (WO.ix rfl rfl e1 (WO.ld rfl (qab tp48 e2 e4 e3) (WO.mv rfl (WO.mv rfl (WO.ix rfl rfl g1 (WO.ld rfl (qab tp48 g2 g4 g3) (WO.ne48 rfl rfl (WO.nil ?_)))))))))))))
  refine W.cd rfl (OnB.no (W.skip ?_))
  refine W.reg (WO.mv rfl (WO.bi rfl rfl rfl (WO.as rfl (WO.nil ?_))))
  refine ⟨S.length - (i+1),by omega,rfl,i+1,by omega,rfl,(by repeat (first | with_reducible refine qak.put ?_ (by decide) _ | with_reducible refine qak.putn ?_ _ | with_reducible exact qak.of _ _ rfl | with_reducible exact qak.start _ _ (Nat.le_of_ble_eq_true rfl) | exact qak.start _ _ (Nat.le_of_ble_eq_true rfl))),rfl,rfl,?_⟩
  show some (Value.int .i64 (qbm .i64 ((i:Int)+1)))=_
  rw [qao (by omega) (by omega)]
  rfl
 ·rw [show decide ((i:Int) < (S.length:Int))=false by simpa using hlt]
  refine W.cd rfl (OnB.no (W.exit ?_))
  refine W.seq (W.reg (WO.as rfl (WO.nil (W.ret ?_))))
  exact ⟨.inr rfl,_,rfl,rfl,rfl⟩
end Go.Tidy
namespace Go.Tidy
open Go Go.Proofs Tab
variable {tp:TProg}
theorem bd52z:buildT Tryz.prog 92 []=some (runV ⟨#[]⟩ 0 (.slice none 0 0) (.slice none 0 0)):=by kernel_rfl
end Go.Tidy
namespace Go.Tidy
open Go Go.Proofs Tab
variable {tp:TProg}
theorem k83 (H:Has tp) {v:Value} {F:List Nat} {h:TH} (sF:SlL encF 1 h v F) :
  qad Tryz.prog tp (.func (.func 148) #[] #[]) #[v] h fun v' h'=>v'=.bool (decide ((F.length:Int)≤40) || ((F.length:Int) == 4097))∧h'=h:=by
 refine qad.full (H.fn 148 f83 rfl rfl) rfl ?_
 refine W.seq (W.reg (WO.as rfl (WO.nil ?_)))
 refine W.seq (W.reg (WO.mv rfl (WO.lenC rfl sF u43 (WO.bi rfl rfl rfl ?_))))
 by_cases c1:(F.length:Int)≤40
 ·rw [show decide ((F.length:Int)≤40)=true by simpa using c1]
  exact WO.mv rfl (WO.skp (b:=true) rfl rfl (WO.skp (b:=true) rfl rfl (WO.skp (b:=true) rfl rfl (WO.pk rfl rfl rfl (OnB.yes (WO.as rfl (WO.nil (W.ret ⟨.inr rfl,_,rfl,rfl,rfl⟩))))))))
 ·rw [show decide ((F.length:Int)≤40)=false by simpa using c1]
  exact WO.mv rfl (WO.now (b:=false) rfl rfl (WO.mv rfl (WO.now (b:=false) rfl rfl (WO.lenC rfl sF u43 (WO.now (b:=false) rfl rfl (WO.bi rfl rfl rfl (WO.pk rfl rfl rfl (OnB.no (WO.as rfl (WO.nil (W.ret ⟨.inr rfl,_,rfl,rfl,rfl⟩)))))))))))
def shortB (s:ByteArray) (m k:Nat):Bool:=decide ((s.size:Int)≤40) && ((decide ((m:Int)≤40) || ((m:Int) == 4097)) && decide ((k:Int)≤12))
set_option maxRecDepth 10000 in
theorem k23 (H:Has tp) {s:ByteArray} {n:Int} {v1 v2:Value} {F:List Nat} {S:List (Int × Int)} {h:TH} (sF:SlL encF 1 h v1 F) (sS:SlL encS 2 h v2 S) :
  qad Tryz.prog tp (.func (.func 107) #[] #[]) #[runV s n v1 v2] h fun v' h'=>v'=.bool (shortB s F.length S.length)∧HX h h':=by
 refine qad.full (H.fn 107 f23 rfl rfl) rfl ?_
 refine W.seq (W.reg (WO.boxA rfl fun h1 N1=>WO.as rfl (WO.nil ?_)))
 have A1:=N1.at_
 refine W.seq (W.reg (WO.fa rfl (qaf fo46_0) (WO.ld rfl (qaa tp9 A1 rfl) (WO.lenS rfl u9 (WO.bi rfl rfl rfl ?_)))))
 by_cases c1:(s.size:Int)≤40
 ·rw [show decide ((s.size:Int)≤40)=true by simpa using c1]
  refine WO.mv rfl (WO.now (b:=true) rfl rfl (WO.fa rfl (qaf fo46_2) (WO.now (b:=true) rfl rfl (WO.ld rfl (qaa tp43 A1 rfl) (WO.now (b:=true) rfl rfl (WO.cl1 rfl rfl ((k83 H (sF.hx N1.hx)).mono ?_)))))))
  rintro v3 h3 ⟨rfl,rfl⟩
  refine WO.pk rfl rfl rfl (OnB.yes ?_)
  cases hb:(decide ((F.length:Int)≤40) || ((F.length:Int) == 4097)) with
  | true =>
   refine WO.mv rfl (WO.now (b:=true) rfl rfl (WO.fa rfl (qaf fo46_3) (WO.now (b:=true) rfl rfl (WO.ld rfl (qaa tp44 A1 rfl) (WO.now (b:=true) rfl rfl (WO.lenC rfl (sS.hx N1.hx) u44 (WO.now (b:=true) rfl rfl (WO.bi rfl rfl rfl (WO.pk rfl rfl rfl (OnB.yes (WO.as rfl (WO.nil (W.ret ⟨.inr rfl,_,rfl,?_,N1.hx⟩)))))))))))))
   unfold shortB
   rw [decide_eq_true c1,hb];rfl
  | false =>
   refine WO.mv rfl (WO.skp (b:=false) rfl rfl (WO.skp (b:=false) rfl rfl (WO.skp (b:=false) rfl rfl (WO.skp (b:=false) rfl rfl (WO.pk rfl rfl rfl (OnB.no (WO.as rfl (WO.nil (W.ret ⟨.inr rfl,_,rfl,?_,N1.hx⟩)))))))))
   unfold shortB
   rw [decide_eq_true c1,hb];rfl
 ·rw [show decide ((s.size:Int)≤40)=false by simpa using c1]
  refine WO.mv rfl (WO.skp (b:=false) rfl rfl (WO.skp (b:=false) rfl rfl (WO.skp (b:=false) rfl rfl (WO.pk rfl rfl rfl (OnB.no ?_)))))
  refine WO.mv rfl (WO.skp (b:=false) rfl rfl (WO.skp (b:=false) rfl rfl (WO.skp (b:=false) rfl rfl (WO.skp (b:=false) rfl rfl (WO.pk rfl rfl rfl (OnB.no (WO.as rfl (WO.nil (W.ret ⟨.inr rfl,_,rfl,?_,N1.hx⟩)))))))))
  unfold shortB
  rw [decide_eq_false c1];rfl
end Go.Tidy
namespace Go.Tidy
open Go Go.Proofs Tab
variable {tp:TProg}
def knownV (C:List (Int × Bool)):List Int:=(C.filter (·.2)).map (·.1)
structure Valid (s:ByteArray) (n:Int) (F:List Nat) (S:List (Int × Int)) (L:List Int):Prop where
 lev:Lev F L
 n0:0≤n
 n1:n+F.length≤100000000
 m:F.length≤4096
 hole:qay F.length (-1) S=0
 form:S.any (qdo L)=false
theorem valid_of {s:ByteArray} {n:Int} {F:List Nat} {S:List (Int × Int)} {es L:List Int} (hL:qae es=0→Lev F L) (h:runE s n F.length S es L=0):Valid s n F S L:=by
 unfold runE at h
 rcases qdt (headE s n F.length) with h1 | h1
 ·rw [h1] at h
  have h:qae [qae es,cond (decide (n+F.length > 100000000)) 4 0,tailE F.length S L]=0:=h
  obtain ⟨_,n0,n1,hm⟩:=headE_zero h1
  have e0:=qbb h (qae es) (by simp)
  have e1:=qbb h (cond (decide (n+F.length > 100000000)) 4 0) (by simp)
  have e2:=qbb h (tailE F.length S L) (by simp)
  have e3:qay F.length (-1) S=0:=by
   rcases qdt (qay F.length (-1) S) with h2 | h2
   ·exact h2
   ·unfold tailE at e2;rw [h2] at e2;exact e2
  refine ⟨hL e0,n0,?_,hm,e3,?_⟩
  ·by_cases hc:n+F.length > 100000000
   ·rw [decide_eq_true hc] at e1;cases e1
   ·omega
  ·unfold tailE at e2
   rw [e3] at e2
   cases hf:S.any (qdo L) with
   | false=>rfl
   | true=>unfold formE at e2;rw [hf] at e2;cases e2
 ·rw [h1] at h
  have:headE s n F.length=0:=h
  rw [this] at h1;cases h1
theorem Valid.in_ {s:ByteArray} {n:Int} {F:List Nat} {S:List (Int × Int)} {L:List Int} (v:Valid s n F S L):In F.length S:=qct v.hole
end Go.Tidy
namespace Go.Tidy
open Go Go.Proofs Tab
variable {tp:TProg}
theorem lev_lim {F:List Nat} {L:List Int} (h:Lev F L):∀ x,x ∈ L→x.natAbs≤16384:=fun x hx=>by
 obtain ⟨i,hi⟩:=List.mem_iff_getElem?.1 hx
 have hlt:=(List.getElem?_eq_some_iff.1 hi).1
 have:i < F.length:=by rw [h.1];exact hlt
 exact (h.2 i _ x (List.getElem?_eq_getElem this) hi).lim
theorem clr_lim {C:List (Int × Bool)} {p:Int × Int} (h:∀ c,c ∈ C→c.1.natAbs≤16384):∀ c,c ∈ clrL C p→c.1.natAbs≤16384:=fun c hc=>by
 unfold clrL at hc
 rcases List.mem_append.1 hc with hc | hc
 ·exact h c (List.mem_of_mem_take hc)
 ·rcases List.mem_append.1 hc with hc | hc
  ·rw [(List.mem_replicate.1 hc).2];decide
  ·exact h c (List.mem_of_mem_drop hc)
theorem foldl_lim:∀ (S:List (Int × Int)) (C:List (Int × Bool)),(∀ c,c ∈ C→c.1.natAbs≤16384)→∀ c,c ∈ S.foldl clrL C→c.1.natAbs≤16384
 | [],_,h=>h
 | p::S,C,h=>foldl_lim S (clrL C p) (clr_lim h)
theorem cells_lim {F:List Nat} {L:List Int} (h:Lev F L) (S:List (Int × Int)):∀ c,c ∈ qbj L S→c.1.natAbs≤16384 :=
 foldl_lim S _ fun c hc=>by
  obtain ⟨x,hx,rfl⟩:=List.mem_map.1 hc
  exact lev_lim h x hx
theorem cells_len {F:List Nat} {L:List Int} {S:List (Int × Int)} (h:Lev F L) (hin:In F.length S):(qbj L S).length=F.length:=foldl_len S _ (by simp [all1,h.1]) hin
def sumL:List Int→Int
 | []=>0
 | x::l=>x+sumL l
end Go.Tidy
namespace Go.Tidy
open Go Go.Proofs Tab
variable {tp:TProg}
theorem clr_get {C:List (Int × Bool)} {p:Int × Int} (h1:0≤p.1) (h2:p.1≤p.2) (h3:p.2≤C.length) {i:Nat} (hi:i < C.length):(clrL C p)[i]?=if inS i p=true then some (0,false) else C[i]?:=by
 unfold clrL inS
 by_cases a1:i < p.1.toNat
 ·rw [List.getElem?_append_left (by simp;omega),List.getElem?_take_of_lt a1,if_neg (by simp;omega)]
 ·have e1:(C.take p.1.toNat).length=p.1.toNat:=by simp;omega
  rw [List.getElem?_append_right (by omega),e1]
  by_cases a2:i < p.2.toNat
  ·rw [List.getElem?_append_left (by simp;omega),List.getElem?_replicate,if_pos (by omega),if_pos (by simp;omega)]
  ·rw [List.getElem?_append_right (by simp;omega),List.getElem?_drop,if_neg (by simp;omega),List.length_replicate]
   congr 1
   omega
theorem foldl_get {m:Nat}:∀ (S:List (Int × Int)) (C:List (Int × Bool)),C.length=m→In m S→∀ i:Nat,i < m→(S.foldl clrL C)[i]?=if qam S i=true then C[i]? else some (0,false)
 | [],C,hC,_,i,hi=>by simp [qam]
 | p::S,C,hC,hin,i,hi=>by
  obtain ⟨h1,h2,h3⟩:=hin p (by simp)
  have hl:=clrL_len h1 h2 (show p.2≤C.length by omega)
  rw [List.foldl_cons,foldl_get S (clrL C p) (by rw [hl];exact hC) (fun q hq=>hin q (by simp [hq])) i hi,clr_get h1 h2 (by omega) (by omega)]
  unfold qam
  rw [List.any_cons]
  cases inS i p <;> cases S.any (inS i) <;> simp
theorem cells_eq {F:List Nat} {L:List Int} {S:List (Int × Int)} (hL:Lev F L) (hin:In F.length S):qbj L S=cellsK L (qav S F.length):=by
 apply List.ext_getElem?
 intro i
 by_cases hi:i < F.length
 ·have hiL:i < L.length:=by rw [← hL.1];exact hi
  unfold qbj
  rw [foldl_get S _ (by simp [all1,hL.1]) hin i hi]
  unfold cellsK qav all1
  rw [List.getElem?_zipWith,List.getElem?_map,List.getElem?_map,List.getElem?_range hi,List.getElem?_eq_getElem hiL]
  cases hk:qam S i <;> simp [hk]
 ·rw [List.getElem?_eq_none (by rw [cells_len hL hin];omega),List.getElem?_eq_none (by have:=hL.1;simp [cellsK,qav];omega)]
def Dark (L:List Int) (K:List Bool):Prop:=L.length=K.length∧∀ (i:Nat) (x:Int),L[i]?=some x→K[i]?=some false→x=0
theorem Valid.dark {s:ByteArray} {n:Int} {F:List Nat} {S:List (Int × Int)} {L:List Int} (v:Valid s n F S L):Dark L (qav S F.length):=by
 refine ⟨by rw [qcb,v.lev.1],fun i x hx hk=>?_⟩
 have hi:i < F.length:=by rw [v.lev.1];exact (List.getElem?_eq_some_iff.1 hx).1
 unfold qav at hk
 rw [List.getElem?_map,List.getElem?_range hi] at hk
 have hk:qam S i=false:=by simpa using hk
 by_cases h0:x=0
 ·exact h0
 ·have:=(form_iff v.in_).2 ⟨i,x,hx,h0,hk⟩
  rw [v.form] at this;cases this
theorem Dark.tail {l:Int} {k:Bool} {L:List Int} {K:List Bool} (d:Dark (l::L) (k::K)):Dark L K∧(k=false→l=0) :=
 ⟨⟨by have:=d.1;simpa using this,fun i x h1 h2=>d.2 (i+1) x (by simpa using h1) (by simpa using h2)⟩,fun hk=>d.2 0 l rfl (by rw [hk];rfl)⟩
theorem cellsK_cons (l:Int) (k:Bool) (L:List Int) (K:List Bool):cellsK (l::L) (k::K)=(if k=true then (l,true) else (0,false))::cellsK L K:=rfl
theorem dark_sum:∀ {L:List Int} {K:List Bool},Dark L K→sumL (knownV (cellsK L K))=sumL L
  | [],K,d=>by
    have:K=[]:=List.eq_nil_of_length_eq_zero d.1.symm
    subst this;rfl
  | l::L,[],d=>by have:=d.1;simp at this
  | l::L,k::K,d=>by
    obtain ⟨d1,d2⟩:=d.tail
    have ih:=dark_sum d1
    rw [cellsK_cons]
    cases k with
    | true=>simp only [knownV,List.filter_cons,List.map_cons,sumL,if_true] at ih ⊢;rw [ih]
    | false =>
      rw [d2 rfl]
      simp only [knownV,List.filter_cons,List.map_cons,sumL] at ih ⊢
      simpa using ih
theorem WO.addI {P:Program} {a:qan} {h:TH} {K:qan→TH→Prop} {rest:List TOper} {d:Option Tmp} {ty:TypeId} {i:Nat} {x y:Operand} {t u:TypeId} {m n:Int} (hx:qbn a x=some (.int .i64 m)) (hy:qbn a y=some (.int .i64 n)) (h1:-9223372036854775808≤m+n) (h2:m+n≤9223372036854775807)
  (w:WO P tp rest (a.put d (.int .i64 (m+n))) h K):WO P tp (⟨d,.binOp .add t x y u,ty,none,[],i⟩::rest) a h K:=by
 refine WO.bi hx hy ?_ w
 show some (Value.int .i64 (qbm .i64 (m+n)))=_
 rw [qao h1 h2]
end Go.Tidy
namespace Go.Tidy
open Go Go.Proofs Tab
variable {tp:TProg}
theorem WO.quoI {P:Program} {a:qan} {h:TH} {K:qan→TH→Prop} {rest:List TOper} {d:Option Tmp} {ty:TypeId} {i:Nat} {x y:Operand} {t u:TypeId} {m n:Int} (hx:qbn a x=some (.int .i64 m)) (hy:qbn a y=some (.int .i64 n)) (hn:n≠0)
  (w:WO P tp rest (a.put d (.int .i64 (qbm .i64 (m.tdiv n)))) h K):WO P tp (⟨d,.binOp .quo t x y u,ty,none,[],i⟩::rest) a h K:=by
 refine WO.bi hx hy ?_ w
 have hk:Nat.beq (kindNo .i64) (kindNo .i64)=true:=Nat.beq_refl _
 have hb:(n == 0)=false:=by simpa using hn
 simp only [qcj,hk,fastInt,hb,Bool.cond_true,Bool.cond_false]
theorem res_cell1 {P:Program} {a:qan} {h:TH} {t u:Nat} {ty:TypeId} {p v w:Value} (hx:qbn a (.tmp t)=some p) (hv:loadT P ty p h=some v) (hu:qbn a (.tmp u)=some w):qbc P [.cell t ty,.tmp u] a h=some [v,w]:=by
 have e:=qac hx
 have e':a.at_ t=p:=e
 have g:=qac hu
 have g':a.at_ u=w:=g
 simp [qbc,e',hv,g']
end Go.Tidy
namespace Go.Tidy
open Go Go.Proofs Tab
variable {tp:TProg}
def Swapped {α:Type} (C D:List α) (i:Nat):Prop:=D.length=C.length∧∀ x,x < C.length→D[x]?=if x < i∨C.length≤x+i then C[C.length - 1 - x]? else C[x]?
theorem Swapped.zero {α:Type} (C:List α):Swapped C C 0:=⟨rfl,fun x hx=>by rw [if_neg (by omega)]⟩
theorem Swapped.step {α:Type} {C D:List α} {i:Nat} (s:Swapped C D i) (hi:i+i+1 < C.length) {x y:α} (hx:D[i]?=some x) (hy:D[C.length - 1 - i]?=some y):Swapped C ((D.set i y).set (C.length - 1 - i) x) (i+1):=by
 have e1:=s.2 i (by omega)
 have e2:=s.2 (C.length - 1 - i) (by omega)
 rw [if_neg (by omega),hx] at e1
 rw [if_neg (by omega),hy] at e2
 refine ⟨by rw [List.length_set,List.length_set,s.1],fun z hz=>?_⟩
 by_cases h1:z=C.length - 1 - i
 ·subst h1
  rw [List.getElem?_set_self (by rw [List.length_set,s.1];exact hz),if_pos (by omega),show C.length - 1 - (C.length - 1 - i)=i by omega]
  exact e1
 ·rw [List.getElem?_set_ne (by omega)]
  by_cases h2:z=i
  ·subst h2
   rw [List.getElem?_set_self (by rw [s.1];exact hz),if_pos (by omega)]
   exact e2
  ·rw [List.getElem?_set_ne (by omega),s.2 z hz]
   by_cases h3:z < i∨C.length≤z+i
   ·rw [if_pos h3,if_pos (by omega)]
   ·rw [if_neg h3,if_neg (by omega)]
theorem Swapped.done {α:Type} {C D:List α} {i:Nat} (s:Swapped C D i) (hi:C.length≤i+i+1):D=C.reverse:=by
 apply List.ext_getElem?
 intro x
 by_cases hx:x < C.length
 ·rw [s.2 x hx,List.getElem?_reverse hx]
  by_cases h:x < i∨C.length≤x+i
  ·rw [if_pos h]
  ·rw [if_neg h];congr 1;omega
 ·rw [List.getElem?_eq_none (by rw [s.1];omega),List.getElem?_eq_none (by simp;omega)]
set_option maxRecDepth 10000 in
theorem k90 (H:Has tp) {b n0:Nat} {C:List (Int × Bool)} {h:TH} (A:At h b (.cells (cat encC C) true true 177)) (hC:C.length≤900000) (f:Free0 n0 h) (hb:n0≤b) :
  qad Tryz.prog tp (.func (.func 118) #[] #[]) #[.slice (some ⟨b,0,none⟩) C.length C.length] h fun v h'=>At h' b (.cells (cat encC C.reverse) true true 177)∧(∀ h0,HX h0 h→h0.next≤b→HX h0 h')∧(∀ c y,c≠b→At h c y→At h' c y)∧Free0 n0 h'∧h'.next=h.next:=by
 refine qad.full (H.fn 118 f90 rfl rfl) rfl ?_
 refine W.seq (W.reg (WO.mv rfl (WO.lenC rfl (SlL.own eC A rfl) u135 (WO.bi (v:=.int .i64 ((C.length:Int) - 1)) rfl rfl ?_ (WO.as rfl (WO.as rfl (WO.nil ?_)))))))
 ·show some (Value.int .i64 (qbm .i64 ((C.length:Int) - 1)))=_
  rw [qao (by omega) (by omega)]
 refine W.block (W.loop (fun k a h2=>∃ (i:Nat) (D:List (Int × Bool)),k=C.length - i∧i≤C.length∧Swapped C D i∧At h2 b (.cells (cat encC D) true true 177)∧(∀ h0,HX h0 h→h0.next≤b→HX h0 h2)∧(∀ c y,c≠b→At h c y→At h2 c y)∧Free0 n0 h2∧h2.next=h.next∧qak 28 a∧Tr.get a 0=some (.slice (some ⟨b,0,none⟩) C.length C.length)∧Tr.get a 2=some (.int .i64 (i:Nat))∧Tr.get a 3=some (.int .i64 ((C.length:Int) - 1 - i)))
  ?_ C.length _ _ ⟨0,C,by omega,by omega,Swapped.zero C,A,fun _ hx _=>hx,fun _ _ _ ha=>ha,f,rfl,(by repeat (first | with_reducible refine qak.put ?_ (by decide) _ | with_reducible refine qak.putn ?_ _ | with_reducible exact qak.of _ _ rfl | with_reducible exact qak.start _ _ (Nat.le_of_ble_eq_true rfl) | exact qak.start _ _ (Nat.le_of_ble_eq_true rfl))),rfl,rfl,by simp;rfl⟩)
 rintro k a h2 ⟨i,D,rfl,hiC,sw,A2,x2,o2,f2,n2,hf,i0,i2,i3⟩
 (obtain ⟨rl0,hrl0,rfl⟩:=hf;obtain ⟨s0,s1,s2,s3,s4,s5,s6,s7,rl1,rfl,hrl1⟩:=qal hrl0;obtain ⟨s8,s9,s10,s11,s12,s13,s14,s15,rl2,rfl,hrl2⟩:=qal hrl1;obtain ⟨s16,s17,s18,s19,s20,s21,s22,s23,rl3,rfl,hrl3⟩:=qal hrl2;obtain ⟨s24,rl4,rfl,hrl4⟩:=qaj hrl3;obtain ⟨s25,rl5,rfl,hrl5⟩:=qaj hrl4;obtain ⟨s26,rl6,rfl,hrl6⟩:=qaj hrl5;obtain ⟨s27,rl7,rfl,hrl7⟩:=qaj hrl6;obtain rfl:=qcg hrl7;clear hrl0 hrl1 hrl2 hrl3 hrl4 hrl5 hrl6 hrl7;obtain rfl:s0=_:=Option.some.inj (show some s0=some _ from i0);clear i0;obtain rfl:s2=_:=Option.some.inj (show some s2=some _ from i2);clear i2;obtain rfl:s3=_:=Option.some.inj (show some s3=some _ from i3);clear i3)
 refine W.seq (W.seq (W.reg (WO.mv rfl (WO.mv rfl (WO.bi rfl rfl rfl (WO.nil ?_))))))
 by_cases hlt:(i:Int) < (C.length:Int) - 1 - i
 ·rw [show decide ((i:Int) < (C.length:Int) - 1 - i)=true by simpa using hlt]
  refine W.cd rfl (OnB.yes (W.skip ?_))
  have hj:(C.length:Int) - 1 - i=((C.length - 1 - i:Nat):Int):=by omega
  have hDi:D[i]?=some (D[i]'(by rw [sw.1];omega)):=List.getElem?_eq_getElem _
  have hDj:D[C.length - 1 - i]?=some (D[C.length - 1 - i]'(by rw [sw.1];omega)):=List.getElem?_eq_getElem _
  have swn:=sw.step (by omega) hDi hDj
  have hDl:=sw.1
  generalize (D[i]'(by rw [sw.1];omega))=p at *
  generalize (D[C.length - 1 - i]'(by rw [sw.1];omega))=q at *
  rw [hj]
  have sD:SlL encC 2 h2 (.slice (some ⟨b,0,none⟩) C.length C.length) D:=SlL.own eC A2 hDl
  obtain ⟨b4,o4,cc,fix,wr,el,e1,e2,e3,e4,e5⟩:=sD.at eC u135 tp134 hDi .i64
  obtain ⟨b5,o5,cc',fix',wr',el',g1,g2,g3,g4,g5⟩:=sD.at eC u135 tp134 hDj .i64
  refine W.seq (W.block (W.reg (WO.mv rfl (WO.mv rfl (WO.mv rfl (WO.mv rfl (WO.mv rfl (WO.mv rfl (WO.ix rfl rfl g1 (WO.ld rfl (qab tp134 g2 g4 g3) (WO.mv rfl (WO.mv rfl (WO.ix rfl rfl e1 (WO.ld rfl (qab tp134 e2 e4 e3) ?_))))))))))))))
  refine WO.ix rfl rfl (qbv u135 tp134 (by omega)) (WO.stA rfl rfl tp134 A2 rfl rfl (by rw [eC.cat_len];omega) rfl f2 hb fun h3 P3=>?_)
  have A3:=P3.at_
  rw [show (0:Nat)+i*2=i*2 by omega,show (Value.agg (encC q).toArray).cells.toList=encC q from rfl,eC.set (by omega)] at A3
  refine WO.ix rfl rfl (qbv u135 tp134 (by omega)) (WO.stA rfl rfl tp134 A3 rfl rfl (by rw [eC.cat_len,List.length_set];omega) rfl ⟨by rw [P3.floor];exact f2.floor,by rw [P3.lock];exact f2.lock⟩ hb fun h4 P4=>WO.nil ?_)
  have A4:=P4.at_
  rw [show (0:Nat)+(C.length - 1 - i)*2=(C.length - 1 - i)*2 by omega,show (Value.agg (encC p).toArray).cells.toList=encC p from rfl,eC.set (by rw [List.length_set];omega)] at A4
  refine W.reg (WO.mv rfl (WO.addI rfl rfl (by omega) (by omega) (WO.mv rfl (WO.bi (v:=.int .i64 ((C.length:Int) - 1 - ((i+1:Nat):Int))) rfl rfl ?_ (WO.as rfl (WO.as rfl (WO.nil ?_)))))))
  ·show some (Value.int .i64 (qbm .i64 (((C.length - 1 - i:Nat):Int) - 1)))=_
   rw [qao (by omega) (by omega)]
   congr 2
   omega
  exact ⟨C.length - (i+1),by omega,i+1,_,rfl,by omega,swn,A4,fun h0 hx hb'=>P4.hx _ (P3.hx _ (x2 h0 hx hb') hb') hb',fun c y hc ha=>P4.oth _ _ hc (P3.oth _ _ hc (o2 c y hc ha)),⟨by rw [P4.floor,P3.floor];exact f2.floor,by rw [P4.lock,P3.lock];exact f2.lock⟩,by rw [P4.next,P3.next,n2],(by repeat (first | with_reducible refine qak.put ?_ (by decide) _ | with_reducible refine qak.putn ?_ _ | with_reducible exact qak.of _ _ rfl | with_reducible exact qak.start _ _ (Nat.le_of_ble_eq_true rfl) | exact qak.start _ _ (Nat.le_of_ble_eq_true rfl))),rfl,rfl,rfl⟩
 ·rw [show decide ((i:Int) < (C.length:Int) - 1 - i)=false by simpa using hlt]
  refine W.cd rfl (OnB.no (W.exit ?_))
  have:=sw.done (by omega)
  subst this
  exact ⟨.inl rfl,_,rfl,A2,x2,o2,f2,n2⟩
end Go.Tidy
namespace Go.Tidy
open Go Go.Proofs Tab
variable {tp:TProg}
def run0:Value:=runV ⟨#[]⟩ 0 (.slice none 0 0) (.slice none 0 0)
def RunR (h h':TH) (v:Value) (s:ByteArray) (n:Int) (C:List (Int × Bool)) (e:Int):Prop :=
 HX h h'∧((e≠0∧v=.tuple #[run0,.int .i64 e])∨(e=0∧∃ w1 w2,v=.tuple #[runV s n w1 w2,.int .i64 0]∧RunO h.next h' w1 w2 (C.map fun c=>smp c.1) (qah (C.map fun c=>c.2))))
set_option maxRecDepth 10000 in
theorem k28 (H:Has tp) (X:HasX tp) {s:ByteArray} {n:Int} {v1 v2:Value} {F:List Nat} {S:List (Int × Int)} {es L:List Int} {h:TH} (r:RunH h v1 v2 F S) (hE:SErr F es) (hL:qae es=0→Lev F L) (hF:F.length≤900000) (hS:S.length≤900000) (f:Free0 h.next h) :
  qad Tryz.prog tp (.func (.func 51) #[] #[]) #[runV s n v1 v2] h fun v h'=>RunR h h' v s n (qbj L S).reverse (runE s n F.length S es L):=by
 refine qad.full (H.fn 51 f28 rfl rfl) rfl ?_
 refine W.seq (W.reg (WO.boxA rfl fun h1 N1=>WO.alA tp52 fun h2 N2=>WO.as rfl (WO.nil ?_)))
 have q1:=N1.next
 have q2:=N2.next
 have X2:=N1.hx.trans N2.hx
 have A2:=N1.at_.hx N2.hx
 refine W.seq (W.seq (W.reg (WO.ld rfl (qab tp52 A2 rfl (Nat.le_of_ble_eq_true rfl)) (WO.cl1 rfl rfl ((k41 H X (s:=s) (n:=n) (r.hx X2) hE hL (by omega) (by omega) (f.next X2 X2.next)).mono ?_)))))
 rintro v3 h3 ⟨rfl,X3⟩
 have Y3:=X2.trans X3
 have B3:=N2.at_.hx X3
 refine WO.as rfl (WO.nil ?_)
 refine W.seq (W.reg (WO.mv rfl (WO.bi rfl rfl rfl (WO.nil ?_))))
 show W Tryz.prog tp false _ (qan.put _ (some 9) (.bool (runE s n F.length S es L != 0))) _ _
 rcases qdt (runE s n F.length S es L) with h0 | h0
 ·have V:=valid_of hL h0
  have hb:(runE s n F.length S es L != 0)=false:=by rw [h0];rfl
  rw [hb]
  refine W.cd rfl (OnB.no (W.skip ?_))
  refine W.seq (W.reg (WO.ld rfl (qab tp52 (A2.hx X3) rfl (Nat.le_of_ble_eq_true rfl)) (WO.cl1 rfl rfl ((k85 H (s:=s) (n:=n) (r.hx Y3) V.lev (by omega) (by omega) V.in_ (f.next Y3 Y3.next)).mono ?_))))
  rintro v4 h4 ⟨b4,rfl,hb4,A4,X4⟩
  have Y4:=Y3.trans X4
  have hcl:(qbj L S).length=F.length:=cells_len V.lev V.in_
  have hlim:=cells_lim V.lev S
  have Vm:=V.m
  refine WO.as rfl (WO.nil ?_)
  have lt3:=(A2.hx X3).lt
  have lt3':=B3.lt
  rw [← hcl]
  refine W.seq (W.reg (WO.mv rfl (WO.cl1 rfl rfl ((k90 H A4 (by omega) (f.hx Y4) (by have:=Y3.next;omega)).mono ?_))))
  rintro v5 h5 ⟨A5,x5,o5,f5,n5⟩
  have Y5:=x5 _ Y4 (by have:=Y3.next;omega)
  have B5:=o5 _ _ (by omega) (B3.hx X4)
  have C5:=o5 _ _ (by omega) ((A2.hx X3).hx X4)
  refine WO.nil ?_
  refine W.seq (W.reg (WO.fa rfl (qaf fo52_0) (WO.ld rfl (qaa tp9 C5 rfl) (WO.fa rfl (qaf fo52_1) (WO.ld rfl (qaa tp3 C5 rfl) (WO.mv rfl (WO.cl3 rfl rfl rfl rfl ((k89 H (SlL.own eC A5 (by simp)) (fun c hc=>hlim c (by simpa using hc)) (by simp;omega) (f.next Y5 Y5.next)).mono ?_))))))))
  rintro v6 h6 ⟨w1,w2,rfl,X6,r6⟩
  have Y6:=Y5.trans X6
  obtain ⟨bo1,c1,rfl⟩:=r6.r.f.form
  obtain ⟨bo2,c2,rfl⟩:=r6.r.s.form
  refine WO.stA rfl rfl tp52 (B5.hx X6) rfl rfl (Nat.le_of_ble_eq_true rfl) rfl (f.hx Y6) (by omega) fun h7 P7=>WO.as rfl (WO.nil (W.ret ?_))
  have lt5:=B5.lt
  refine ⟨.inr rfl,_,res_cell1 rfl (qab tp52 P7.at_ rfl (Nat.le_of_ble_eq_true rfl)) rfl,P7.hx _ Y6 (by omega),.inr ⟨by rw [hcl];exact h0,_,_,rfl,(r6.away P7 (by omega)).le (by omega)⟩⟩
 ·rw [h0]
  refine W.cd rfl (OnB.yes (W.seq (W.reg (WO.bd rfl bd52z (WO.mv rfl (WO.stA rfl rfl tp52 B3 rfl rfl (Nat.le_of_ble_eq_true rfl) rfl (f.hx Y3) (by omega) fun h6 P6=>WO.as rfl (WO.nil (W.ret ?_))))))))
  exact ⟨.inr rfl,_,res_cell1 rfl (qab tp52 P6.at_ rfl (Nat.le_of_ble_eq_true rfl)) rfl,P6.hx _ Y3 (by omega),.inl ⟨by simpa using h0,rfl⟩⟩
end Go.Tidy
namespace Go.Tidy
open Go Go.Proofs Tab
variable {tp:TProg}
theorem cellsK_snd:∀ {L:List Int} {K:List Bool},K.length=L.length→(cellsK L K).map (fun c=>c.2)=K
 | [],[],_=>rfl
 | [],_::_,h=>by simp at h
 | _::_,[],h=>by simp at h
 | l::L,k::K,h=>by
  rw [cellsK_cons,List.map_cons,cellsK_snd (by simpa using h)]
  cases k <;> rfl
theorem OwnL.some {α:Type} {enc:α→List Value} {n0:Nat} {h:TH} {v:Value} {e:TypeId} {l:List α} (o:OwnL enc n0 h v e l) (hl:0 < l.length):∃ b,v=.slice (Option.some ⟨b,0,none⟩) l.length l.length∧n0≤b∧At h b (.cells (cat enc l) false true e):=by
 rcases o with ⟨_,rfl⟩ | ⟨_,h⟩
 ·simp at hl
 ·exact h
end Go.Tidy
namespace Go.Tidy
open Go Go.Proofs Tab
variable {tp:TProg}
def shapeB (n:Int) (m:Nat) (n':Int) (m':Nat):Bool:=(n == n') && ((m:Int) == (m':Int))
set_option maxRecDepth 10000 in
theorem k109 (H:Has tp) {s s':ByteArray} {n n':Int} {v1 v2 w1 w2:Value} {F G:List Nat} {h:TH} (sF:SlL encF 1 h v1 F) (sG:SlL encF 1 h w1 G) :
  qad Tryz.prog tp (.func (.func 114) #[] #[]) #[runV s n v1 v2,runV s' n' w1 w2] h fun v h'=>v=.bool (shapeB n F.length n' G.length)∧HX h h':=by
 refine qad.fnL (H.fn 114 f109 rfl rfl) ?_
 refine WL.sr<|WOL.box rfl fun h1 N1=>?_
 refine WOL.box rfl fun h2 N2=>?_
 have X2:=N1.hx.trans N2.hx
 have A1:=N1.at_.hx N2.hx
 have A2:=N2.at_
 refine WOL.as rfl<|WOL.nil<|keep [(2,_),(3,_)] ⟨rfl,rfl,trivial⟩ ?_
 refine WL.sr<|WOL.fa rfl (qaf fo52_1)<|WOL.ld rfl (qaa tp3 A1 rfl) ?_
 refine WOL.fa rfl (qaf fo52_1)<|WOL.ld rfl (qaa tp3 A2 rfl) ?_
 refine WOL.bi (v:=.bool (n == n')) rfl rfl rfl ?_
 cases hn:n == n' with
 | true =>
  refine WOL.mv rfl<|WOL.now (b:=true) rfl rfl<|WOL.fa rfl (qaf fo52_2)<|WOL.now (b:=true) rfl rfl<|WOL.ld rfl (qaa tp43 A1 rfl)<|WOL.now (b:=true) rfl rfl<|WOL.len rfl (sF.hx X2) u43 ?_
  refine WOL.now (b:=true) rfl rfl<|WOL.fa rfl (qaf fo52_2)<|WOL.now (b:=true) rfl rfl<|WOL.ld rfl (qaa tp43 A2 rfl)<|WOL.now (b:=true) rfl rfl<|WOL.len rfl (sG.hx X2) u43 ?_
  refine WOL.now (b:=true) rfl rfl<|WOL.bi rfl rfl rfl<|WOL.pkt rfl rfl<|WOL.as rfl<|WOL.nil<|keep [(4,_)] ⟨rfl,trivial⟩ ?_
  exact WL.ret (WL.end_ rfl ⟨by show Value.bool ((F.length:Int) == (G.length:Int))=_;rw [shapeB,hn];rfl,X2⟩)
 | false =>
  refine WOL.mv rfl<|WOL.skp (b:=false) rfl rfl<|WOL.skp (b:=false) rfl rfl<|WOL.skp (b:=false) rfl rfl<|WOL.skp (b:=false) rfl rfl<|WOL.skp (b:=false) rfl rfl<|WOL.skp (b:=false) rfl rfl<|WOL.skp (b:=false) rfl rfl ?_
  refine WOL.pkf rfl rfl<|WOL.as rfl<|WOL.nil<|keep [(4,_)] ⟨rfl,trivial⟩ ?_
  exact WL.ret (WL.end_ rfl ⟨by rw [shapeB,hn];rfl,X2⟩)
def okI (n:Int):Bool:=decide (-16384≤n) && decide (n≤16384)
theorem okI_iff {n:Int}:okI n=true ↔ n.natAbs≤16384:=by simp [okI];omega
theorem k147 (H:Has tp) (n:Int) (h:TH):qad Tryz.prog tp (.func (.func 158) #[] #[]) #[.int .i64 n] h fun v h'=>v=.bool (okI n)∧h'=h:=by
 refine qad.fnL (H.fn 158 f147 rfl rfl) ?_
 refine WL.sr<|WOL.as rfl<|WOL.nil<|keep [(0,_)] ⟨rfl,trivial⟩ ?_
 refine WL.sr<|WOL.mv rfl<|WOL.bi (v:=.bool (decide (-16384≤n))) rfl rfl rfl ?_
 cases hn:decide (-16384≤n) with
 | true =>
  refine WOL.mv rfl<|WOL.now (b:=true) rfl rfl<|WOL.mv rfl<|WOL.now (b:=true) rfl rfl<|WOL.bi rfl rfl rfl<|WOL.pkt rfl rfl<|WOL.as rfl<|WOL.nil<|keep [(2,_)] ⟨rfl,trivial⟩ ?_
  exact WL.ret (WL.end_ rfl ⟨by show Value.bool (decide (n≤16384))=_;rw [okI,hn];rfl,rfl⟩)
 | false =>
  refine WOL.mv rfl<|WOL.skp (b:=false) rfl rfl<|WOL.skp (b:=false) rfl rfl<|WOL.pkf rfl rfl<|WOL.as rfl<|WOL.nil<|keep [(2,_)] ⟨rfl,trivial⟩ ?_
  exact WL.ret (WL.end_ rfl ⟨by rw [okI,hn];rfl,rfl⟩)
theorem k146 (H:Has tp) {c:Int × Bool} {h:TH}:qad Tryz.prog tp (.func (.func 157) #[] #[]) #[.agg #[.int .i64 c.1,.bool c.2]] h fun v h'=>v=.bool (!okI c.1)∧HX h h':=by
 refine qad.fnL (H.fn 157 f146 rfl rfl) ?_
 refine WL.sr<|WOL.box rfl fun h1 N1=>?_
 refine WOL.as rfl<|WOL.nil<|keep [(1,_)] ⟨rfl,trivial⟩ ?_
 refine WL.sr<|WOL.fa rfl (qaf fo134_0)<|WOL.ld rfl (qaa tp3 N1.at_ rfl) ?_
 refine WOL.cl1 rfl rfl ((k147 H _ _).mono ?_)
 rintro v h2 ⟨rfl,rfl⟩
 refine WOL.nt rfl<|WOL.as rfl<|WOL.nil<|keep [(2,_)] ⟨rfl,trivial⟩ ?_
 exact WL.ret (WL.end_ rfl ⟨rfl,N1.hx⟩)
end Go.Tidy
namespace Go.Tidy
open Go Go.Proofs Tab
variable {tp:TProg}
section rules
variable {P:Program} {tp:TProg} {h:TH} {K:qan→TH→Prop} {rest:List TOper} {d:Option Tmp} {ty:TypeId} {i:Nat} {x y:Operand} {t u:TypeId} {L:Rg}
theorem qad.fnC {k:Nat} {fn:TFun} {args cap:Array Value} {V:Value→TH→Prop} (hk:tp.fn k=some fn)
  (w:∀ a,Kn (argL 0 (args ++ cap).toList) a→W P tp false fn.body a h (Fin P fn.results V)):qad P tp (.func (.func k) #[] cap) args h V:=by
 have w':=w (qan.ofList (args ++ cap).toList 0 .nil) (ofList_kn _ _ _)
 unfold W at w'
 obtain ⟨n,x,a',h',e,q⟩:=w'
 obtain ⟨hx,vs,hv,q⟩:=q.out
 unfold qad
 refine ⟨n,_,h',fun m hm=>?_,q⟩
 rcases hx with rfl | rfl
 ·simp only [qdw,hk,Array.empty_append,e m hm,hv,Option.map_some]
 ·simp only [qdw,hk,Array.empty_append,e m hm,hv,Option.map_some]
def opsL (L:Rg):List Operand→Option (List Value)
 | []=>some []
 | x::r=>match qbi L x,opsL L r with | some v,some l=>some (v::l) | _,_=>none
theorem opsL_o {a:qan} (k:Kn L a):∀ {xs:List Operand} {l:List Value},opsL L xs=some l→xs.map a.eval=l
  | [],l,h=>by simp only [opsL,Option.some.injEq] at h;subst h;rfl
  | x::r,l,h=>by
    simp only [opsL] at h
    split at h
    · rename_i v l' h1 h2
      simp only [Option.some.injEq] at h
      subst h
      simp only [List.map_cons,qac (k.o h1),opsL_o k h2]
    · cases h
theorem WOL.mf {f:Nat} {cap:Array Operand} {vs:List Value} (hc:opsL L cap.toList=some vs) (w:∀ a,Kn (qdh L d (.func (.func f) #[] vs.toArray)) a→WO P tp rest a h K):∀ a,Kn L a→WO P tp (⟨d,.makeFunc (.func f) #[] cap,ty,none,[],i⟩::rest) a h K:=fun a k=>by
 have e:=opsL_o k hc
 have e':cap.map a.eval=vs.toArray:=by apply Array.ext';simpa using e
 refine WO.op rfl rfl (fun call=>?_) (w _ (k.put d _))
 simp only [qaz,qas,qbw,qbp,Bool.cond_false,e',List.map_toArray,List.map_nil]
theorem WOL.add {m n:Int} (hx:qbi L x=some (.int .i64 m)) (hy:qbi L y=some (.int .i64 n)) (h1:-9223372036854775808≤m+n) (h2:m+n≤9223372036854775807) (w:∀ a,Kn (qdh L d (.int .i64 (m+n))) a→WO P tp rest a h K):∀ a,Kn L a→WO P tp (⟨d,.binOp .add t x y u,ty,none,[],i⟩::rest) a h K :=
 WOL.bi hx hy (by show some (Value.int .i64 (qbm .i64 (m+n)))=_;rw [qao h1 h2]) w
theorem WOL.sub {m n:Int} (hx:qbi L x=some (.int .i64 m)) (hy:qbi L y=some (.int .i64 n)) (h1:-9223372036854775808≤m - n) (h2:m - n≤9223372036854775807) (w:∀ a,Kn (qdh L d (.int .i64 (m - n))) a→WO P tp rest a h K):∀ a,Kn L a→WO P tp (⟨d,.binOp .sub t x y u,ty,none,[],i⟩::rest) a h K :=
 WOL.bi hx hy (by show some (Value.int .i64 (qbm .i64 (m - n)))=_;rw [qao h1 h2]) w
theorem WOL.mul {m n:Int} (hx:qbi L x=some (.int .i64 m)) (hy:qbi L y=some (.int .i64 n)) (h1:-9223372036854775808≤m*n) (h2:m*n≤9223372036854775807) (w:∀ a,Kn (qdh L d (.int .i64 (m*n))) a→WO P tp rest a h K):∀ a,Kn L a→WO P tp (⟨d,.binOp .mul t x y u,ty,none,[],i⟩::rest) a h K :=
 WOL.bi hx hy (by show some (Value.int .i64 (qbm .i64 (m*n)))=_;rw [qao h1 h2]) w
theorem WOL.quo {m n:Int} (hx:qbi L x=some (.int .i64 m)) (hy:qbi L y=some (.int .i64 n)) (hm:0≤m) (hn:0 < n) (h2:m≤9223372036854775807) (w:∀ a,Kn (qdh L d (.int .i64 (m / n))) a→WO P tp rest a h K):∀ a,Kn L a→WO P tp (⟨d,.binOp .quo t x y u,ty,none,[],i⟩::rest) a h K:=fun a k=>by
 refine WO.quoI (k.o hx) (k.o hy) (by omega) ?_
 have h3:m / n≤m:=Int.ediv_le_self n hm
 have h4:0≤m / n:=Int.ediv_nonneg hm (by omega)
 rw [Int.tdiv_eq_ediv_of_nonneg hm,qao (by omega) (by omega)]
 exact w _ (k.put d _)
theorem WOL.neg {m:Int} (hx:qbi L x=some (.int .i64 m)) (h1:-9223372036854775808≤-m) (h2:-m≤9223372036854775807) (w:∀ a,Kn (qdh L d (.int .i64 (-m))) a→WO P tp rest a h K):∀ a,Kn L a→WO P tp (⟨d,.unOp .neg t x,ty,none,[],i⟩::rest) a h K:=fun a k=>by
 refine WO.neg (k.o hx) ?_
 rw [show IntKind.i64.wrap (-m)=-m from IntWalk.i64_in _ (by omega)]
 exact w _ (k.put d _)
end rules
end Go.Tidy
namespace Go.Tidy
open Go Go.Proofs Tab
variable {tp:TProg}
def allOk (C:List (Int × Bool)):Bool:=C.all fun c=>okI c.1
theorem allOk_iff {C:List (Int × Bool)}:allOk C=true ↔ ∀ c,c ∈ C→c.1.natAbs≤16384:=by
 simp only [allOk,List.all_eq_true,okI_iff]
set_option maxRecDepth 10000 in
theorem k167 (H:Has tp) {v:Value} {C:List (Int × Bool)} {h:TH} (s:SlL encC 2 h v C) (hC:C.length≤1000000) :
    qad Tryz.prog tp (.func (.func 180) #[] #[]) #[v,.func (.func 157) #[] #[]] h fun v h'=>∃ z:Int,v=.int .i64 z∧decide (z ≥ 0)=!allOk C∧HX h h':=by
  refine qad.fnL (H.fn 180 f167 rfl rfl) ?_
  refine WL.sr<|WOL.as rfl<|WOL.nil<|keep [(0,_),(1,_)] ⟨rfl,rfl,trivial⟩ ?_
  refine WL.seq ?_
  refine WL.sr<|WOL.mv rfl<|WOL.len rfl s u135 ?_
  refine WOL.mv rfl<|WOL.nil<|keep [(0,_),(1,_),(7,_),(8,_)] ⟨rfl,rfl,rfl,rfl,trivial⟩ ?_
  refine WL.block ?_
  refine WL.loop (fun k a h2=>∃ j:Nat,j≤C.length∧k=C.length - j∧HX h h2∧(∀ c,c ∈ C.take j→okI c.1=true)∧Kn [(0,v),(1,.func (.func 157) #[] #[]),(7,.int .i64 C.length),(8,.int .i64 (j:Nat))] a) C.length (fun a q=>⟨0,by omega,by omega,HX.refl _,by simp,q.sub ⟨rfl,rfl,rfl,rfl,trivial⟩⟩) ?_
  rintro k a h2 ⟨j,hj,rfl,X2,ok,q⟩
  refine q.go ?_
  refine WL.sr<|WOL.bi (v:=.bool (decide ((j:Int) < C.length))) rfl rfl rfl ?_
  refine WOL.nil<|keep [(0,_),(1,_),(7,_),(8,_),(9,_)] ⟨rfl,rfl,rfl,rfl,rfl,trivial⟩ ?_
  by_cases hlt:j < C.length
  · rw [show decide ((j:Int) < (C.length:Int))=true by simpa using hlt]
    refine WL.seq<|WL.yes rfl<|WL.skip ?_
    have hC1:C[j]?=some C[j]:=List.getElem?_eq_getElem hlt
    generalize C[j]=c at hC1
    obtain ⟨b,o,cc,fix,wr,el,e1,e2,e3,e4,e5⟩:=(s.hx X2).at eC u135 tp134 hC1 .i64
    refine WL.seq<|WL.block ?_
    refine WL.sr<|WOL.mv rfl<|WOL.as rfl<|WOL.nil<|keep [(0,_),(1,_),(5,_),(7,_),(8,_)] ⟨rfl,rfl,rfl,rfl,rfl,trivial⟩ ?_
    refine WL.sr<|WOL.mv rfl<|WOL.mv rfl<|WOL.mv rfl<|WOL.ix rfl rfl e1<|WOL.ld rfl (qab tp134 e2 e4 e3) ?_
    refine WOL.cl1 rfl rfl ((k146 H (c:=c)).mono ?_)
    rintro v h3 ⟨rfl,X3⟩
    refine WOL.nil<|keep [(0,_),(1,_),(5,_),(7,_),(8,_),(16,_)] ⟨rfl,rfl,rfl,rfl,rfl,rfl,trivial⟩ ?_
    cases hb:okI c.1 with
    | false =>
      refine WL.yes rfl<|WL.sr<|WOL.mv rfl<|WOL.as rfl<|WOL.nil<|keep [(4,_)] ⟨rfl,trivial⟩ ?_
      refine WL.ret (WL.end_ rfl ⟨(j:Nat),rfl,?_,X2.trans X3⟩)
      have hall:allOk C=false:=by
        rw [Bool.eq_false_iff]
        intro h
        have:=allOk_iff.1 h c (List.mem_of_getElem? hC1)
        rw [okI_iff.2 this] at hb
        cases hb
      rw [hall];simp
    | true =>
      refine WL.no rfl<|WL.skip ?_
      refine WL.reg<|WOL.bi (v:=.int .i64 ((j+1:Nat):Int)) rfl rfl (by show some (Value.int .i64 (qbm .i64 ((j:Int)+1)))=_;rw [qao (by omega) (by omega)];rfl) ?_
      refine WOL.mv rfl<|WOL.nil<|keep [(0,_),(1,_),(7,_),(8,_)] ⟨rfl,rfl,rfl,rfl,trivial⟩ ?_
      exact fun a q=>⟨C.length - (j+1),by omega,j+1,by omega,rfl,X2.trans X3,by
        rw [take_succ_get hC1]
        intro d hd
        rcases List.mem_append.1 hd with hd | hd
        · exact ok d hd
        · simp at hd;subst hd;exact hb,q.sub ⟨rfl,rfl,rfl,rfl,trivial⟩⟩
  · rw [show decide ((j:Int) < (C.length:Int))=false by simpa using hlt]
    refine WL.seq<|WL.no rfl<|WL.exit ?_
    obtain rfl:j=C.length:=by omega
    refine WL.sr<|WOL.as rfl<|WOL.nil<|keep [(4,_)] ⟨rfl,trivial⟩ ?_
    refine WL.ret (WL.end_ rfl ⟨-1,rfl,?_,X2⟩)
    rw [List.take_length] at ok
    have:allOk C=true:=by simpa [allOk] using ok
    rw [this];rfl
theorem k145 (H:Has tp) {v:Value} {C:List (Int × Bool)} {h:TH} (s:SlL encC 2 h v C) (hC:C.length≤1000000) :
  qad Tryz.prog tp (.func (.func 156) #[] #[]) #[v,.func (.func 157) #[] #[]] h fun v h'=>v=.bool (!allOk C)∧HX h h':=by
 refine qad.fnL (H.fn 156 f145 rfl rfl) ?_
 refine WL.sr<|WOL.as rfl<|WOL.nil<|keep [(0,_),(1,_)] ⟨rfl,rfl,trivial⟩ ?_
 refine WL.sr<|WOL.mv rfl<|WOL.mv rfl ?_
 refine WOL.cl2 rfl rfl rfl ((k167 H s hC).mono ?_)
 rintro v h2 ⟨z,rfl,hz,X2⟩
 refine WOL.bi (v:=.bool (decide (z ≥ 0))) rfl rfl rfl ?_
 rw [hz]
 refine WOL.as rfl<|WOL.nil<|keep [(4,_)] ⟨rfl,trivial⟩ ?_
 exact WL.ret (WL.end_ rfl ⟨rfl,X2⟩)
theorem k104 (H:Has tp) {v:Value} {C:List (Int × Bool)} {h:TH} (s:SlL encC 2 h v C) (hC:C.length≤1000000) :
  qad Tryz.prog tp (.func (.func 116) #[] #[]) #[v] h fun v h'=>v=.bool (allOk C)∧HX h h':=by
 refine qad.fnL (H.fn 116 f104 rfl rfl) ?_
 refine WL.sr<|WOL.as rfl<|WOL.nil<|keep [(0,_)] ⟨rfl,trivial⟩ ?_
 refine WL.sr<|WOL.mv rfl ?_
 refine WOL.cl2 rfl rfl rfl ((k145 H s hC).mono ?_)
 rintro v h2 ⟨rfl,X2⟩
 refine WOL.nt rfl<|WOL.as rfl<|WOL.nil<|keep [(2,_)] ⟨rfl,trivial⟩ ?_
 exact WL.ret (WL.end_ rfl ⟨by show Value.bool (!!allOk C)=_;rw [Bool.not_not],X2⟩)
end Go.Tidy
namespace Go.Tidy
open Go Go.Proofs Tab
variable {tp:TProg}
set_option maxHeartbeats 1000000 in
theorem k87 (H:Has tp) {s:ByteArray} {n:Int} {v1 v2:Value} {F:List Nat} {S:List (Int × Int)} {h:TH} (r:RunH h v1 v2 F S) (hF:F.length≤1000000) (hS:S.length≤1000000) (f:Free0 h.next h) :
  qad Tryz.prog tp (.func (.func 113) #[] #[]) #[runV s n v1 v2] h fun v h'=>∃ w1 w2,v=runV s n w1 w2∧HX h h'∧RunO h.next h' w1 w2 F S:=by
 refine qad.full (H.fn 113 f87 rfl rfl) rfl ?_
 refine W.seq (W.reg (WO.boxA rfl fun h1 N1=>WO.alA tp46 fun h2 N2=>WO.nil ?_))
 have A1:=N1.at_.hx N2.hx
 have X2:=N1.hx.trans N2.hx
 refine W.seq (W.reg ?_)
 refine WO.fa rfl (qaf fo46_0) (WO.ld rfl (qaa tp9 A1 rfl) (WO.fa rfl (qaf fo46_1) (WO.ld rfl (qaa tp3 A1 rfl) ?_)))
 refine WO.bs0A u43 tp25 (by decide) (by decide) fun h3 N3=>?_
 have A3:=A1.hx N3.hx
 have X3:=X2.trans N3.hx
 refine WO.fa rfl (qaf fo46_2) (WO.ld rfl (qaa tp43 A3 rfl) ?_)
 refine WO.bs0A u44 tp48 (by decide) (by decide) fun h4 N4=>?_
 have A4:=A3.hx N4.hx
 have X4:=X3.trans N4.hx
 refine WO.fa rfl (qaf fo46_3) (WO.ld rfl (qaa tp44 A4 rfl) ?_)
 refine WO.apO rfl rfl u43 tp25 (N3.at_.hx N4.hx) (r.f.hx X4) (by omega) (eF.all F) fun h5 b5 X5 l5 s5 g5=>?_
 refine WO.apO rfl rfl u44 tp48 (N4.at_.hx X5) ((r.s.hx X4).hx X5) (by omega) (eS.all S) fun h6 b6 X6 l6 s6 g6=>?_
 have A6:=(((N2.at_.hx N3.hx).hx N4.hx).hx X5).hx X6
 have X7:=(X4.trans X5).trans X6
 refine WO.bd rfl bd46 ?_
 refine WO.stA rfl rfl tp46 A6 rfl rfl (by decide) rfl (f.hx X7) (by have:=N1.next;omega) fun h7 P7=>WO.nil (W.ret ?_)
 have q1:=N1.next
 have q2:=N2.next
 have q3:=N3.next
 have X8:=P7.hx _ X7 (by omega)
 exact ⟨.inr rfl,_,res_cell rfl (qab tp46 P7.at_ rfl (Nat.le_of_ble_eq_true rfl)),_,_,rfl,X8,⟨(s5.hx X6).put P7 (by omega),s6.put P7 (by omega),(g5.hx X6).away P7 (Above.slice (Nat.le_refl b5)) (by omega)⟩,Above.slice (by omega),Above.slice (by omega)⟩
end Go.Tidy
namespace Go.Tidy
open Go Go.Proofs Tab
theorem lev_smp {C:List (Int × Bool)} (h:∀ c,c ∈ C→c.1.natAbs≤16384):Lev (C.map fun c=>smp c.1) (C.map fun c=>c.1):=by
 refine ⟨by simp,fun i b n hb hn=>?_⟩
 rw [List.getElem?_map] at hb hn
 cases hc:C[i]? with
 | none=>rw [hc] at hb;simp at hb
 | some c =>
  rw [hc] at hb hn
  simp only [Option.map_some,Option.some.injEq] at hb hn
  subst hb;subst hn
  exact (smp_ok (h c (List.mem_of_getElem? hc))).2.2
section
variable {s:ByteArray} {n:Int} {F:List Nat} {S:List (Int × Int)} {L:List Int}
theorem Valid.cells (V:Valid s n F S L):qbj L S=cellsK L (qav S F.length):=cells_eq V.lev V.in_
theorem Valid.lim (V:Valid s n F S L):∀ c,c ∈ qbj L S→c.1.natAbs≤16384:=cells_lim V.lev S
theorem Valid.kl (V:Valid s n F S L):(qav S F.length).length=L.length:=by rw [qcb,V.lev.1]
theorem Valid.sum (V:Valid s n F S L):sumL (knownV (qbj L S))=sumL L:=by rw [V.cells,dark_sum V.dark]
theorem Valid.at_ (V:Valid s n F S L) {i b:Nat} (hb:F[i]?=some b):∃ x,L[i]?=some x∧Samp b x∧(qbj L S)[i]?=some (x,qam S i):=by
 obtain ⟨x,hx,sx⟩:=V.lev.get hb
 have hi:i < F.length:=(List.getElem?_eq_some_iff.1 hb).1
 have hk:(qav S F.length)[i]?=some (qam S (i:Int)):=by
  unfold qav
  rw [List.getElem?_map,List.getElem?_range hi];rfl
 refine ⟨x,hx,sx,?_⟩
 rw [V.cells]
 unfold cellsK
 rw [List.getElem?_zipWith,hx,hk]
 cases hq:qam S (i:Int)
 ·have:=V.dark.2 i x hx (by rw [hk,hq])
  subst this
  rfl
 ·rfl
end
end Go.Tidy
namespace Go.Tidy
open Go Go.Proofs Tab
variable {tp:TProg}
abbrev ptr (c:Nat):Value:=.pointer (some ⟨c,0,none⟩)
abbrev zi (z:Int):Value:=.int .i64 z
end Go.Tidy
namespace Go.Tidy
open Go Go.Proofs Tab
variable {tp:TProg}
def RX (n0:Nat) (h:TH) (sx:ByteArray) (nx:Int) (x1 x2:Value) (s:ByteArray) (n:Int) (C:List (Int × Bool)) (e:Int):Prop :=
 (e≠0∧sx=⟨#[]⟩∧nx=0∧x1=.slice none 0 0∧x2=.slice none 0 0)∨(e=0∧sx=s∧nx=n∧RunO n0 h x1 x2 (C.map fun c=>smp c.1) (qah (C.map fun c=>c.2)))
theorem RunO.relock' {n0:Nat} {h:TH} {v1 v2:Value} {F:List Nat} {S:List (Int × Int)} (r:RunO n0 h v1 v2 F S) (L:List Nat):RunO n0 (h.withLock L) v1 v2 F S:=⟨⟨r.r.f.relock L,r.r.s.relock L,r.r.g.relock L⟩,r.o1,r.o2⟩
theorem RunH.relock' {h:TH} {v1 v2:Value} {F:List Nat} {S:List (Int × Int)} (r:RunH h v1 v2 F S) (L:List Nat):RunH (h.withLock L) v1 v2 F S:=⟨r.f.relock L,r.s.relock L,r.g.relock L⟩
section
variable {n0 c:Nat} {h h':TH} {sx:ByteArray} {nx:Int} {x1 x2:Value} {s:ByteArray} {n:Int} {C:List (Int × Bool)} {e:Int}
theorem RX.hx (r:RX n0 h sx nx x1 x2 s n C e) (x:HX h h'):RX n0 h' sx nx x1 x2 s n C e:=by
 rcases r with r | ⟨a,b,d,r⟩
 ·exact .inl r
 ·exact .inr ⟨a,b,d,r.hx x⟩
theorem RX.away (r:RX n0 h sx nx x1 x2 s n C e) {x:TB} (p:Put h h' c x) (hc:c < n0):RX n0 h' sx nx x1 x2 s n C e:=by
 rcases r with r | ⟨a,b,d,r⟩
 ·exact .inl r
 ·exact .inr ⟨a,b,d,r.away p hc⟩
theorem RX.up {m:Nat} (r:RX n0 h sx nx x1 x2 s n C e) (hm:m≤n0):RX m h sx nx x1 x2 s n C e:=by
 rcases r with r | ⟨a,b,d,r⟩
 ·exact .inl r
 ·exact .inr ⟨a,b,d,r.le hm⟩
theorem RX.relock (r:RX n0 h sx nx x1 x2 s n C e) (L:List Nat):RX n0 (h.withLock L) sx nx x1 x2 s n C e:=by
 rcases r with r | ⟨a,b,d,r⟩
 ·exact .inl r
 ·exact .inr ⟨a,b,d,r.relock' L⟩
theorem RunR.out {v:Value} (r:RunR h h' v s n C e):∃ sx nx bo1 l1 k1 bo2 l2 k2,v=.tuple #[runV sx nx (.slice bo1 l1 k1) (.slice bo2 l2 k2),.int .i64 e]∧HX h h'∧RX h.next h' sx nx (.slice bo1 l1 k1) (.slice bo2 l2 k2) s n C e:=by
 obtain ⟨X,⟨he,rfl⟩ | ⟨rfl,w1,w2,rfl,O⟩⟩:=r
 ·exact ⟨_,_,_,_,_,_,_,_,rfl,X,.inl ⟨he,rfl,rfl,rfl,rfl⟩⟩
 ·obtain ⟨bo1,k1,rfl⟩:=O.r.f.form
  obtain ⟨bo2,k2,rfl⟩:=O.r.s.form
  exact ⟨_,_,_,_,_,_,_,_,rfl,X,.inr ⟨rfl,rfl,rfl,O⟩⟩
end
end Go.Tidy
namespace Go.Tidy
open Go Go.Proofs Tab
variable {tp:TProg}
theorem Free0.on {h h':TH} (f:Free0 h.next h) (x:HX h h'):Free0 h'.next h':=f.next x x.next
end Go.Tidy
namespace Go.Tidy
open Go Go.Proofs Tab
variable {tp:TProg}
theorem mix_len {α:Type} {A B:List α} (h:A.length=B.length) (j:Nat):(A.take j ++ B.drop j).length=B.length:=by simp;omega
theorem mix_get {α:Type} {A B:List α} (h:A.length=B.length) {j:Nat} (hj:j < B.length):(A.take j ++ B.drop j)[j]?=B[j]?:=by
 rw [List.getElem?_append_right (by simp;omega),List.length_take,List.getElem?_drop]
 congr 1;omega
theorem mix_set {α:Type} {A B:List α} (h:A.length=B.length) {j:Nat} {x:α} (hx:A[j]?=some x):(A.take j ++ B.drop j).set j x=A.take (j+1) ++ B.drop (j+1):=by
 have hj:j < A.length:=(List.getElem?_eq_some_iff.1 hx).1
 rw [List.set_append_right _ _ (by simp;omega),List.length_take,Nat.min_eq_left (by omega),Nat.sub_self,take_succ_get hx,List.append_assoc]
 congr 1
 rw [List.drop_eq_getElem_cons (by omega:j < B.length)]
 rfl
def sumCell (c d:Int × Bool):Int × Bool:=cond (c.2 && d.2) (c.1+d.1,true) (0,false)
def sumC (C D:List (Int × Bool)):List (Int × Bool):=List.zipWith sumCell C D
theorem sumC_get {C D:List (Int × Bool)} {j:Nat} {c d:Int × Bool} (hc:C[j]?=some c) (hd:D[j]?=some d):(sumC C D)[j]?=some (sumCell c d):=by
 unfold sumC;rw [List.getElem?_zipWith,hc,hd]
def sumErr (e:Int) (C D:List (Int × Bool)):Int:=cond (e != 0) e (cond (allOk (sumC C D)) 0 4)
theorem bd134z:buildT Tryz.prog 177 []=some (.agg #[.int .i64 0,.bool false]):=by kernel_rfl
theorem sumBody {h hb g:TH} {b7 b8 c2 c4 j:Nat} {M C D:List (Int × Bool)} {c d:Int × Bool} {R:Exit→qan→TH→Prop} (f:Free0 h.next h) (hC:C.length≤1000000) (lc:c.1.natAbs≤16384) (ld:d.1.natAbs≤16384)
    (hm:M[j]?=some c) (hd:D[j]?=some d) (ml:M.length=C.length) (hlt:j < C.length)
    (X:HX h hb) (Y:HX hb g) (h7:At g b7 (.cells (cat encC M) true true 177)) (h8:At g b8 (.cells (cat encC D) true true 177)) (hn:b7≠b8) (ho:hb.next≤b7)
    (K:∀ g',HX hb g'→At g' b7 (.cells (cat encC (M.set j (sumCell c d))) true true 177)→At g' b8 (.cells (cat encC D) true true 177)→∀ a,Kn [(2,ptr c2),(4,ptr c4),(7,.slice (some ⟨b7,0,none⟩) C.length C.length),(30,.slice (some ⟨b8,0,none⟩) D.length D.length),(31,zi C.length),(32,zi (j:Nat))] a→R .normal a g') :
    ∀ a,Kn [(2,ptr c2),(4,ptr c4),(7,.slice (some ⟨b7,0,none⟩) C.length C.length),(30,.slice (some ⟨b8,0,none⟩) D.length D.length),(31,zi C.length),(32,zi (j:Nat)),(33,.bool true)] a →
      W Tryz.prog tp false (.block 1 (.seq (.reg r50_7) (.seq (.seq (.reg r50_8) (.cond (.tmp 47) (.seq (.reg r50_9) (.exit 1)) .skip)) (.reg r50_10)))) a g R:=by
  have sl8:SlL encC 2 g (.slice (some ⟨b8,0,none⟩) D.length D.length) D:=SlL.own eC h8 rfl
  obtain ⟨b,o,cc,fix,wr,el,e1,e2,e3,e4,e5⟩:=sl8.at eC u135 tp134 hd .i64
  have ix7:qbl Tryz.prog 174 (.slice (some ⟨b7,0,none⟩) C.length C.length) (.int .i64 (j:Nat))=some (.pointer (some ⟨b7,0+j*2,none⟩)):=qbv u135 tp134 hlt
  have g0:(cat encC M)[0+j*2+0]?=some (.int .i64 c.1):=by rw [show 0+j*2+0=j*2+0 by omega];exact eC.get hm (q:=0) (by omega)
  have g1:(cat encC M)[0+j*2+1]?=some (.bool c.2):=by rw [show 0+j*2+1=j*2+1 by omega];exact eC.get hm (q:=1) (by omega)
  have lt7:=h7.lt
  have lt8:=h8.lt
  have xh:HX h g:=X.trans Y
  have xn:=X.next
  refine WL.block ?_
  refine WL.sr<|WOL.mv rfl<|WOL.ix rfl rfl e1<|WOL.ld rfl (qab tp134 e2 e4 e3) ?_
  refine WOL.al tp134 fun h3 N3=>WOL.as rfl<|WOL.sto rfl rfl tp134 N3.at_ rfl rfl (Nat.le_of_ble_eq_true rfl) rfl (f.hx (xh.trans N3.hx)) xh.next fun h4 P4=>WOL.nil<|keep [(2,_),(4,_),(7,_),(9,_),(10,_),(30,_),(31,_),(32,_)] ⟨rfl,rfl,rfl,rfl,rfl,rfl,rfl,rfl,trivial⟩ ?_
  have X4:HX hb h4:=P4.hx _ (Y.trans N3.hx) Y.next
  have xh4:HX h h4:=X.trans X4
  have B7:=P4.oth _ _ (by omega) (h7.hx N3.hx)
  have B8:=P4.oth _ _ (by omega) (h8.hx N3.hx)
  have B10:At h4 g.next (.cells [.int .i64 d.1,.bool d.2] true true 177):=P4.at_
  have no:sumCell c d=(0,false)→∀ a,Kn [(2,ptr c2),(4,ptr c4),(7,.slice (some ⟨b7,0,none⟩) C.length C.length),(9,zi (j:Nat)),(30,.slice (some ⟨b8,0,none⟩) D.length D.length),(31,zi C.length),(32,zi (j:Nat)),(47,.bool true)] a →
      W Tryz.prog tp false (.cond (.tmp 47) (.seq (.reg r50_9) (.exit 1)) .skip) a h4 (andThen (fun a h=>W Tryz.prog tp false (.reg r50_10) a h (leaves 1 R)) (leaves 1 R)):=by
    intro hx
    refine WL.yes rfl<|WL.sr<|WOL.mv rfl<|WOL.mv rfl<|WOL.bd rfl bd134z<|WOL.ix rfl rfl ix7 ?_
    refine WOL.sto rfl rfl tp134 B7 rfl rfl (by rw [eC.cat_len,ml];omega) rfl (f.hx xh4) (by omega) fun h5 P5=>WOL.nil ?_
    have C7:=P5.at_
    rw [show 0+j*2=j*2 by omega,show (Value.agg #[.int .i64 0,.bool false]).cells.toList=encC (0,false) from rfl,eC.set (by omega),← hx] at C7
    exact WL.exit (kto (K h5 (P5.hx _ X4 ho) C7 (P5.oth _ _ (Ne.symm hn) B8)) ⟨rfl,rfl,rfl,rfl,rfl,rfl,trivial⟩)
  refine WL.seq<|WL.sr<|WOL.mv rfl<|WOL.mv rfl<|WOL.ix rfl rfl ix7<|WOL.fa rfl (qaf fo134_1)<|WOL.ld rfl (qaa tp4 B7 g1)<|WOL.nt rfl ?_
  cases hk:c.2 with
  | false =>
    refine WOL.mv rfl<|WOL.skp (b:=true) rfl rfl<|WOL.skp (b:=true) rfl rfl<|WOL.skp (b:=true) rfl rfl<|WOL.pkt rfl rfl<|WOL.nil ?_
    exact kto (no (by simp [sumCell,hk])) ⟨rfl,rfl,rfl,rfl,rfl,rfl,rfl,rfl,trivial⟩
  | true =>
    refine WOL.mv rfl<|WOL.now (b:=false) rfl rfl<|WOL.fa rfl (qaf fo134_1)<|WOL.now (b:=false) rfl rfl<|WOL.ld rfl (qaa tp4 B10 rfl)<|WOL.now (b:=false) rfl rfl<|WOL.nt rfl<|WOL.pkf rfl rfl<|WOL.nil ?_
    cases hk2:d.2 with
    | false=>exact kto (no (by simp [sumCell,hk2])) ⟨rfl,rfl,rfl,rfl,rfl,rfl,rfl,rfl,trivial⟩
    | true =>
      refine WL.no rfl<|WL.skip ?_
      refine WL.reg<|WOL.mv rfl<|WOL.mv rfl<|WOL.ix rfl rfl ix7<|WOL.fa rfl (qaf fo134_0)<|WOL.ld rfl (qaa tp3 B7 g0)<|WOL.fa rfl (qaf fo134_0)<|WOL.ld rfl (qaa tp3 B10 rfl) ?_
      refine WOL.bi (v:=zi (c.1+d.1)) rfl rfl (by show some (Value.int .i64 (qbm .i64 (c.1+d.1)))=_;rw [qao (by omega) (by omega)]) ?_
      refine WOL.ix rfl rfl ix7<|WOL.fa rfl (qaf fo134_0) ?_
      refine WOL.sto rfl rfl tp3 B7 rfl rfl (by rw [eC.cat_len,ml];omega) rfl (f.hx xh4) (by omega) fun h5 P5=>WOL.nil ?_
      have C7:=P5.at_
      have hset:qbr (cat encC M) (0+j*2+0) [Value.int .i64 (c.1+d.1)]=cat encC (M.set j (sumCell c d)):=by
        rw [← eC.set (by omega),show sumCell c d=(c.1+d.1,true) by simp [sumCell,hk,hk2]]
        apply List.ext_getElem?
        intro q
        rw [hk] at g1
        rw [splice_at _ _ _ (by rw [eC.cat_len,ml];simp;omega),splice_at _ _ _ (by rw [eC.cat_len,ml];show _+2≤_;omega)]
        show (if 0+j*2+0≤q∧q < 0+j*2+0+1 then _ else _)=if j*2≤q∧q < j*2+2 then _ else _
        by_cases q0:q=j*2
        · subst q0;rw [if_pos (by omega),if_pos (by omega),show j*2 - (0+j*2+0)=0 by omega,show j*2 - j*2=0 by omega];rfl
        · by_cases q1:q=j*2+1
          · subst q1;rw [if_neg (by omega),if_pos (by omega),show j*2+1 - j*2=1 by omega,show j*2+1=0+j*2+1 by omega,g1];rfl
          · rw [if_neg (by omega),if_neg (by omega)]
      rw [show (zi (c.1+d.1)).cells.toList=[Value.int .i64 (c.1+d.1)] from rfl,hset] at C7
      exact kto (K h5 (P5.hx _ X4 ho) C7 (P5.oth _ _ (Ne.symm hn) B8)) ⟨rfl,rfl,rfl,rfl,rfl,rfl,trivial⟩
theorem sumLoop {h hb g:TH} {b7 b8 c2 c4:Nat} {C D:List (Int × Bool)} {Q:Exit→qan→TH→Prop} (f:Free0 h.next h) (hl:D.length=C.length) (hC:C.length≤1000000) (limC:∀ c,c ∈ C→c.1.natAbs≤16384) (limD:∀ c,c ∈ D→c.1.natAbs≤16384)
    (X:HX h hb) (Y:HX hb g) (h7:At g b7 (.cells (cat encC C) true true 177)) (h8:At g b8 (.cells (cat encC D) true true 177)) (hn:b7≠b8) (ho:hb.next≤b7)
    (K:∀ g',HX hb g'→At g' b7 (.cells (cat encC (sumC C D)) true true 177)→∀ a,Kn [(2,ptr c2),(4,ptr c4),(7,.slice (some ⟨b7,0,none⟩) C.length C.length)] a→Q (.exit 0) a g') :
    ∀ a,Kn [(2,ptr c2),(4,ptr c4),(7,.slice (some ⟨b7,0,none⟩) C.length C.length),(30,.slice (some ⟨b8,0,none⟩) D.length D.length),(31,zi C.length),(32,zi 0)] a →
      W Tryz.prog tp false (.loop (.seq (.reg r50_6) (.seq (.cond (.tmp 33) .skip (.exit 0)) (.seq (.block 1 (.seq (.reg r50_7) (.seq (.seq (.reg r50_8) (.cond (.tmp 47) (.seq (.reg r50_9) (.exit 1)) .skip)) (.reg r50_10)))) (.reg r50_11))))) a g Q:=by
  have hsl:(sumC C D).length=C.length:=by simp [sumC,hl]
  refine WL.loop (fun k a h2=>∃ j:Nat,j≤C.length∧k=C.length - j∧HX hb h2∧At h2 b7 (.cells (cat encC ((sumC C D).take j ++ C.drop j)) true true 177)∧At h2 b8 (.cells (cat encC D) true true 177) ∧
    Kn [(2,ptr c2),(4,ptr c4),(7,.slice (some ⟨b7,0,none⟩) C.length C.length),(30,.slice (some ⟨b8,0,none⟩) D.length D.length),(31,zi C.length),(32,zi (j:Nat))] a) C.length (fun a q=>⟨0,by omega,by omega,Y,by simpa using h7,h8,q.sub ⟨rfl,rfl,rfl,rfl,rfl,rfl,trivial⟩⟩) ?_
  rintro k a h2 ⟨j,hj,rfl,X2,A7,A8,q⟩
  refine q.go ?_
  refine WL.sr<|WOL.bi (v:=.bool (decide ((j:Int) < C.length))) rfl rfl rfl ?_
  refine WOL.nil<|keep [(2,_),(4,_),(7,_),(30,_),(31,_),(32,_),(33,_)] ⟨rfl,rfl,rfl,rfl,rfl,rfl,rfl,trivial⟩ ?_
  by_cases hlt:j < C.length
  · rw [show decide ((j:Int) < (C.length:Int))=true by simpa using hlt]
    have hc:C[j]?=some C[j]:=List.getElem?_eq_getElem hlt
    have hd:D[j]?=some D[j]:=List.getElem?_eq_getElem (by omega)
    have hs:=sumC_get hc hd
    have hm:((sumC C D).take j ++ C.drop j)[j]?=some C[j]:=by rw [mix_get hsl hlt,hc]
    refine WL.seq<|WL.yes rfl<|WL.skip<|WL.seq ?_
    refine sumBody f hC (limC _ (List.mem_of_getElem? hc)) (limD _ (List.mem_of_getElem? hd)) hm hd (mix_len hsl j) hlt X X2 A7 A8 hn ho ?_
    intro h5 X5 D7 D8
    rw [mix_set hsl hs] at D7
    refine WL.reg<|WOL.bi (v:=zi ((j+1:Nat):Int)) rfl rfl (by show some (Value.int .i64 (qbm .i64 ((j:Int)+1)))=_;rw [qao (by omega) (by omega)];rfl) ?_
    refine WOL.mv rfl<|WOL.nil ?_
    exact fun a q=>⟨C.length - (j+1),by omega,j+1,by omega,rfl,X5,D7,D8,q.sub ⟨rfl,rfl,rfl,rfl,rfl,rfl,trivial⟩⟩
  · rw [show decide ((j:Int) < (C.length:Int))=false by simpa using hlt]
    refine WL.seq<|WL.no rfl<|WL.exit ?_
    obtain rfl:j=C.length:=by omega
    rw [List.drop_length,List.append_nil,List.take_of_length_le (by omega)] at A7
    exact kto (K h2 X2 A7) ⟨rfl,rfl,rfl,trivial⟩
end Go.Tidy
namespace Go.Tidy
open Go Go.Proofs Tab
variable {tp:TProg}
theorem nzero {z:Int}:qcj .neq (.int .i64 z) (.int .i64 0)=some (.bool (z != 0)):=rfl
def twoE (E1 E2:Int) (n:Int) (m:Nat) (n':Int) (m':Nat):Int:=qae [E1,E2,cond (!shapeB n m n' m') 2 0]
theorem twoE_zero {E1 E2 n n':Int} {m m':Nat} (h:twoE E1 E2 n m n' m'=0):E1=0∧E2=0∧n'=n∧m'=m:=by
 have z:=qbb h
 have h1:=z E1 (by simp)
 have h2:=z E2 (by simp)
 have h3:=z (cond (!shapeB n m n' m') 2 0) (by simp)
 cases hb:shapeB n m n' m' with
 | false=>rw [hb] at h3;cases h3
 | true=>simp [shapeB] at hb;omega
set_option maxHeartbeats 1000000 in
set_option maxRecDepth 10000 in
theorem k50 (H:Has tp) (X:HasX tp) {s s':ByteArray} {n n':Int} {v1 v2 w1 w2:Value} {F G:List Nat} {S T:List (Int × Int)} {es L es' L':List Int} {h:TH} (r:RunH h v1 v2 F S) (r':RunH h w1 w2 G T) (hE:SErr F es) (hL:qae es=0→Lev F L) (hE':SErr G es') (hL':qae es'=0→Lev G L')
  (hF:F.length≤900000) (hS:S.length≤900000) (hG:G.length≤900000) (hT:T.length≤900000) (f:Free0 h.next h) :
  qad Tryz.prog tp (.func (.func 50) #[] #[]) #[runV s n v1 v2,runV s' n' w1 w2] h fun v h'=>RunR h h' v s n (sumC (qbj L S) (qbj L' T)) (sumErr (twoE (runE s n F.length S es L) (runE s' n' G.length T es' L') n F.length n' G.length) (qbj L S) (qbj L' T)):=by
 refine qad.fnL (H.fn 50 f50 rfl rfl) ?_
 obtain ⟨bv1,kv1,rfl⟩:=r.f.form
 obtain ⟨bv2,kv2,rfl⟩:=r.s.form
 obtain ⟨bw1,kw1,rfl⟩:=r'.f.form
 obtain ⟨bw2,kw2,rfl⟩:=r'.s.form
 refine WL.sr<|WOL.box rfl fun h1 N1=>?_
 refine WOL.box rfl fun h2 N2=>?_
 refine WOL.al tp52 fun h3 N3=>?_
 have n1:=N1.next
 have n2:=N2.next
 have n3:=N3.next
 have X3:HX h h3:=(N1.hx.trans N2.hx).trans N3.hx
 have A2:=(N1.at_.hx N2.hx).hx N3.hx
 have A3:=N2.at_.hx N3.hx
 have A4:=N3.at_
 refine WOL.as rfl<|WOL.nil<|keep [(2,_),(3,_),(4,_)] ⟨rfl,rfl,rfl,trivial⟩ ?_
 refine WL.seq<|WL.sr<|WOL.ld rfl (qab tp52 A2 rfl (Nat.le_of_ble_eq_true rfl))<|WOL.ld rfl (qab tp52 A3 rfl (Nat.le_of_ble_eq_true rfl))<|WOL.ld rfl (qab tp52 A2 rfl (Nat.le_of_ble_eq_true rfl))<|WOL.ld rfl (qab tp52 A3 rfl (Nat.le_of_ble_eq_true rfl)) ?_
 refine WOL.lq1 [h1.next,h.next,h1.next] rfl rfl rfl fun M hM=>((k41 H X (s:=s) (n:=n) ((r.hx X3).relock' M) hE hL (by omega) (by omega) ((f.on X3).held hM (fun b hb=>by simp at hb;omega))).mono ?_)
 rintro v h4 ⟨rfl,X4⟩
 replace X4:=X4.relock
 generalize h4.withLock h3.lock=h4 at *
 have Y4:=X3.trans X4
 have y4:=X4.next
 refine WOL.lq1 [h1.next,h.next] rfl rfl rfl fun M hM=>((k41 H X (s:=s') (n:=n') ((r'.hx Y4).relock' M) hE' hL' (by omega) (by omega) ((f.on Y4).held hM (fun b hb=>by simp at hb;omega))).mono ?_)
 rintro v h5 ⟨rfl,X5⟩
 replace X5:=X5.relock
 generalize h5.withLock h4.lock=h5 at *
 have Y5:=Y4.trans X5
 refine WOL.cl2 rfl rfl rfl ((k109 H (s:=s) (s':=s') (n:=n) (n':=n') (r.f.hx Y5) (r'.f.hx Y5)).mono ?_)
 rintro v h6 ⟨rfl,X6⟩
 have Y6:=Y5.trans X6
 refine WOL.nt rfl<|WOL.cl2 rfl rfl rfl ((k77 H _ _ _).mono ?_)
 rintro v h6 ⟨rfl,rfl⟩
 refine WOL.bsl rfl u166 tp30 (by decide) (by decide) (by decide) (filled_ints3 _ _ _) fun h8 N8=>?_
 refine WOL.cl1 rfl rfl ((k71 H (l:=[_,_,_]) N8.at_.get (by simp)).mono ?_)
 rintro v h8 ⟨rfl,rfl⟩
 have Y8:=Y6.trans N8.hx
 have Z8:=((X4.trans X5).trans X6).trans N8.hx
 replace A2:=A2.hx Z8
 replace A3:=A3.hx Z8
 replace A4:=A4.hx Z8
 have lt4:=A4.lt
 have z8:=Z8.next
 generalize hEE:qae [runE s n F.length S es L,runE s' n' G.length T es' L',cond (!shapeB n F.length n' G.length) 2 0]=E
 have hE0:twoE (runE s n F.length S es L) (runE s' n' G.length T es' L') n F.length n' G.length=E:=hEE
 rw [hE0]
 refine WOL.as rfl<|WOL.nil<|keep [(2,_),(3,_),(4,_),(6,_)] ⟨rfl,rfl,rfl,rfl,trivial⟩ ?_
 refine WL.sr<|WOL.mv rfl<|WOL.bi rfl rfl nzero<|WOL.nil<|keep [(2,_),(3,_),(4,_),(6,_),(23,_)] ⟨rfl,rfl,rfl,rfl,rfl,trivial⟩ ?_
 rcases qdt E with h0 | h0
 ·rw [h0]
  obtain ⟨z1,z2,z3,z4⟩:=twoE_zero (hE0.trans h0)
  have V:=valid_of hL z1
  have V':=valid_of hL' z2
  have Vm:=V.m
  have hcl:(qbj L S).length=F.length:=cells_len V.lev V.in_
  have hcl':(qbj L' T).length=G.length:=cells_len V'.lev V'.in_
  have lim:=cells_lim V.lev S
  have lim':=cells_lim V'.lev T
  refine WL.no rfl<|WL.skip ?_
  refine WL.sr<|WOL.ld rfl (qab tp52 A2 rfl (Nat.le_of_ble_eq_true rfl))<|WOL.ld rfl (qab tp52 A3 rfl (Nat.le_of_ble_eq_true rfl)) ?_
  refine WOL.lq1 [h1.next] rfl rfl rfl fun M hM=>((k85 H (s:=s) (n:=n) ((r.hx Y8).relock' M) V.lev (by omega) (by omega) V.in_ ((f.on Y8).held hM (fun b hb=>by simp at hb;omega))).mono ?_)
  rintro v g1 ⟨b7,rfl,o7,A7,X7⟩
  replace A7:=A7.relock h8.lock
  replace X7:=X7.relock
  replace o7:h8.next≤b7:=o7
  generalize g1.withLock h8.lock=g1 at *
  have Y9:=Y8.trans X7
  refine WOL.cl1 rfl rfl ((k85 H (s:=s') (n:=n') (r'.hx Y9) V'.lev (by omega) (by omega) V'.in_ (f.on Y9)).mono ?_)
  rintro v g2 ⟨b8,rfl,o8,A8,X8⟩
  have lt7:=A7.lt
  have Z2:=X7.trans X8
  refine WOL.as rfl<|WOL.as rfl<|WOL.nil<|keep [(2,_),(4,_),(7,_),(8,_)] ⟨rfl,rfl,rfl,rfl,trivial⟩ ?_
  rw [← hcl,← hcl']
  refine WL.seq<|WL.sr<|WOL.mv rfl<|WOL.len rfl (SlL.own eC A8 rfl) u135<|WOL.mv rfl<|WOL.nil ?_
  refine WL.block ?_
  have hDC:(qbj L' T).length=(qbj L S).length:=by omega
  rw [hDC]
  refine kto (sumLoop (c2:=h.next) (c4:=h2.next) (f:=f) (hl:=hDC) (hC:=by omega) lim lim' Y8 Z2 (A7.hx X8) A8 (by omega) o7 ?_) ⟨rfl,rfl,rfl,by rw [hDC];rfl,rfl,rfl,trivial⟩
  intro g3 X9 B7
  have Y10:=Y8.trans X9
  have C2:=A2.hx X9
  have C4:=A4.hx X9
  have hsl:(sumC (qbj L S) (qbj L' T)).length=(qbj L S).length:=by simp [sumC];omega
  have sl7:SlL encC 2 g3 (.slice (some ⟨b7,0,none⟩) (qbj L S).length (qbj L S).length) (sumC (qbj L S) (qbj L' T)):=SlL.own eC B7 hsl
  refine WL.seq<|WL.sr<|WOL.mv rfl<|WOL.cl1 rfl rfl ((k104 H sl7 (by omega)).mono ?_)
  rintro v g4 ⟨rfl,X10⟩
  have Y11:=Y10.trans X10
  refine WOL.nt rfl<|WOL.nil<|keep [(2,_),(4,_),(7,_),(65,_)] ⟨rfl,rfl,rfl,rfl,trivial⟩ ?_
  cases hok:allOk (sumC (qbj L S) (qbj L' T)) with
  | false =>
   refine WL.yes rfl<|WL.sr<|WOL.bd rfl bd52z ?_
   refine WOL.sto rfl rfl tp52 (C4.hx X10) rfl rfl (Nat.le_of_ble_eq_true rfl) rfl (f.hx Y11) (by omega) fun g5 P5=>?_
   refine WOL.as rfl<|WOL.nil ?_
   refine WL.ret (WL.endC1 (t:=4) (s:=5) rfl rfl (qab tp52 P5.at_ rfl (Nat.le_of_ble_eq_true rfl)) ⟨P5.hx _ Y11 (by omega),.inl ⟨?_,?_⟩⟩)
   ·unfold sumErr;rw [hok];decide
   ·unfold sumErr;rw [hok];rfl
  | true =>
   refine WL.no rfl<|WL.skip ?_
   refine WL.sr<|WOL.fa rfl (qaf fo52_0)<|WOL.ld rfl (qaa tp9 (C2.hx X10) rfl)<|WOL.fa rfl (qaf fo52_1)<|WOL.ld rfl (qaa tp3 (C2.hx X10) rfl)<|WOL.mv rfl ?_
   refine WOL.cl3 rfl rfl rfl rfl ((k89 H (s:=s) (n:=n) (sl7.hx X10) (allOk_iff.1 hok) (by omega) (f.on Y11)).mono ?_)
   rintro v g5 ⟨q1,q2,rfl,X11,O5⟩
   have Y12:=Y11.trans X11
   have y11:=Y11.next
   have z9:=X9.next
   have z10:=X10.next
   obtain ⟨bo1,k1,rfl⟩:=O5.r.f.form
   obtain ⟨bo2,k2,rfl⟩:=O5.r.s.form
   refine WOL.sto rfl rfl tp52 ((C4.hx X10).hx X11) rfl rfl (Nat.le_of_ble_eq_true rfl) rfl (f.hx Y12) (by omega) fun g6 P6=>?_
   refine WOL.as rfl<|WOL.nil ?_
   refine WL.ret (WL.endC1 (t:=4) (s:=5) rfl rfl (qab tp52 P6.at_ rfl (Nat.le_of_ble_eq_true rfl)) ⟨P6.hx _ Y12 (by omega),.inr ⟨?_,_,_,rfl,(O5.away P6 (by omega)).le (by omega)⟩⟩)
   unfold sumErr;rw [hok];rfl
 ·rw [h0]
  refine WL.yes rfl<|WL.sr<|WOL.bd rfl bd52z<|WOL.mv rfl ?_
  refine WOL.sto rfl rfl tp52 A4 rfl rfl (Nat.le_of_ble_eq_true rfl) rfl (f.hx Y8) (by omega) fun g5 P5=>?_
  refine WOL.as rfl<|WOL.nil ?_
  have hse:sumErr E (qbj L S) (qbj L' T)=E:=by unfold sumErr;rw [h0];rfl
  rw [hse]
  exact WL.ret (WL.endC1 (t:=4) (s:=5) rfl rfl (qab tp52 P5.at_ rfl (Nat.le_of_ble_eq_true rfl)) ⟨P5.hx _ Y8 (by omega),.inl ⟨by simpa using h0,rfl⟩⟩)
end Go.Tidy
namespace Go.Tidy
open Go Go.Proofs Tab
variable {tp:TProg}
section
variable {α:Type} {enc:α→List Value} {n0:Nat} {h h':TH} {v:Value} {e:TypeId} {l:List α}
end
def okTo (Z:List Int) (Y:List Bool) (j:Nat):Prop:=∀ (i:Nat) (z:Int),i < j→Z[i]?=some z→Y[i]?=some true→okI z=true
end Go.Tidy
namespace Go.Tidy
open Go Go.Proofs Tab
variable {tp:TProg}
def SumR (h h':TH) (v:Value) (s:ByteArray) (n:Int) (Z:List Int) (Y:List Bool) (sh:Bool):Prop :=
  HX h h'∧((sh=false∧v=.tuple #[run0,.int .i64 2])∨(sh=true∧¬ okTo Z Y Z.length∧v=.tuple #[run0,.int .i64 4]) ∨
    (sh=true∧okTo Z Y Z.length∧∃ w1 w2,v=.tuple #[runV s n w1 w2,.int .i64 0]∧RunO h.next h' w1 w2 (madeF Z Y) (qah Y)))
theorem cellsK_get {L:List Int} {K:List Bool} {i:Nat} {x:Int} {p:Bool} (hx:L[i]?=some x) (hp:K[i]?=some p):(cellsK L K)[i]?=some (if p=true then (x,true) else (0,false)):=by
 unfold cellsK;rw [List.getElem?_zipWith,hx,hp]
theorem cellsK_ln {L:List Int} {K:List Bool} (h:K.length=L.length):(cellsK L K).length=L.length:=by simp [cellsK,h]
theorem ok_cells {Z:List Int} {Y:List Bool} (h:Y.length=Z.length):allOk (cellsK Z Y)=true ↔ okTo Z Y Z.length:=by
 rw [allOk_iff]
 constructor
 ·intro ok i z hi hz hy
  have:=ok _ (List.mem_of_getElem? (cellsK_get hz hy))
  exact okI_iff.2 this
 ·intro ok c hc
  obtain ⟨i,hi,hci⟩:=List.getElem_of_mem hc
  have hl:=cellsK_ln h
  have hz:Z[i]?=some Z[i]:=List.getElem?_eq_getElem (by omega)
  have hy:Y[i]?=some Y[i]:=List.getElem?_eq_getElem (by omega)
  have:=cellsK_get hz hy
  rw [List.getElem?_eq_getElem hi,hci] at this
  obtain rfl:=Option.some.inj this
  cases hb:Y[i] with
  | false=>simp
  | true=>rw [hb] at hy;simpa using okI_iff.1 (ok i _ (by omega) hz hy)
end Go.Tidy
namespace Go.Tidy
open Go Go.Proofs Tab
variable {tp:TProg}
structure Rows3 (h:TH) (b:Nat) (Xs:List Value) (Cs:List (List (Int × Bool))):Prop where
 at_:At h b (.cells Xs true true 174)
 len:Xs.length=Cs.length
 sl:∀ (i:Nat) (x:Value) (C:List (Int × Bool)),Xs[i]?=some x→Cs[i]?=some C→SlL encC 2 h x C
theorem Rows3.hx {h h':TH} {b:Nat} {Xs:List Value} {Cs:List (List (Int × Bool))} (r:Rows3 h b Xs Cs) (x:HX h h'):Rows3 h' b Xs Cs:=⟨r.at_.hx x,r.len,fun i y C h1 h2=>(r.sl i y C h1 h2).hx x⟩
end Go.Tidy
namespace Go.Tidy
open Go Go.Proofs Tab
variable {tp:TProg}
theorem Rows3.relock {h:TH} {b:Nat} {Xs:List Value} {Cs:List (List (Int × Bool))} (r:Rows3 h b Xs Cs) (M:List Nat):Rows3 (h.withLock M) b Xs Cs:=⟨r.at_.relock M,r.len,fun i y C h1 h2=>(r.sl i y C h1 h2).relock M⟩
end Go.Tidy
namespace Go.Tidy
open Go Go.Proofs Tab
variable {tp:TProg}
section
variable {P:Program} {α:Type} {enc:α→List Value} {n n0:Nat} {h:TH} {v:Value} {e:TypeId} {l:List α} {z:List Value} {row:Bool}
theorem own_lock (o:OwnL enc n0 h v e l) (M:List Nat):OwnL enc n0 (h.withLock M) v e l:=o.imp id fun ⟨h0,b,h1,h2,h3⟩=>⟨h0,b,h1,h2,h3.relock M⟩
theorem slC_keep {h h':TH} {v:Value} {sz m:Nat} {c:List Value} (s:SlC h v sz m c) (k:∀ b y,bl v=some b→At h b y→At h' b y):SlC h' v sz m c:=by
 obtain ⟨bo,cap,rfl,h2,h3,h4⟩:=s
 exact ⟨bo,cap,rfl,h2,h3,h4.imp id fun ⟨b,off,cc,fix,wr,el,q1,q2,q3,q4⟩=>by subst q1;exact ⟨b,off,cc,fix,wr,el,rfl,k b _ rfl q2,q3,q4⟩⟩
theorem HX.locked {h h':TH} (x:HX h h') (M:List Nat):HX (h.withLock M) (h'.withLock M):=⟨x.next,x.floor,rfl,x.old⟩
end
def JoinR (h h':TH) (v:Value) (s:ByteArray) (n:Int) (Z:List Int) (Y:List Bool) (e:Int):Prop :=
 HX h h'∧((e≠0∧v=.tuple #[run0,.int .i64 e])∨(e=0∧∃ w1 w2,v=.tuple #[runV s n w1 w2,.int .i64 0]∧RunO h.next h' w1 w2 (madeF Z Y) (qah Y)))
end Go.Tidy
namespace Go.Tidy
open Go Go.Proofs Tab
variable {tp:TProg}
section
variable {α:Type} {k:Nat} {l:List α}
end
theorem WO.remI {P:Program} {tp:TProg} {a:qan} {h:TH} {K:qan→TH→Prop} {rest:List TOper} {d:Option Tmp} {ty:TypeId} {i:Nat} {x y:Operand} {t u:TypeId} {m n:Int} (hx:qbn a x=some (.int .i64 m)) (hy:qbn a y=some (.int .i64 n)) (hn:n≠0)
  (w:WO P tp rest (a.put d (.int .i64 (m.tmod n))) h K):WO P tp (⟨d,.binOp .rem t x y u,ty,none,[],i⟩::rest) a h K:=by
 refine WO.bi hx hy ?_ w
 have hk:Nat.beq (kindNo .i64) (kindNo .i64)=true:=Nat.beq_refl _
 have hb:(n == 0)=false:=by simpa using hn
 simp only [qcj,hk,fastInt,hb,Bool.cond_true,Bool.cond_false]
theorem WOL.rem {P:Program} {tp:TProg} {h:TH} {K:qan→TH→Prop} {rest:List TOper} {d:Option Tmp} {ty:TypeId} {i:Nat} {x y:Operand} {t u:TypeId} {L:Rg} {m n:Int} (hx:qbi L x=some (.int .i64 m)) (hy:qbi L y=some (.int .i64 n)) (hm:0≤m) (hn:0 < n) (w:∀ a,Kn (qdh L d (.int .i64 (m % n))) a→WO P tp rest a h K):∀ a,Kn L a→WO P tp (⟨d,.binOp .rem t x y u,ty,none,[],i⟩::rest) a h K:=fun a k=>by
 refine WO.remI (k.o hx) (k.o hy) (by omega) ?_
 rw [Int.tmod_eq_emod_of_nonneg hm]
 exact w _ (k.put d _)
end Go.Tidy
namespace Go.Tidy
open Go Go.Proofs Tab
variable {tp:TProg}
section
variable {P:Program} {h:TH} {v:Value} {t e:TypeId} {n:Nat} {z:List Value} {row:Bool} {K:qan→TH→Prop} {rest:List TOper} {d:Option Tmp} {ty:TypeId} {i:Nat} {x y lo hi:Operand} {L:Rg}
theorem copy_into {sT:TypeId} {b k m:Nat} {c new:List Value} {fix:Bool} {el:TypeId} (hu:P.underlying sT=some (.slice e)) (he:Tp P e n z row) (hg:At h b (.cells c fix true el)) (hc:c.length=k*n) (s:SlC h v n k new) (h1:new.all qbt=true) (f:Free0 m h) (hb:m≤b) :
  ∃ h',copyT P #[sT,sT] #[.slice (some ⟨b,0,none⟩) k k,v] h=some (.int .i64 (k:Nat),h')∧Put h h' b (.cells new fix true el):=by
 obtain ⟨inf,q1,q2,q3,_⟩:=he.i
 have hf:=firstT_C s
 have hnl:new.length=k*n:=by obtain ⟨bo,cap,_,_,h3,_⟩:=s;exact h3
 obtain ⟨bo,cap',rfl,_⟩:=s
 have hmin:Nat.min k k=k:=Nat.min_self k
 by_cases hk:k=0
 ·subst hk
  obtain rfl:new=[]:=List.eq_nil_of_length_eq_zero (by omega)
  obtain rfl:c=[]:=List.eq_nil_of_length_eq_zero (by omega)
  refine ⟨h,?_,Put.same hg⟩
  simp only [copyT,qby,List.getElem?_toArray,List.getElem?_cons_zero,List.getElem?_cons_succ,hu,Option.bind_some,q1,Option.map_some,lenT,q2,hmin,hf]
  rfl
 ·have e1:Nat.beq k 0=false:=beq_no hk
  have e4:Nat.ble (0+new.length) c.length=true:=ble_yes (by omega)
  have hp:h.put b (.cells (qbr c 0 new) fix true el)=some (h.upd b (.cells (qbr c 0 new) fix true el)):=f.put hb hg.lt
  have hs:qbr c 0 new=new:=by
   unfold qbr
   rw [List.drop_eq_nil_of_le (by omega)]
   simp
  rw [hs] at hp
  refine ⟨h.upd b (.cells new fix true el),?_,Put.mk' hg _⟩
  simp only [copyT,qby,List.getElem?_toArray,List.getElem?_cons_zero,List.getElem?_cons_succ,hu,Option.bind_some,q1,Option.map_some,lenT,q2,hmin,hf,e1,Bool.cond_false,hg.get,qdb,e4,h1,Bool.and_self,Bool.cond_true,hs,hp,Option.map_some]
theorem WOL.cp {h1:TH} {ts:Array TypeId} {vx vy:Value} (hx:qbi L x=some vx) (hy:qbi L y=some vy) (hm:copyT P ts #[vx,vy] h=some (v,h1)) (w:∀ a,Kn (qdh L d v) a→WO P tp rest a h1 K):∀ a,Kn L a→WO P tp (⟨d,.call ⟨.builtin .copy,#[x,y],ts⟩,ty,none,[],i⟩::rest) a h K:=fun a k =>
 WO.op rfl rfl (fun call=>by
  have hp:qci P ⟨d,.call ⟨.builtin .copy,#[x,y],ts⟩,ty,none,[],i⟩ a.eval=none:=rfl
  simp [qaz,qas,qbw,qbp,hp,qbs,qac (k.o hx),qac (k.o hy),hm]) (w _ (k.put d _))
theorem WOL.sl {q:Addr} {m cap:Nat} {vlo vhi:Value} (hx:qbi L x=some (.slice (some q) m cap)) (hl:qbi L lo=some vlo) (hh:qbi L hi=some vhi) (hv:sliceT P t (.slice (some q) m cap) (some vlo) (some vhi) none h=some v) (w:∀ a,Kn (qdh L d v) a→WO P tp rest a h K):∀ a,Kn L a→WO P tp (⟨d,.slice t x (some lo) (some hi) none,ty,none,[],i⟩::rest) a h K :=
 fun a k=>WO.sl (k.o hx) (k.o hl) (k.o hh) hv (k.nx w)
end
def setN {α:Type} (l:List α) (p:Nat) (g:Nat→α):Nat→List α
 | 0=>l
 | i+1=>(setN l p g i).set (p+i) (g i)
section
variable {α:Type} {l:List α} {p:Nat} {g:Nat→α}
end
theorem Free0.of {n:Nat} {hb h h':TH} (f:Free0 n h) (x:HX hb h) (y:HX hb h'):Free0 n h':=⟨by rw [y.floor,← x.floor];exact f.floor,by rw [y.lock,← x.lock];exact f.lock⟩
end Go.Tidy
namespace Go.Tidy
open Go Go.Proofs Tab
variable {tp:TProg}
theorem Valid.cell {s:ByteArray} {n:Int} {F:List Nat} {S:List (Int × Int)} {L:List Int} (V:Valid s n F S L) {i:Nat} (hi:i < F.length):∃ k,(qbj L S)[i]?=some (L.getD i 0,k):=by
 have kl:=V.kl
 have ll:=V.lev.1
 have hx:L[i]?=some L[i]:=List.getElem?_eq_getElem (by omega)
 have hp:(qav S F.length)[i]?=some (qav S F.length)[i]:=List.getElem?_eq_getElem (by omega)
 have hd:=V.dark.2 i _ hx
 have hg:L.getD i 0=L[i]:=by rw [List.getD_eq_getElem?_getD,hx];rfl
 rw [V.cells,cellsK_get hx hp,hg]
 generalize (qav S F.length)[i]=k at *
 cases k with
 | true=>exact ⟨true,rfl⟩
 | false=>exact ⟨false,by rw [hd hp];rfl⟩
end Go.Tidy
namespace Go.Tidy
open Go Go.Proofs Tab
variable {tp:TProg}
theorem holeE_after {m:Nat}:∀ {S:List (Int × Int)} {prev:Int},qay m prev S=0→∀ p,p ∈ S→prev < p.1
  | [],_,_=>fun p hp=>by cases hp
  | x::r,prev,h=>by
    have hlt:=holeE_lt h x (List.mem_cons_self ..)
    rw [qcz] at h
    cases hb:badS m x with
    | true=>rw [hb] at h;cases h
    | false =>
      rw [hb] at h
      by_cases hc:x.1≤prev
      · rw [decide_eq_true hc] at h;cases h
      · rw [decide_eq_false hc] at h
        intro p hp
        rcases List.mem_cons.1 hp with rfl | hp
        · omega
        · have:=holeE_after (S:=r) (prev:=x.2) h p hp
          omega
end Go.Tidy
namespace Go.Tidy
open Go Go.Proofs Tab
theorem Samp.e0 {b:Nat} {n:Int} (s:Samp b n):SampleE b 0:=by
 obtain ⟨neg,q,h,h2,_⟩:=s.ok
 obtain ⟨m,k,hr,hq,hk⟩:=h
 obtain ⟨D,hD⟩:∃ D:Nat,2 ^ 149=D:=⟨_,rfl⟩
 have hDp:0 < D:=by rw [← hD];exact qar 149
 have e1:=h2 D hD
 have hl:=s.lim
 have hU:m*2 ^ (k+4)=n.natAbs*D:=by rw [Nat.pow_add,← Nat.mul_assoc,← e1,hq]
 have ok:okU (m*2 ^ (k+4))=true:=by
  rw [okU_eq hD]
  unfold okD
  rw [hU,decide_eq_true (Nat.mul_le_mul_right D hl),Nat.mul_div_cancel _ hDp]
  simp
 rcases single_cases b with h | ⟨s',h⟩ | ⟨neg',m',k',N⟩
 ·rw [s.nan] at h;cases h
 ·rw [hr] at h;cases h
 ·have e:=hr.symm.trans N.read
  injection e with e1 e2 e3
  obtain rfl:k=k':=by omega
  subst e2
  have:=SampleE.num neg' m k N
  rw [ok] at this
  exact this
theorem serr_zero {F:List Nat} {L:List Int} (h:Lev F L):∃ es,SErr F es∧qae es=0:=by
 refine ⟨List.replicate F.length 0,⟨by simp,fun i b e hb he=>?_⟩,?_⟩
 ·have hi:i < F.length:=(List.getElem?_eq_some_iff.1 hb).1
  have hiL:i < L.length:=by rw [← h.1];exact hi
  have hx:L[i]?=some L[i]:=List.getElem?_eq_getElem hiL
  rw [List.getElem?_replicate,if_pos hi] at he
  cases he
  exact (h.2 i b _ hb hx).e0
 ·have:∀ k,qae (List.replicate k 0)=0:=by
   intro k
   induction k with
   | zero=>rfl
   | succ k ih=>rw [List.replicate_succ];show cond ((0:Int) != 0) 0 _=0;exact ih
  exact this _
def endOf (prev:Int):List (Int × Int)→Int
 | []=>prev
 | p::r=>endOf p.2 r
theorem endOf_le {i:Int}:∀ (S:List (Int × Int)) (prev:Int),prev≤i→(∀ p,p ∈ S→p.2≤i)→endOf prev S≤i
 | [],_,h,_=>h
 | x::r,prev,_,h=>endOf_le r x.2 (h x (List.mem_cons_self ..)) fun p hp=>h p (List.mem_cons_of_mem _ hp)
theorem holeE_snoc {m:Nat} (p:Int × Int):∀ (S:List (Int × Int)) (prev:Int),qay m prev (S ++ [p])=0 ↔ qay m prev S=0∧badS m p=false∧endOf prev S < p.1
  | [], prev => by
    show qay m prev [p]=0 ↔ _
    rw [qcz]
    cases hb:badS m p with
    | true=>simp
    | false =>
      by_cases hc:p.1≤prev
      · rw [decide_eq_true hc]
        simp only [Bool.cond_false,Bool.cond_true,endOf]
        constructor
        · intro h;cases h
        · rintro ⟨_,_,h⟩;omega
      · rw [decide_eq_false hc]
        simp only [Bool.cond_false,endOf]
        exact ⟨fun _=>⟨by trivial,by trivial,by omega⟩,fun _=>by trivial⟩
  | x::r,prev=>by
    show qay m prev (x::(r ++ [p]))=0 ↔ _
    rw [qcz,qcz]
    cases hb:badS m x with
    | true=>simp
    | false =>
      by_cases hc:x.1≤prev
      · rw [decide_eq_true hc];simp
      · rw [decide_eq_false hc]
        exact holeE_snoc p r x.2
theorem badS_no {m:Nat} {p:Int × Int}:badS m p=false ↔ 0≤p.1∧p.1 < p.2∧p.2≤m:=by
 unfold badS
 simp only [Bool.or_eq_false_iff,decide_eq_false_iff_not]
 omega
structure HoleI (B:List Bool) (i:Nat) (S:List (Int × Int)):Prop where
 h0:qay B.length (-1) S=0
 hi:∀ p,p ∈ S→p.2≤(i:Int)
 hk:∀ x:Nat,x < i→S.any (inS x)=!B.getD x false
 ho:0 < i∧B.getD (i - 1) false=false→∃ T a,S=T ++ [((a:Int),(i:Int))]
 hc:¬ (0 < i∧B.getD (i - 1) false=false)→endOf (-1) S < (i:Int)
theorem inS_past {S:List (Int × Int)} {i:Nat} (h:∀ p,p ∈ S→p.2≤(i:Int)):S.any (inS i)=false:=by
 rw [List.any_eq_false]
 intro p hp
 have:=h p hp
 unfold inS
 rw [decide_eq_false (by omega:¬ (i:Int) < p.2),Bool.and_false]
 decide
theorem holeI (B:List Bool):∀ i,i≤B.length→HoleI B i (qcx B i)
  | 0,_=>⟨rfl,fun p hp=>(by cases hp),fun x hx=>by omega,fun h=>by omega,fun _=>(by show (-1:Int) < 0;decide)⟩
  | i + 1, hle => by
    obtain ⟨h0,hi,hk,ho,hc⟩:=holeI B i (by omega)
    show HoleI B (i+1) (hstep B (qcx B i) i)
    generalize qcx B i=S at *
    have sub1:i+1 - 1=i:=by omega
    unfold hstep
    by_cases hb:B.getD i false=true
    · rw [if_pos hb]
      refine ⟨h0,fun p hp=>by have:=hi p hp;omega,fun x hx=>?_,fun h=>?_,fun _=>?_⟩
      · by_cases hxi:x < i
        · exact hk x hxi
        · obtain rfl:x=i:=by omega
          rw [inS_past hi,hb];rfl
      · rw [sub1,hb] at h;cases h.2
      · have:=endOf_le S (-1) (show (-1:Int)≤(i:Int) by omega) hi
        omega
    · have hb':B.getD i false=false:=by simpa using hb
      rw [if_neg hb]
      by_cases hp:0 < i∧B.getD (i - 1) false=false
      · rw [if_pos hp]
        obtain ⟨T,a,rfl⟩:=ho hp
        obtain ⟨t0,t1,t2⟩:=(holeE_snoc _ T (-1)).1 h0
        have t1':=badS_no.1 t1
        have hS:(T ++ [(a,(i:Int))]).set ((T ++ [(a,(i:Int))]).length - 1) (((T ++ [(a,(i:Int))]).getD ((T ++ [(a,(i:Int))]).length - 1) (0,0)).1,(i:Int)+1)=T ++ [(a,((i+1:Nat):Int))]:=by
          simp
        rw [hS]
        refine ⟨(holeE_snoc _ T (-1)).2 ⟨t0,badS_no.2 ⟨t1'.1,?_,?_⟩,t2⟩,fun p hp=>?_,fun x hx=>?_,fun _=>⟨T,a,rfl⟩,fun h=>?_⟩
        · have:a < (i:Int):=t1'.2.1
          show a < ((i+1:Nat):Int)
          omega
        · show ((i+1:Nat):Int)≤_
          omega
        · rcases List.mem_append.1 hp with hp | hp
          · have:=hi p (List.mem_append_left _ hp);omega
          · simp at hp;subst hp;exact Int.le_refl _
        · have ha:a < (i:Int):=t1'.2.1
          by_cases hxi:x < i
          · rw [← hk x hxi,List.any_append,List.any_append]
            congr 1
            simp only [List.any_cons,List.any_nil,Bool.or_false,inS]
            congr 1
            rw [decide_eq_true (by omega:(x:Int) < ((i+1:Nat):Int)),decide_eq_true (by omega:(x:Int) < (i:Int))]
          · obtain rfl:x=i:=by omega
            rw [hb',List.any_append]
            simp only [List.any_cons,List.any_nil,Bool.or_false,inS]
            rw [decide_eq_true (by omega:(x:Int) ≥ a),decide_eq_true (by omega:(x:Int) < ((x+1:Nat):Int))]
            simp
        · rw [sub1] at h
          exact absurd ⟨by omega,hb'⟩ h
      · rw [if_neg hp]
        have hc':=hc hp
        refine ⟨(holeE_snoc _ S (-1)).2 ⟨h0,badS_no.2 ⟨by show (0:Int)≤(i:Int);omega,by show (i:Int) < (i:Int)+1;omega,by show (i:Int)+1≤_;omega⟩,hc'⟩,fun p hp=>?_,fun x hx=>?_,fun _=>⟨S,(i:Int),rfl⟩,fun h=>?_⟩
        · rcases List.mem_append.1 hp with hp | hp
          · have:=hi p hp;omega
          · simp at hp;subst hp;show (i:Int)+1≤_;omega
        · rw [List.any_append]
          by_cases hxi:x < i
          · rw [← hk x hxi]
            simp only [List.any_cons,List.any_nil,Bool.or_false,inS]
            rw [decide_eq_false (by omega:¬ (x:Int) ≥ (i:Int))]
            simp
          · obtain rfl:x=i:=by omega
            rw [hb']
            simp only [List.any_cons,List.any_nil,Bool.or_false,inS]
            rw [decide_eq_true (by omega:(x:Int) ≥ (x:Int)),decide_eq_true (by omega:(x:Int) < (x:Int)+1)]
            simp
        · rw [sub1] at h
          exact absurd ⟨by omega,hb'⟩ h
theorem known_holes (B:List Bool):qav (qah B) B.length=B:=by
 have H:=holeI B B.length (Nat.le_refl _)
 apply List.ext_getElem?
 intro x
 by_cases hx:x < B.length
 ·unfold qav
  rw [List.getElem?_map,List.getElem?_range hx]
  show some (qam (qah B) x)=_
  unfold qam
  rw [show (qah B).any (inS x)=!B.getD x false from H.hk x hx,Bool.not_not,List.getD_eq_getElem?_getD,List.getElem?_eq_getElem hx]
  rfl
 ·rw [List.getElem?_eq_none (by rw [qcb];omega),List.getElem?_eq_none (by omega)]
theorem holes_ok (B:List Bool):qay B.length (-1) (qah B)=0:=(holeI B B.length (Nat.le_refl _)).h0
def DarkC (C:List (Int × Bool)):Prop:=∀ c,c ∈ C→c.2=false→c.1=0
theorem made_run {s:ByteArray} {n:Int} {C:List (Int × Bool)} (hd:headE s n C.length=0) (hn:n+C.length≤100000000) (lim:∀ c,c ∈ C→c.1.natAbs≤16384) (dk:DarkC C) :
    ∃ es,SErr (C.map fun c=>smp c.1) es∧Lev (C.map fun c=>smp c.1) (C.map fun c=>c.1)∧runE s n (C.map fun c=>smp c.1).length (qah (C.map fun c=>c.2)) es (C.map fun c=>c.1)=0∧Valid s n (C.map fun c=>smp c.1) (qah (C.map fun c=>c.2)) (C.map fun c=>c.1)∧qbj (C.map fun c=>c.1) (qah (C.map fun c=>c.2))=C:=by
  have hL:=lev_smp lim
  obtain ⟨es,hE,h0⟩:=serr_zero hL
  have hlen:(C.map fun c=>smp c.1).length=C.length:=by simp
  have hlen2:(C.map fun c=>c.2).length=C.length:=by simp
  have ho:qay C.length (-1) (qah (C.map fun c=>c.2))=0:=by have:=holes_ok (C.map fun c=>c.2);rwa [hlen2] at this
  have hK:qav (qah (C.map fun c=>c.2)) C.length=C.map fun c=>c.2:=by have:=known_holes (C.map fun c=>c.2);rwa [hlen2] at this
  have hin:=qct ho
  have hform:(qah (C.map fun c=>c.2)).any (qdo (C.map fun c=>c.1))=false:=by
    cases hb:(qah (C.map fun c=>c.2)).any (qdo (C.map fun c=>c.1)) with
    | false=>rfl
    | true =>
      obtain ⟨j,x,hj,hx,hk⟩:=(form_iff hin).1 hb
      rw [List.getElem?_map] at hj
      cases hc:C[j]? with
      | none=>rw [hc] at hj;cases hj
      | some c =>
        have hjl:j < C.length:=(List.getElem?_eq_some_iff.1 hc).1
        have hkj:(qav (qah (C.map fun c=>c.2)) C.length)[j]?=some (qam (qah (C.map fun c=>c.2)) j):=by
          unfold qav
          rw [List.getElem?_map,List.getElem?_range hjl];rfl
        rw [hK,List.getElem?_map,hc,hk] at hkj
        rw [hc] at hj
        exact absurd ((Option.some.inj hj).symm.trans (dk c (List.mem_of_getElem? hc) (Option.some.inj hkj))) hx
  obtain ⟨_,n0,n1,hm⟩:=headE_zero hd
  have hr:runE s n (C.map fun c=>smp c.1).length (qah (C.map fun c=>c.2)) es (C.map fun c=>c.1)=0:=by
    unfold runE tailE formE
    rw [hlen,hd,h0,ho,hform,decide_eq_false (by omega)]
    rfl
  refine ⟨es,hE,hL,hr,valid_of (fun _=>hL) hr,?_⟩
  rw [cells_eq hL (by rw [hlen];exact hin),hlen,hK]
  apply List.ext_getElem?
  intro i
  cases hc:C[i]? with
  | none =>
    have:C.length≤i:=List.getElem?_eq_none_iff.1 hc
    rw [List.getElem?_eq_none (by rw [cellsK_ln (by simp)];simp;omega)]
  | some c =>
    rw [cellsK_get (x:=c.1) (p:=c.2) (by rw [List.getElem?_map,hc];rfl) (by rw [List.getElem?_map,hc];rfl)]
    obtain ⟨x,k⟩:=c
    cases k with
    | true=>rfl
    | false =>
      have h1:x=0:=dk _ (List.mem_of_getElem? hc) rfl
      subst h1;rfl
theorem Valid.darkC {s:ByteArray} {n:Int} {F:List Nat} {S:List (Int × Int)} {L:List Int} (V:Valid s n F S L):DarkC (qbj L S):=by
 rw [V.cells]
 intro c hc hk
 obtain ⟨i,hi,e⟩:=List.getElem_of_mem hc
 have kl:=V.kl
 rw [cellsK_ln kl] at hi
 have hx:L[i]?=some L[i]:=List.getElem?_eq_getElem hi
 have hp:(qav S F.length)[i]?=some (qav S F.length)[i]:=List.getElem?_eq_getElem (by omega)
 have hg:=cellsK_get hx hp
 rw [List.getElem?_eq_getElem (by rw [cellsK_ln kl];exact hi),e] at hg
 have:=Option.some.inj hg
 cases hb:(qav S F.length)[i] with
 | true=>rw [hb] at this;rw [this] at hk;cases hk
 | false=>rw [hb] at this;rw [this];rfl
end Go.Tidy
