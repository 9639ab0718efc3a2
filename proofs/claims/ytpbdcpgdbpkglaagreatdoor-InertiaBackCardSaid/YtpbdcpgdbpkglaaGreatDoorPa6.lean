/- A part of the proof. -/
import Derived.Test.YtpbdcpgdbpkglaaGreatDoorPa5
import Derived.Test.YtpbdcpgdbpkglaaGreatDoorPa2
import Derived.Test.YtpbdcpgdbpkglaaGreatDoorPa4
set_option linter.all false
namespace Go.Tidy
open Go Go.Proofs Tab
variable {tp:TProg}
section
variable {h:TH} {v w v1 v8 v21 v23 v25 v27:Value} {F G R:List Nat} {es es' ee L M D S:List Int} {x y m a b:Int} {n c5 fa fb:Nat}
theorem fine_trn (hl:∀ j,j < L.length→(L.getD j 0).natAbs≤16384):∀ x,x ∈ trnL L→okI x=true:=fun x hx=>by
 unfold trnL at hx
 rw [List.mem_reverse,List.mem_map] at hx
 obtain ⟨y,hy,rfl⟩:=hx
 obtain ⟨i,hi⟩:=List.mem_iff_getElem?.1 hy
 have hlt:=(List.getElem?_eq_some_iff.1 hi).1
 have:=hl i hlt
 rw [List.getD_eq_getElem?_getD,hi] at this
 replace this:y.natAbs≤16384:=this
 exact okI_iff.2 (by omega)
theorem fine_ben (hl:∀ j,j < L.length→-8≤L.getD j 0∧L.getD j 0≤8):∀ x,x ∈ benL L→x.natAbs≤32:=fun x hx=>by
 obtain ⟨i,hi⟩:=List.mem_iff_getElem?.1 hx
 have hlt:=(List.getElem?_eq_some_iff.1 hi).1
 rw [ben_len] at hlt
 have e:=ben_get hlt
 rw [List.getD_eq_getElem?_getD,hi] at e
 replace e:x=_:=e
 have a:=hl i (by omega)
 have b:=hl (i+1) (by omega)
 have c:=hl (i+2) (by omega)
 omega
def cd1249d:TCode:=.seq (.reg r1249_34) (.seq (.reg r1249_35) (.seq (.reg r1249_36) .ret))
set_option maxHeartbeats 2000000 in
theorem k1249d (H:Has tp) (X:HasX tp) (K:Awk tp) (Gl:Glob h) (f:Free0 h.next h) (s:SlL encF 1 h v F) (lv:Lev F L) (h2:2≤F.length) (hF:F.length≤24) (hl:∀ j,j < L.length→-8≤L.getD j 0∧L.getD j 0≤8) (r25:RF h v25 (trnL L)) (r27:RF h v27 (trnL (benL L))) :
  ∀ r,Kn [(0,v),(25,v25),(27,v27)] r→W Tryz.prog tp false cd1249d r h (Fin Tryz.prog [.tmp 6] fun v _=>v=.bool true):=by
 unfold cd1249d
 have ll:=lv.1
 obtain ⟨T,sT,lT⟩:=r25
 have lt:=lT.1
 have l3:=trn_len (L:=L)
 have bn:=ben_len (L:=L)
 have bo:=fine_ben hl
 have ok1:∀ x,x ∈ benL (trnL L)→okI x=true:=by
  rw [ben_trn]
  exact fine_trn fun j hj=>by have:=bo _ (List.mem_of_getElem? (at_getD hj));omega
 have ok2:∀ x,x ∈ trnL (trnL L)→okI x=true:=fun x hx=>by
  rw [trn_trn] at hx
  exact okI_iff.2 (by have:=lev_limI lv x hx;omega)
 refine WL.sr<|WOL.mv rfl<|WOL.cl1 rfl rfl ((k1258 H sT (by omega)).mono ?_)
 rintro u g1 ⟨X1,b1,m1,k1,rfl,s1,_⟩
 refine WOL.cl1 rfl rfl ((k1277o H X (Gl.hx X1) s1 lT (by omega) (by omega) ok1 (f.on X1)).mono ?_)
 rintro u g2 ⟨X2,v29,rfl,r29⟩
 have Y2:=X1.trans X2
 rw [ben_trn] at r29
 refine WOL.mv rfl<|WOL.ex rfl rfl<|WOL.ex rfl rfl<|WOL.as rfl<|WOL.as rfl<|WOL.nil<|keep [(0,_),(25,_),(27,_),(29,_),(30,_)] ⟨rfl,rfl,rfl,rfl,rfl,trivial⟩ ?_
 refine WL.sr<|WOL.mv rfl<|WOL.cl1 rfl rfl ((k1258 H (sT.hx Y2) (by omega)).mono ?_)
 rintro u g3 ⟨X3,b3,m3,k3,rfl,s3,_⟩
 have Y3:=Y2.trans X3
 refine WOL.cl1 rfl rfl ((k1259o H X s3 lT (by omega) ok2 (f.on Y3)).mono ?_)
 rintro u g4 ⟨X4,v31,rfl,r31⟩
 have Y4:=Y3.trans X4
 rw [trn_trn] at r31
 refine WOL.mv rfl<|WOL.ex rfl rfl<|WOL.ex rfl rfl<|WOL.as rfl<|WOL.as rfl<|WOL.nil<|keep [(0,_),(27,_),(29,_),(30,_),(31,_),(32,_)] ⟨rfl,rfl,rfl,rfl,rfl,rfl,trivial⟩ ?_
 refine WL.sr<|WOL.mv rfl<|WOL.bt rfl rfl rfl rfl<|WOL.mv rfl<|WOL.now (b:=true) rfl rfl<|WOL.mv rfl<|WOL.now (b:=true) rfl rfl<|WOL.bt rfl rfl rfl rfl<|WOL.pkt rfl rfl<|WOL.mv rfl<|WOL.now (b:=true) rfl rfl<|WOL.mv rfl<|WOL.now (b:=true) rfl rfl<|WOL.mv rfl<|WOL.now (b:=true) rfl rfl<|WOL.cl2 rfl rfl rfl ((k58r H (r29.hx (X3.trans X4)) (r27.hx Y4) (by rw [trn_len];omega)).mono ?_)
 rintro u g5 ⟨rfl,rfl⟩
 refine WOL.pkt rfl rfl<|WOL.mv rfl<|WOL.now (b:=true) rfl rfl<|WOL.mv rfl<|WOL.now (b:=true) rfl rfl<|WOL.mv rfl<|WOL.now (b:=true) rfl rfl<|WOL.cl2 rfl rfl rfl ((k58r H r31 ⟨F,s.hx Y4,lv⟩ (by omega)).mono ?_)
 rintro u g6 ⟨rfl,rfl⟩
 refine WOL.pkt rfl rfl<|WOL.mv rfl<|WOL.now (b:=true) rfl rfl<|WOL.cl0 rfl ((k11t K _).mono ?_)
 rintro u g7 ⟨rfl,rfl⟩
 exact WOL.pkt rfl rfl<|WOL.as rfl<|WOL.nil<|WL.ret (WL.end_ rfl rfl)
def cd1249c:TCode:=.seq (.reg r1249_29) (.seq (.reg r1249_30) (.seq (.reg r1249_31) (.seq (.seq (.reg r1249_32) (.cond (.tmp 221) (.seq (.reg r1249_33) .ret) .skip)) cd1249d)))
set_option maxHeartbeats 2000000 in
theorem k1249c (H:Has tp) (X:HasX tp) (K:Awk tp) (Gl:Glob h) (f:Free0 h.next h) (s:SlL encF 1 h v F) (lv:Lev F L) (h2:2≤F.length) (hF:F.length≤24) (hl:∀ j,j < L.length→-8≤L.getD j 0∧L.getD j 0≤8) (r8:RF h v8 (benL L)) (r21:RF h v21 M) (hM:M.length=L.length) (eM:benL M=benL L) :
  ∀ r,Kn [(0,v),(7,zi (F.length:Nat)),(8,v8),(21,v21)] r→W Tryz.prog tp false cd1249c r h (Fin Tryz.prog [.tmp 6] fun v _=>v=.bool true):=by
 unfold cd1249c
 have ll:=lv.1
 obtain ⟨B,sB,lB⟩:=r8
 obtain ⟨R,sR,lR⟩:=r21
 have lb:=lB.1
 have lr:=lR.1
 have l3:=trn_len (L:=L)
 have l4:=trn_len (L:=benL L)
 have bn:=ben_len (L:=L)
 have bo:=fine_ben hl
 have ok1:∀ x,x ∈ benL M→okI x=true:=by
  rw [eM]
  exact fun x hx=>okI_iff.2 (by have:=bo x hx;omega)
 have ok2:∀ x,x ∈ trnL L→okI x=true:=fine_trn fun j hj=>by have:=hl j hj;omega
 have ok3:∀ x,x ∈ trnL (benL L)→okI x=true:=fine_trn fun j hj=>by have:=bo _ (List.mem_of_getElem? (at_getD hj));omega
 refine WL.sr<|WOL.mv rfl<|WOL.cl1 rfl rfl ((k1277o H X Gl sR lR (by omega) (by omega) ok1 f).mono ?_)
 rintro u g2 ⟨X2,v23,rfl,r23⟩
 rw [eM] at r23
 refine WOL.mv rfl<|WOL.ex rfl rfl<|WOL.ex rfl rfl<|WOL.as rfl<|WOL.as rfl<|WOL.nil<|keep [(0,_),(7,_),(8,_),(23,_),(24,_)] ⟨rfl,rfl,rfl,rfl,rfl,trivial⟩ ?_
 refine WL.sr<|WOL.mv rfl<|WOL.cl1 rfl rfl ((k1258 H (s.hx X2) (by omega)).mono ?_)
 rintro u g3 ⟨X3,b3,m3,k3,rfl,s3,_⟩
 have Y3:=X2.trans X3
 refine WOL.cl1 rfl rfl ((k1259o H X s3 lv (by omega) ok2 (f.on Y3)).mono ?_)
 rintro u g4 ⟨X4,v25,rfl,r25⟩
 have Y4:=Y3.trans X4
 refine WOL.mv rfl<|WOL.ex rfl rfl<|WOL.ex rfl rfl<|WOL.as rfl<|WOL.as rfl<|WOL.nil<|keep [(0,_),(7,_),(8,_),(23,_),(24,_),(25,_),(26,_)] ⟨rfl,rfl,rfl,rfl,rfl,rfl,rfl,trivial⟩ ?_
 refine WL.sr<|WOL.mv rfl<|WOL.cl1 rfl rfl ((k1258 H (sB.hx Y4) (by omega)).mono ?_)
 rintro u g5 ⟨X5,b5,m5,k5,rfl,s5,_⟩
 have Y5:=Y4.trans X5
 refine WOL.cl1 rfl rfl ((k1259o H X s5 lB (by omega) ok3 (f.on Y5)).mono ?_)
 rintro u g6 ⟨X6,v27,rfl,r27⟩
 have Z6:=X5.trans X6
 have Y6:=Y5.trans X6
 refine WOL.mv rfl<|WOL.ex rfl rfl<|WOL.ex rfl rfl<|WOL.as rfl<|WOL.as rfl<|WOL.nil<|keep [(0,_),(7,_),(8,_),(23,_),(24,_),(25,_),(26,_),(27,_),(28,_)] ⟨rfl,rfl,rfl,rfl,rfl,rfl,rfl,rfl,rfl,trivial⟩ ?_
 obtain ⟨T,sT,lT⟩:=r25.hx Z6
 have lt:=lT.1
 refine WL.seq<|WL.sr<|WOL.mv rfl<|WOL.mv rfl<|WOL.add (m:=0) (n:=0) rfl rfl (by decide) (by decide)<|WOL.mv rfl<|WOL.add (m:=0+0) (n:=0) rfl rfl (by decide) (by decide)<|WOL.bf rfl rfl rfl rfl<|WOL.mv rfl<|WOL.now (b:=false) rfl rfl<|WOL.mv rfl<|WOL.now (b:=false) rfl rfl<|WOL.mv rfl<|WOL.now (b:=false) rfl rfl<|WOL.cl2 rfl rfl rfl ((k58r H (r23.hx ((X3.trans X4).trans Z6)) ⟨B,sB.hx Y6,lB⟩ (by omega)).mono ?_)
 rintro u g7 ⟨rfl,rfl⟩
 refine WOL.now (b:=false) rfl rfl<|WOL.nt rfl<|WOL.pkf rfl rfl<|WOL.mv rfl<|WOL.now (b:=false) rfl rfl<|WOL.mv rfl<|WOL.now (b:=false) rfl rfl<|WOL.len rfl sT u43<|WOL.now (b:=false) rfl rfl<|WOL.mv rfl<|WOL.now (b:=false) rfl rfl<|WOL.bf rfl rfl rfl (bne_eq_false_iff_eq.2 (show ((T.length:Nat):Int)=((F.length:Nat):Int) by omega))<|WOL.pkf rfl rfl<|WOL.mv rfl<|WOL.now (b:=false) rfl rfl<|WOL.mv rfl<|WOL.now (b:=false) rfl rfl<|WOL.cl1 rfl rfl ((k1261o H sT lT (by omega)).mono ?_)
 rintro u g8 ⟨rfl,rfl⟩
 refine WOL.now (b:=false) rfl rfl<|WOL.bf rfl rfl rfl rfl<|WOL.pkf rfl rfl<|WOL.nil<|WL.no rfl<|WL.skip ?_
 exact kto (k1249d H X K (Gl.hx Y6) (f.on Y6) (s.hx Y6) lv h2 hF hl ⟨T,sT,lT⟩ r27) ⟨rfl,rfl,rfl,trivial⟩
end
end Go.Tidy
namespace Go.Tidy
section
variable {keep:Nat→Bool} {x:Nat→Int}
def celJ (keep:Nat→Bool) (x:Nat→Int) (p:Nat):Int × Bool:=if keep (p / 3) then (x p,true) else (0,false)
def rowJ (keep:Nat→Bool) (x:Nat→Int) (lo hi:Nat):List (Int × Bool):=(List.range' lo (hi - lo)).map (celJ keep x)
end
def keptJ (keep:Nat→Bool) (n:Nat):List Nat:=(List.range n).filter keep
end Go.Tidy
namespace Go.Tidy
open Go Go.Proofs Tab
variable {tp:TProg}
def lane (s:Nat→ByteArray) (n:Int) (h:TH) (v1 v2:Nat→Value) (C:Nat→List (Int × Bool)) (N:Nat):Prop:=∀ k,RunC (s k) n h (v1 k) (v2 k) (C k)∧(C k).length=N
theorem lane.hx {s:Nat→ByteArray} {n:Int} {h h':TH} {v1 v2:Nat→Value} {C:Nat→List (Int × Bool)} {N:Nat} (l:lane s n h v1 v2 C N) (x:HX h h'):lane s n h' v1 v2 C N:=fun k=>⟨(l k).1.hx x,(l k).2⟩
section
variable {s:Nat→ByteArray} {n:Int} {v1 v2:Nat→Value} {C:Nat→List (Int × Bool)} {N lb c2 c7:Nat} {m:Int} {hb g:TH} {Q:Exit→Regs→TH→Prop} {gx:Nat} {p126 p127 p128:Value}
end
end Go.Tidy
namespace Go.Tidy
open Go Go.Proofs Tab
variable {tp:TProg}
section
variable {src n:Nat} {kp:Nat→Bool} {x:Nat→Int}
end
abbrev rN:ByteArray:=⟨#[114]⟩
theorem Above.none {n0 m c:Nat}:Above n0 (.slice .none m c):=fun b off sp m c h=>by cases h
theorem Above.of {n0 b m c:Nat} (h:n0≤b):Above n0 (.slice (some ⟨b,0,.none⟩) m c):=fun b off sp m c e=>by cases e;exact h
def JRun (kp:Nat→Bool) (x:Nat→Int) (n j:Nat) (s:Int × Value × Value) (g:TH):Prop :=
 (j=0∧s=(0,.slice none 0 0,.slice none 0 0))∨∃ k c0 cl,j=k+1∧(keptJ kp n)[0]?=some c0∧(keptJ kp n)[k]?=some cl∧c0≤cl∧s.1=((3*c0:Nat):Int)∧RunC rN ((3*c0:Nat):Int) g s.2.1 s.2.2 (rowJ kp x (3*c0) (3*(cl+1)))
theorem JRun.hx {kp:Nat→Bool} {x:Nat→Int} {n j:Nat} {s:Int × Value × Value} {g g':TH} (q:JRun kp x n j s g) (X:HX g g'):JRun kp x n j s g':=by
 rcases q with q | ⟨k,c0,cl,q1,q2,q3,q4,q5,q6⟩
 ·exact .inl q
 ·exact .inr ⟨k,c0,cl,q1,q2,q3,q4,q5,q6.hx X⟩
section
variable {hB i7:TH} {n:Nat} {kp:Nat→Bool} {x:Nat→Int} {c7 c10 c0 cl c N:Nat} {p2 v1 v2 u1 u2 w17:Value} {j:Int}
end
end Go.Tidy
namespace Go.Tidy
open Go Go.Proofs Tab
variable {tp:TProg}
section
variable {kp:Nat→Bool} {x:Nat→Int} {n j:Nat}
end
section
variable {P:Program} {h:TH} {K:Regs→TH→Prop} {rest:List TOper} {d:Option Tmp} {ty t u:TypeId} {i:Nat} {x y:Operand} {L:Rg}
theorem WOL.fdiv {k:FloatKind} {b c r:Nat} (hx:getL L x=some (.float k b)) (hy:getL L y=some (.float k c)) (hb:nanB k b=false) (hc:nanB k c=false) (hr:k.format.div b c=some r) (hn:nanB k r=false)
  (w:∀ a,Kn (putL L d (.float k r)) a→WO P tp rest a h K):∀ a,Kn L a→WO P tp (⟨d,.binOp .quo t x y u,ty,none,[],i⟩::rest) a h K:=fun a k=>WO.fdiv (k.o hx) (k.o hy) hb hc hr hn (w _ (k.put d _))
end
end Go.Tidy
namespace Go.Tidy
open Go Go.Proofs Tab
variable {tp:TProg}
section
variable {P:Program} {h:TH} {K:Regs→TH→Prop} {rest:List TOper} {d:Option Tmp} {ty:TypeId} {i:Nat} {x y:Operand} {t u:TypeId} {L:Rg}
theorem WOL.cvf {s t:TypeId} {ds:TypeDesc} {k:IntKind} {k':FloatKind} {n:Int} (hs:P.underlying s=some ds) (ht:P.underlying t=some (.float k')) (hx:getL L x=some (.int k n)) (hn:nanB k' (k'.nearest n)=false) (w:∀ a,Kn (putL L d (.float k' (k'.nearest n))) a→WO P tp rest a h K):∀ a,Kn L a→WO P tp (⟨d,.convert s t x,ty,none,[],i⟩::rest) a h K:=fun a q =>
 WO.conv (q.o hx) rfl (conv_i2f hs ht) (plain_float hn) (w _ (q.put d _))
theorem WOL.remT {m n:Int} (hx:getL L x=some (.int .i64 m)) (hy:getL L y=some (.int .i64 n)) (hn:n≠0) (w:∀ a,Kn (putL L d (.int .i64 (m.tmod n))) a→WO P tp rest a h K):∀ a,Kn L a→WO P tp (⟨d,.binOp .rem t x y u,ty,none,[],i⟩::rest) a h K:=fun a k =>
 WO.remI (k.o hx) (k.o hy) hn (w _ (k.put d _))
end
theorem tm_lim (z:Int):(z.tmod 33).natAbs≤32:=by
 rw [Int.natAbs_tmod]
 have:=Nat.mod_lt z.natAbs (show 0 < (33:Int).natAbs by decide)
 have e:(33:Int).natAbs=33:=rfl
 omega
theorem u91:Tryz.prog.underlying 103=some (.int .i8):=by kernel_rfl
theorem u5i:Tryz.prog.underlying 5=some (.int .u8):=by kernel_rfl
theorem u116i:Tryz.prog.underlying 102=some (.slice 5):=by kernel_rfl
theorem tp91:Tp Tryz.prog 103 1 [.int .i8 0] false:=tp_of (by kernel_rfl) (by kernel_rfl) rfl
theorem tp5i:Tp Tryz.prog 5 1 [.int .u8 0] false:=tp_of (by kernel_rfl) (by kernel_rfl) rfl
theorem ix1167_0 {c:Nat}:indexAddrT Tryz.prog 104 (.pointer (some ⟨c,0,none⟩)) (.int .i64 0)=some (.pointer (some ⟨c,0,none⟩)):=by kernel_rfl
theorem ix1167_1 {c:Nat}:indexAddrT Tryz.prog 104 (.pointer (some ⟨c,0,none⟩)) (.int .i64 1)=some (.pointer (some ⟨c,1,none⟩)):=by kernel_rfl
section
variable {h:TH} {v w v1 v8 v21 v23 v25 v27:Value} {F G R:List Nat} {es es' ee L M D S:List Int} {x y m p q:Int} {n c5 fa fb:Nat} {U:List (_root_.Fin 256)}
def rampL (L:List Int) (a b:Int):List Int:=(List.range L.length).map fun i=>L.getD i 0+(a+(i:Int)*b)
theorem ramp_len {a b:Int}:(rampL L a b).length=L.length:=by unfold rampL;rw [List.length_map,List.length_range]
theorem ramp_get {a b:Int} {i:Nat} (h:i < L.length):(rampL L a b).getD i 0=L.getD i 0+(a+(i:Int)*b):=by
 rw [List.getD_eq_getElem?_getD];unfold rampL;rw [tbl_get,if_pos h];rfl
def cd1249b:TCode:=.seq (.reg r1249_23) (.seq (.seq (.reg r1249_24) (.block 2 (.loop (.seq (.reg r1249_25) (.seq (.cond (.tmp 158) .skip (.exit 2)) (.seq (.block 3 (.seq (.reg r1249_26) (.reg r1249_27))) (.reg r1249_28))))))) cd1249c)
set_option maxHeartbeats 2000000 in
theorem k1249b (H:Has tp) (X:HasX tp) (K:Awk tp) (Gl:Glob h) (f:Free0 h.next h) (A5:At h c5 (.cells [.int .i8 p,.int .i8 q] true true 104)) (s:SlL encF 1 h v F) (lv:Lev F L) (h2:2≤F.length) (hF:F.length≤24) (hl:∀ j,j < L.length→-8≤L.getD j 0∧L.getD j 0≤8) (r8:RF h v8 (benL L)) :
    ∀ r,Kn [(0,v),(5,ptr c5),(7,zi (F.length:Nat)),(8,v8)] r→W Tryz.prog tp false cd1249b r h (Fin Tryz.prog [.tmp 6] fun v _=>v=.bool true):=by
  unfold cd1249b
  have ll:=lv.1
  obtain ⟨a,ha⟩:∃ a,(IntKind.i64.wrap p).tmod 33=a:=⟨_,rfl⟩
  obtain ⟨b,hb⟩:∃ b,(IntKind.i64.wrap q).tmod 33=b:=⟨_,rfl⟩
  have la:a.natAbs≤32:=by rw [← ha];exact tm_lim _
  have lb:b.natAbs≤32:=by rw [← hb];exact tm_lim _
  refine WL.sr<|WOL.mv rfl<|WOL.cl1 rfl rfl ((k1258o H s (by omega) (by omega)).mono ?_)
  rintro u g1 ⟨X1,c,rfl,hc,Ac⟩
  have x1:=X1.next
  have y1:=Ac.lt
  refine WOL.as rfl<|WOL.nil<|keep [(0,_),(5,_),(7,_),(8,_),(21,_)] ⟨rfl,rfl,rfl,rfl,rfl,trivial⟩ ?_
  refine WL.seq<|WL.sr<|WOL.mv rfl<|WOL.len rfl (SlL.own eF Ac rfl:SlL encF 1 g1 (slA c F.length) F) u43<|WOL.mv rfl<|WOL.nil<|keep [(0,_),(5,_),(7,_),(8,_),(21,_),(155,_),(156,_),(157,_)] ⟨rfl,rfl,rfl,rfl,rfl,rfl,rfl,rfl,trivial⟩ ?_
  refine WL.upto (α:=List Nat) F.length (fun j R g=>HX h g∧g1.next≤g.next∧At g c (.cells (cat encF R) false true 22)∧R.length=F.length∧(∀ i,i < j→Samp (R.getD i 0) (L.getD i 0+(a+(i:Int)*b)))∧∀ i,j≤i→R[i]?=F[i]?) (fun _ _=>[(0,v),(5,ptr c5),(7,zi (F.length:Nat)),(8,v8),(21,slA c F.length),(156,zi (F.length:Nat))]) F rfl rfl (by omega) ⟨X1,Nat.le_refl _,Ac,rfl,fun i hi=>absurd hi (by omega),fun _ _=>rfl⟩ ⟨rfl,rfl,rfl,rfl,rfl,rfl,rfl,trivial⟩ (fun _ _=>rfl) (fun _ _ _=>⟨rfl,rfl,rfl,rfl,rfl,rfl,rfl,trivial⟩) (fun _ _ _=>⟨rfl,rfl,rfl,rfl,rfl,rfl,rfl,trivial⟩) ?_ ?_
  · rintro j R g hj ⟨Xg,nx,Wd,hR,hz,hr⟩
    have hq:R[j]?=some F[j]:=(hr j (Nat.le_refl _)).trans (List.getElem?_eq_getElem _)
    have eL:L[j]?=some (L.getD j 0):=at_getD (by omega)
    have sm:=(lv.2 j _ _ (List.getElem?_eq_getElem hj) eL).x
    have l8:=hl j (by omega)
    have sl:SlL encF 1 g (slA c F.length) R:=SlL.own eF Wd hR
    obtain ⟨_,_,cb,fb',wb,elb,c1,c2,c3,c4,c5'⟩:=sl.at eF u43 tp25 hq .i64
    have gxb:=c5' 0 (by decide)
    rw [Nat.add_zero] at gxb
    have jb:=mulb (w:=(j:Int)) (x:=b) (a:=24) (b:=32) (by omega) lb
    obtain ⟨a1,a2,a3⟩:=smp_ok (n:=a) (by omega)
    obtain ⟨b1,b2,b3⟩:=smp_ok (n:=(j:Int)*b) (by omega)
    have Ag:=A5.hx Xg
    refine WL.sr<|WOL.mv rfl<|WOL.as rfl<|WOL.nil<|keep [(0,_),(5,_),(7,_),(8,_),(21,_),(22,_),(156,_),(157,_)] ⟨rfl,rfl,rfl,rfl,rfl,rfl,rfl,rfl,trivial⟩ ?_
    refine WL.reg<|WOL.mv rfl<|WOL.mv rfl<|WOL.ix rfl rfl c1<|WOL.ld rfl (load_one tp25 c2 gxb)<|WOL.ix rfl rfl ix1167_0<|WOL.ld rfl (load_one tp91 Ag rfl)<|WOL.cvw u91 u3 rfl<|WOL.remT (n:=33) rfl rfl (by decide) ?_
    rw [ha]
    refine WOL.cvf u3 u25 rfl a2<|WOL.fdiv rfl rfl a2 (by decide) a1 a3.nan<|WOL.mv rfl<|WOL.ix rfl rfl ix1167_1<|WOL.ld rfl (load_one tp91 Ag rfl)<|WOL.cvw u91 u3 rfl<|WOL.remT (n:=33) rfl rfl (by decide) ?_
    rw [hb]
    refine WOL.mul (m:=(j:Int)) (n:=b) rfl rfl (by omega) (by omega)<|WOL.cvf u3 u25 rfl b2<|WOL.fdiv rfl rfl b2 (by decide) b1 b3.nan<|WOL.fadd a3.x b3.x (by omega) (by omega) rfl rfl fun r1 s1=>WOL.fadd sm s1 (by omega) (by omega) rfl rfl fun r2 s2=>?_
    refine WOL.ix rfl rfl (indexAddr_tp (j:=j) u43 tp25 hj)<|WOL.sto (vs:=encF r2) rfl rfl tp25 Wd rfl rfl (by rw [eF.cat_len];omega) rfl (f.hx Xg) hc fun g5 P5=>WOL.nil fun y k=>⟨R.set j r2,⟨P5.hx _ Xg hc,by rw [P5.next];exact nx,?_,by rw [List.length_set];exact hR,fun i hi=>?_,fun i hi=>?_⟩,k.sub ⟨rfl,rfl,rfl,rfl,rfl,rfl,rfl,trivial⟩⟩
    · have:=P5.at_
      rw [Nat.zero_add,eF.set (by omega)] at this
      exact this
    · by_cases e:i=j
      · subst e
        rw [List.getD_eq_getElem?_getD,List.getElem?_set_self (by omega)]
        exact ⟨s2.ok,by omega⟩
      · rw [List.getD_eq_getElem?_getD,List.getElem?_set_ne (Ne.symm e),← List.getD_eq_getElem?_getD]
        exact hz i (by omega)
    · rw [List.getElem?_set_ne (by omega)]
      exact hr i (by omega)
  · rintro R g ⟨Xg,nx,Wd,hR,hz,hr⟩
    have lR:Lev R (rampL L a b):=⟨by rw [ramp_len];omega,fun i bb nn e1 e2=>by
      have hi:i < R.length:=(List.getElem?_eq_some_iff.1 e1).1
      have q1:=hz i (by omega)
      rw [List.getD_eq_getElem?_getD (l:=R),e1] at q1
      have q2:=ramp_get (L:=L) (a:=a) (b:=b) (i:=i) (by omega)
      rw [List.getD_eq_getElem?_getD,e2] at q2
      replace q2:nn=_:=q2
      rw [q2];exact q1⟩
    exact kto (k1249c H X K (Gl.hx Xg) (f.on Xg) (s.hx Xg) lv h2 hF hl (r8.hx Xg) ⟨R,SlL.own eF Wd hR,lR⟩ ramp_len (ben_ramp ramp_len fun i hi=>ramp_get hi)) ⟨rfl,rfl,rfl,rfl,trivial⟩
end
end Go.Tidy
namespace Go.Tidy
open Go Go.Proofs Tab
variable {tp:TProg}
theorem nil_116:pv Tryz.prog (Instr.sliceAt 102 (.slice none 0 0) none (some (.int .i64 0)) none)=some (.slice none 0 0):=by kernel_rfl
theorem tyg_nil {P:Program} {h:TH} {k:Nat} {t e:TypeId} {v:Value} (hu:P.underlying t=some (.slice e)) (y:Ty P h (k+1) t [v]):v=.slice none 0 0∨∃ b m c,v=.slice (some b) m c:=by
 unfold Ty at y;rw [hu] at y
 obtain ⟨a,m,cap,e1,h1,_,⟨rfl,rfl⟩ | ⟨b,c,el,rfl,h2,h3,h4⟩⟩:=y
 ·obtain rfl:m=0:=by omega
  exact .inl (List.cons.inj e1).1
 ·exact .inr ⟨_,_,_,(List.cons.inj e1).1⟩
theorem WOL.slU {h:TH} {K:Regs→TH→Prop} {rest:List TOper} {d:Option Tmp} {ty:TypeId} {i:Nat} {x hi:Operand} {L:Rg} {v1 v':Value} {k:Nat} (hx:getL L x=some v1) (hn:v1=.slice none 0 0∨∃ b m c,v1=.slice (some b) m c) (hk:v1=.slice none 0 0→k=0) (hh:getL L hi=some (zi (k:Nat))) (hv:sliceT Tryz.prog 102 v1 none (some (.int .i64 (k:Nat))) none h=some v') (w:∀ a,Kn (putL L d v') a→WO Tryz.prog tp rest a h K):∀ a,Kn L a→WO Tryz.prog tp (⟨d,.slice 102 x none (some hi) none,ty,none,[],i⟩::rest) a h K:=by
 rcases hn with rfl | ⟨b,m,c,rfl⟩
 ·obtain rfl:=hk rfl
  have:v'=.slice none 0 0:=Option.some.inj (hv.symm.trans (sliceT_none u116i tp5i))
  subst this
  exact WOL.slN hx hh nil_116 w
 ·exact WOL.sl2 hx hh hv w
section
variable {h:TH} {v w v1 v8:Value} {F G R B:List Nat} {es es' ee L M D S:List Int} {x y m p q:Int} {n c5 fa fb:Nat} {U:List (_root_.Fin 256)}
def spdL (U:List (_root_.Fin 256)):List Int:=U.map fun b=>1+((b.val:Nat):Int) % 22
theorem spd_lim:∀ j,j < (spdL U).length→1≤(spdL U).getD j 0∧(spdL U).getD j 0≤22:=fun j hj=>by
 have hj':j < U.length:=by unfold spdL at hj;rw [List.length_map] at hj;exact hj
 rw [List.getD_eq_getElem?_getD]
 unfold spdL
 rw [List.getElem?_map,List.getElem?_eq_getElem hj']
 show 1≤1+((U[j].val:Nat):Int) % 22∧1+((U[j].val:Nat):Int) % 22≤22
 have:=Int.emod_nonneg ((U[j].val:Nat):Int) (show (22:Int)≠0 by decide)
 have:=Int.emod_lt_of_pos ((U[j].val:Nat):Int) (show (0:Int) < 22 by decide)
 omega
theorem spd_take {j:Nat} (hj:j < U.length):(spdL U).take (j+1)=(spdL U).take j ++ [1+((U[j].val:Nat):Int) % 22]:=by
 rw [List.take_add_one]
 unfold spdL
 rw [List.getElem?_map,List.getElem?_eq_getElem hj]
 rfl
theorem byte_wrap (b:_root_.Fin 256):IntKind.i64.wrap ((b.val:Nat):Int)=((b.val:Nat):Int):=IntWalk.i64_in _ (by have:=b.isLt;omega)
theorem zw_mem {A B:List Int} {φ:Int→Int→Int} {x:Int} (h:x ∈ List.zipWith φ A B):∃ a b,a ∈ A∧b ∈ B∧x=φ a b:=by
 obtain ⟨i,hi⟩:=List.mem_iff_getElem?.1 h
 rw [List.getElem?_zipWith] at hi
 cases h1:A[i]? with
 | none=>rw [h1] at hi;cases hi
 | some a =>
  cases h2:B[i]? with
  | none=>rw [h1,h2] at hi;cases hi
  | some b=>rw [h1,h2] at hi;cases hi;exact ⟨a,b,List.mem_of_getElem? h1,List.mem_of_getElem? h2,rfl⟩
def cd1249a:TCode:=.seq (.reg r1249_11) (.seq (.seq (.reg r1249_12) (.block 0 (.loop (.seq (.reg r1249_13) (.seq (.cond (.tmp 111) .skip (.exit 0)) (.seq (.block 1 (.seq (.reg r1249_14) (.reg r1249_15))) (.reg r1249_16))))))) (.seq (.reg r1249_17) (.seq (.seq (.reg r1249_18) (.cond (.tmp 136) (.seq (.reg r1249_19) .ret) .skip)) (.seq (.reg r1249_20) (.seq (.seq (.reg r1249_21) (.cond (.tmp 152) (.seq (.reg r1249_22) .ret) .skip)) cd1249b)))))
set_option maxHeartbeats 2000000 in
set_option maxRecDepth 10000 in
theorem k1249a (H:Has tp) (X:HasX tp) (K:Awk tp) (Gl:Glob h) (f:Free0 h.next h) (A5:At h c5 (.cells [.int .i8 p,.int .i8 q] true true 104)) (s:SlL encF 1 h v F) (t:SlL encU 1 h v1 U) (ft:Fits h v1 5) (hn:v1=.slice none 0 0∨∃ b m c,v1=.slice (some b) m c) (lv:Lev F L) (h2:F.length=n+2) (hU:n≤U.length) (hF:F.length≤24) (hl:∀ j,j < L.length→-8≤L.getD j 0∧L.getD j 0≤8) (r8:RF h v8 (benL L)) :
  ∀ r,Kn [(0,v),(1,v1),(5,ptr c5),(7,zi (F.length:Nat)),(8,v8)] r→W Tryz.prog tp false cd1249a r h (Fin Tryz.prog [.tmp 6] fun v _=>v=.bool true):=by
 unfold cd1249a
 have ll:=lv.1
 have bn:=ben_len (L:=L)
 have bo:=fine_ben hl
 obtain ⟨v',hv,t'⟩:=sl_to (k:=.i64) eU u116i tp5i t ft hU
 have hk:v1=.slice none 0 0→n=0:=fun e=>by
  subst e
  obtain ⟨bo,cap,e1,_⟩:=t
  have:U.length=0:=by injection e1 with _ e2 _;exact e2.symm
  omega
 refine WL.sr<|WOL.as rfl<|WOL.nil<|keep [(0,_),(1,_),(5,_),(7,_),(8,_),(14,_)] ⟨rfl,rfl,rfl,rfl,rfl,rfl,trivial⟩ ?_
 have lU:(U.take n).length=n:=by rw [List.length_take];omega
 generalize hW:U.take n=W at *
 refine WL.seq<|WL.sr<|WOL.mv rfl<|WOL.mv rfl<|WOL.sub (m:=((F.length:Nat):Int)) (n:=2) rfl rfl (by omega) (by omega) ?_
 rw [show ((F.length:Nat):Int) - 2=(n:Nat) by omega]
 refine WOL.slU rfl hn hk rfl hv<|WOL.len rfl t' u116i<|WOL.mv rfl<|WOL.nil<|keep [(0,_),(5,_),(7,_),(8,_),(14,_),(108,_),(109,_),(110,_)] ⟨rfl,rfl,rfl,rfl,rfl,rfl,rfl,rfl,trivial⟩ ?_
 rw [lU]
 refine WL.upto (α:=Value) n (fun j u g=>HX h g∧OwnL encI h.next g u 3 ((spdL W).take j)) (fun _ u=>[(0,v),(5,ptr c5),(7,zi (F.length:Nat)),(8,v8),(14,u),(108,v'),(109,zi (n:Nat))]) (.slice none 0 0) rfl rfl (by omega) ⟨HX.refl _,.inl ⟨rfl,rfl⟩⟩ ⟨rfl,rfl,rfl,rfl,rfl,rfl,rfl,rfl,trivial⟩ (fun _ _=>rfl) (fun _ _ _=>⟨rfl,rfl,rfl,rfl,rfl,rfl,rfl,rfl,trivial⟩) (fun _ _ _=>⟨rfl,rfl,rfl,rfl,rfl,rfl,rfl,rfl,trivial⟩) ?_ ?_
 ·rintro j u g hj ⟨Xg,O⟩
  have hjW:j < W.length:=by omega
  have hq:W[j]?=some W[j]:=List.getElem?_eq_getElem _
  obtain ⟨_,_,cb,fb',wb,elb,c1,c2,c3,c4,c5'⟩:=(t'.hx Xg).at eU u116i tp5i hq .i64
  have gxb:=c5' 0 (by decide)
  rw [Nat.add_zero] at gxb
  refine WL.sr<|WOL.ix rfl rfl c1<|WOL.ld rfl (load_one tp5i c2 gxb)<|WOL.as rfl<|WOL.nil<|keep [(0,_),(5,_),(7,_),(8,_),(14,_),(16,_),(108,_),(109,_),(110,_)] ⟨rfl,rfl,rfl,rfl,rfl,rfl,rfl,rfl,rfl,trivial⟩ ?_
  have e0:=Int.emod_nonneg ((W[j].val:Nat):Int) (show (22:Int)≠0 by decide)
  have e1:=Int.emod_lt_of_pos ((W[j].val:Nat):Int) (show (0:Int) < 22 by decide)
  have xg:=Xg.next
  refine WL.reg<|WOL.mv rfl<|WOL.mv rfl<|WOL.cv u5i u3 rfl (byte_wrap W[j])<|WOL.rem (m:=((W[j].val:Nat):Int)) (n:=22) rfl rfl (by omega) (by decide)<|WOL.add (m:=1) (n:=((W[j].val:Nat):Int) % 22) rfl rfl (by omega) (by omega)<|WOL.bs1 rfl u29 tp3 rfl fun i1 M1=>?_
  have m1:=M1.next
  obtain ⟨w',i2,ap,O',x2,_⟩:=own_push (sT:=40) (x:=1+((W[j].val:Nat):Int) % 22) eI u29 tp3 (O.hx M1.hx) (SlC.own (sz:=1) (m:=1) rfl M1.at_) (f.hx (Xg.trans M1.hx)) (by rw [List.length_take];omega) (by omega)
  rw [← spd_take hjW] at O'
  exact WOL.ap rfl rfl ap<|WOL.as rfl<|WOL.nil fun y k=>⟨w',⟨x2 _ (Xg.trans M1.hx) (Nat.le_refl _),O'⟩,k.sub ⟨rfl,rfl,rfl,rfl,rfl,rfl,rfl,rfl,trivial⟩⟩
 ·rintro u g ⟨Xg,O⟩
  have lS:(spdL W).length=n:=by unfold spdL;rw [List.length_map];omega
  rw [List.take_of_length_le (by omega)] at O
  have hs:=spd_lim (U:=W)
  generalize spdL W=S at *
  have hs':∀ j,j < S.length→1≤S.getD j 0∧S.getD j 0≤100:=fun j hj=>by have:=hs j hj;omega
  have sS:=O.sl eI
  replace s:=s.hx Xg
  have ok1:∀ x,x ∈ List.zipWith feQ (benL L) S→okI x=true:=fun x hx=>by
   obtain ⟨a,b,ha,hb,rfl⟩:=zw_mem hx
   have h1:=bo a ha
   obtain ⟨i,hi⟩:=List.mem_iff_getElem?.1 hb
   have hlt:=(List.getElem?_eq_some_iff.1 hi).1
   have h2:=hs i hlt
   rw [List.getD_eq_getElem?_getD,hi] at h2
   exact okI_iff.2 (feq_lim h1 h2.1 h2.2)
  have zz:List.zipWith frQ (List.zipWith feQ (benL L) S) S=benL L:=frq_feq (by omega) (fun j hj=>(hs j hj).1)
  -- felt
  refine WL.sr<|WOL.mv rfl<|WOL.cl1 rfl rfl ((k1258 H s (by omega)).mono ?_)
  rintro u2 g2 ⟨X2,b2,m2,k2,rfl,s2,_⟩
  refine WOL.mv rfl<|WOL.cl1 rfl rfl ((k1293 H (sS.hx X2) (by omega)).mono ?_)
  rintro u3 g3 ⟨X3,b3,m3,k3,rfl,t3,_⟩
  have Z3:=X2.trans X3
  have Y3:=Xg.trans Z3
  refine WOL.cl2 rfl rfl rfl ((k1292o H X (Gl.hx Y3) (s2.hx X3) t3 lv (by omega) hF hs' ok1 (f.on Y3)).mono ?_)
  rintro u4 g4 ⟨X4,v17,rfl,A,sA,lA⟩
  have la:=lA.1
  rw [List.length_zipWith] at la
  have Z4:=Z3.trans X4
  have Y4:=Xg.trans Z4
  refine WOL.mv rfl<|WOL.ex rfl rfl<|WOL.ex rfl rfl<|WOL.as rfl<|WOL.as rfl<|WOL.nil<|keep [(0,_),(5,_),(7,_),(8,_),(14,_),(17,_),(18,_)] ⟨rfl,rfl,rfl,rfl,rfl,rfl,rfl,trivial⟩ ?_
  refine WL.seq<|WL.sr<|WOL.mv rfl<|WOL.bf rfl rfl rfl rfl<|WOL.mv rfl<|WOL.now (b:=false) rfl rfl<|WOL.mv rfl<|WOL.now (b:=false) rfl rfl<|WOL.cl1 rfl rfl ((k1261o H sA lA (by omega)).mono ?_)
  rintro u5 g5 ⟨rfl,rfl⟩
  refine WOL.now (b:=false) rfl rfl<|WOL.bf rfl rfl rfl rfl<|WOL.pkf rfl rfl<|WOL.nil<|WL.no rfl<|WL.skip<|keep [(0,_),(5,_),(7,_),(8,_),(14,_),(17,_)] ⟨rfl,rfl,rfl,rfl,rfl,rfl,trivial⟩ ?_
  -- freed
  refine WL.sr<|WOL.mv rfl<|WOL.cl1 rfl rfl ((k1258 H sA (by omega)).mono ?_)
  rintro u6 g6 ⟨X6,b6,m6,k6,rfl,s6,_⟩
  refine WOL.mv rfl<|WOL.cl1 rfl rfl ((k1293 H (sS.hx (Z4.trans X6)) (by omega)).mono ?_)
  rintro u7 g7 ⟨X7,b7,m7,k7,rfl,t7,_⟩
  have Z7:=X6.trans X7
  have Y7:=Y4.trans Z7
  refine WOL.cl2 rfl rfl rfl ((k1294o H X (s6.hx X7) t7 lA (by omega) (by omega) hs' (by rw [zz];exact fun x hx=>okI_iff.2 (by have:=bo x hx;omega)) (f.on Y7)).mono ?_)
  rintro u8 g8 ⟨X8,v19,rfl,r19⟩
  rw [zz] at r19
  have Z8:=Z4.trans (Z7.trans X8)
  have Y8:=Xg.trans Z8
  refine WOL.mv rfl<|WOL.ex rfl rfl<|WOL.ex rfl rfl<|WOL.as rfl<|WOL.as rfl<|WOL.nil<|keep [(0,_),(5,_),(7,_),(8,_),(19,_),(20,_)] ⟨rfl,rfl,rfl,rfl,rfl,rfl,trivial⟩ ?_
  refine WL.seq<|WL.sr<|WOL.mv rfl<|WOL.bf rfl rfl rfl rfl<|WOL.mv rfl<|WOL.now (b:=false) rfl rfl<|WOL.mv rfl<|WOL.now (b:=false) rfl rfl<|WOL.mv rfl<|WOL.now (b:=false) rfl rfl<|WOL.cl2 rfl rfl rfl ((k58r H r19 (r8.hx Y8) (by omega)).mono ?_)
  rintro u9 g9 ⟨rfl,rfl⟩
  refine WOL.now (b:=false) rfl rfl<|WOL.nt rfl<|WOL.pkf rfl rfl<|WOL.nil<|WL.no rfl<|WL.skip ?_
  exact kto (k1249b H X K (Gl.hx Y8) (f.on Y8) (A5.hx Y8) (s.hx Z8) lv (by omega) hF hl (r8.hx Y8)) ⟨rfl,rfl,rfl,rfl,trivial⟩
theorem sum0 (lB:Lev B D) (hB:B.length≤24):∃ es,SErr B es∧firstNZ es=0∧shB B.length=true∧∀ ee,firstNZ ee=0→sumE B.length es ee=0:=by
 obtain ⟨es,hE,z⟩:=serr_zero lB
 have hs:shB B.length=true:=by unfold shB;rw [decide_eq_true (by omega)];rfl
 refine ⟨es,hE,z,hs,fun ee he=>?_⟩
 rw [sumE_sh hs,sig0 (by omega) z,he]
 rfl
theorem k1278o (H:Has tp) (X:HasX tp) (s:SlL encF 1 h v B) (lB:Lev B D) (hB:B.length≤24) (sx:Samp fa x) (sy:Samp fb y) (ok:∀ z,z ∈ dblL x y D→okI z=true) (f:Free0 h.next h) :
  CallW Tryz.prog tp (.func (.func 44) #[] #[]) #[v,.agg #[.float .f32 fa,.float .f32 fb]] h fun u h'=>HX h h'∧∃ u',u=.tuple #[u',zi 0]∧RF h' u' (dblL x y D):=by
 obtain ⟨es,hE,z,hs,hsum⟩:=sum0 lB hB
 obtain ⟨ee,he,ze⟩:=serr_zero (lev_two sx sy)
 have:=k1278 (x:=x) (y:=y) H X s hE he (fun _=>lB) (fun _=>⟨sx,sy⟩) hs f
 rw [hsum ee ze,cE_0,cL_0,(sg_ok ok).1,(sg_ok ok).2] at this
 exact this.mono fun u h' ⟨X',R⟩=>⟨X',R.form⟩
theorem k1279o (H:Has tp) (X:HasX tp) (s:SlL encF 1 h v B) (lB:Lev B D) (hB:B.length≤24) (sx:Samp fa x) (sy:Samp fb y) (ok:∀ z,z ∈ (dblL y x D.reverse).reverse→okI z=true) (f:Free0 h.next h) :
  CallW Tryz.prog tp (.func (.func 45) #[] #[]) #[v,.agg #[.float .f32 fa,.float .f32 fb]] h fun u h'=>HX h h'∧∃ u',u=.tuple #[u',zi 0]∧RF h' u' (dblL y x D.reverse).reverse:=by
 obtain ⟨es,hE,z,hs,hsum⟩:=sum0 lB hB
 obtain ⟨ee,he,ze⟩:=serr_zero (lev_two sx sy)
 have:=k1279 (x:=x) (y:=y) H X s hE he (fun _=>lB) (fun _=>⟨sx,sy⟩) hs f
 rw [hsum ee ze,cE_0,cL_0,(sg_ok ok).1,(sg_ok ok).2] at this
 exact this.mono fun u h' ⟨X',R⟩=>⟨X',R.form⟩
end
end Go.Tidy
namespace Go.Tidy
open Go Go.Proofs Tab
variable {tp:TProg}
theorem half_x:Sx 1056964608 8:=by
 have h:=(smp_ok (n:=8) (by decide)).2.2.x
 have e:smp 8=1056964608:=by kernel_rfl
 rwa [e] at h
theorem halfm_x:Sx 3204448256 (-8):=by
 have h:=(smp_ok (n:=-8) (by decide)).2.2.x
 have e:smp (-8)=3204448256:=by kernel_rfl
 rwa [e] at h
theorem half_n:pv Tryz.prog (Op.unary .neg (.float .f32 1056964608))=some (.float .f32 3204448256):=by kernel_rfl
section
variable {h:TH} {v w v1 v8:Value} {F G R B:List Nat} {es es' ee L M D S:List Int} {x y m p q:Int} {n c5 fa fb:Nat} {U:List (_root_.Fin 256)}
def cd1249z:TCode:=.seq (.reg r1249_7) (.seq (.reg r1249_8) (.seq (.seq (.reg r1249_9) (.cond (.tmp 104) (.seq (.reg r1249_10) .ret) .skip)) cd1249a))
set_option maxHeartbeats 2000000 in
set_option maxRecDepth 10000 in
theorem k1249z (H:Has tp) (X:HasX tp) (K:Awk tp) (Gl:Glob h) (f:Free0 h.next h) (A5:At h c5 (.cells [.int .i8 p,.int .i8 q] true true 104)) (s:SlL encF 1 h v F) (fF:Fits h v 22) (t:SlL encU 1 h v1 U) (ft:Fits h v1 5) (hn:v1=.slice none 0 0∨∃ b m c,v1=.slice (some b) m c) (lv:Lev F L) (h2:F.length=n+2) (hU:n≤U.length) (hF:F.length≤24) (hl:∀ j,j < L.length→-8≤L.getD j 0∧L.getD j 0≤8) (r8:RF h v8 (benL L)) :
  ∀ r,Kn [(0,v),(1,v1),(5,ptr c5),(7,zi (F.length:Nat)),(8,v8)] r→W Tryz.prog tp false cd1249z r h (Fin Tryz.prog [.tmp 6] fun v _=>v=.bool true):=by
 unfold cd1249z
 have ll:=lv.1
 have bn:=ben_len (L:=L)
 obtain ⟨B,sB,lB⟩:=r8
 have lb:=lB.1
 have smp_at:∀ j,j < F.length→Samp (F.getD j 0) (L.getD j 0):=fun j hj=>lv.2 j _ _ (by rw [List.getD_eq_getElem?_getD,List.getElem?_eq_getElem hj];rfl) (at_getD (by omega))
 have okL:∀ x,x ∈ L→okI x=true:=fun x hx=>okI_iff.2 (by have:=lev_limI lv x hx;omega)
 have e1:dblL (L.getD 0 0) (L.getD 1 0) (benL L)=L:=dbl_ben (by omega)
 have e2:(dblL (L.getD (n+1) 0) (L.getD n 0) (benL L).reverse).reverse=L:=udbl_ben (by omega)
 obtain ⟨b,off,cap,cc,fix,wr,el,rfl,hc,gA,g2,g3⟩:=sl_ad s (by omega)
 obtain ⟨cc',fix',wr',el',gF,hf⟩:=fF b off F.length cap rfl
 -- doubled
 refine WL.sr<|WOL.mv rfl<|WOL.mv rfl<|WOL.slG rfl rfl rfl rfl (sliceT_to (k:=.i64) (hi:=2) u43 tp25 hc (by omega) gF hf)<|WOL.s2a rfl u1294a (by decide) (by decide)<|WOL.ld rfl (load_row tp1294 gA (two_at (off:=off) (j:=0) (by omega) g2 (by omega)) (by omega))<|WOL.lk1 rfl rfl fun ml=>((k1258 H (sB.relock ml) (by omega)).mono ?_)
 rintro u g5 ⟨X5,b5,m5,k5,rfl,s5,_⟩
 replace X5:=X5.relock
 replace s5:=s5.relock h.lock
 generalize g5.withLock h.lock=g5 at *
 refine WOL.cl2 rfl rfl rfl ((k1278o H X s5 lB (by omega) (smp_at 0 (by omega)) (smp_at 1 (by omega)) (by rw [e1];exact okL) (f.on X5)).mono ?_)
 rintro u g6 ⟨X6,v10,rfl,r10⟩
 rw [e1] at r10
 have Y6:=X5.trans X6
 have gA6:=gA.hx Y6
 have gF6:=gF.hx Y6
 have sB6:=sB.hx Y6
 refine WOL.mv rfl<|WOL.ex rfl rfl<|WOL.ex rfl rfl<|WOL.as rfl<|WOL.as rfl<|WOL.nil<|keep [(0,_),(1,_),(5,_),(7,_),(8,_),(10,_),(11,_)] ⟨rfl,rfl,rfl,rfl,rfl,rfl,rfl,trivial⟩ ?_
 -- undoubled
 refine WL.sr<|WOL.mv rfl<|WOL.mv rfl<|WOL.mv rfl<|WOL.sub (m:=((F.length:Nat):Int)) (n:=2) rfl rfl (by omega) (by omega) ?_
 rw [show ((F.length:Nat):Int) - 2=(n:Nat) by omega]
 refine WOL.slG rfl rfl rfl rfl (sliceT_from (k:=.i64) (lo:=n) u43 tp25 hc (by omega) gF6 hf)<|WOL.s2a rfl u1294a (by omega) (by decide)<|WOL.ld rfl (load_row (l:=[.float .f32 (F.getD n 0),.float .f32 (F.getD (n+1) 0)]) tp1294 gA6 (by rw [Nat.mul_one];exact two_at (off:=off) (j:=n) (by omega) g2 (by omega)) (by omega))<|WOL.lk1 rfl rfl fun ml=>((k1258 H (sB6.relock ml) (by omega)).mono ?_)
 rintro u g7 ⟨X7,b7,m7,k7,rfl,s7,_⟩
 replace X7:=X7.relock
 replace s7:=s7.relock g6.lock
 generalize g7.withLock g6.lock=g7 at *
 have Y7:=Y6.trans X7
 refine WOL.cl2 rfl rfl rfl ((k1279o H X s7 lB (by omega) (smp_at n (by omega)) (smp_at (n+1) (by omega)) (by rw [e2];exact okL) (f.on Y7)).mono ?_)
 rintro u g8 ⟨X8,v12,rfl,r12⟩
 rw [e2] at r12
 have Y8:=Y7.trans X8
 have s8:=s.hx Y8
 refine WOL.mv rfl<|WOL.ex rfl rfl<|WOL.ex rfl rfl<|WOL.as rfl<|WOL.as rfl<|WOL.nil<|keep [(0,_),(1,_),(5,_),(7,_),(8,_),(10,_),(11,_),(12,_),(13,_)] ⟨rfl,rfl,rfl,rfl,rfl,rfl,rfl,rfl,rfl,trivial⟩ ?_
 refine WL.seq<|WL.sr<|WOL.mv rfl<|WOL.mv rfl<|WOL.add (m:=0) (n:=0) rfl rfl (by decide) (by decide)<|WOL.bf rfl rfl rfl rfl<|WOL.mv rfl<|WOL.now (b:=false) rfl rfl<|WOL.mv rfl<|WOL.now (b:=false) rfl rfl<|WOL.mv rfl<|WOL.now (b:=false) rfl rfl<|WOL.cl2 rfl rfl rfl ((k58r H (r10.hx (X7.trans X8)) ⟨F,s8,lv⟩ (by omega)).mono ?_)
 rintro u g9 ⟨rfl,rfl⟩
 refine WOL.now (b:=false) rfl rfl<|WOL.nt rfl<|WOL.pkf rfl rfl<|WOL.mv rfl<|WOL.now (b:=false) rfl rfl<|WOL.mv rfl<|WOL.now (b:=false) rfl rfl<|WOL.mv rfl<|WOL.now (b:=false) rfl rfl<|WOL.cl2 rfl rfl rfl ((k58r H r12 ⟨F,s8,lv⟩ (by omega)).mono ?_)
 rintro u g10 ⟨rfl,rfl⟩
 refine WOL.now (b:=false) rfl rfl<|WOL.nt rfl<|WOL.pkf rfl rfl<|WOL.nil<|WL.no rfl<|WL.skip ?_
 exact kto (k1249a H X K (Gl.hx Y8) (f.on Y8) (A5.hx Y8) s8 (t.hx Y8) (ft.hx Y8) hn lv h2 hU hF hl ⟨B,sB.hx Y8,lB⟩) ⟨rfl,rfl,rfl,rfl,rfl,trivial⟩
set_option maxHeartbeats 8000000 in
set_option maxRecDepth 10000 in
theorem k1249 (H:Has tp) (X:HasX tp) (K:Awk tp) (Gl:Glob h) (s:SlL encF 1 h v F) (fF:Fits h v 22) (t:SlL encU 1 h v1 U) (ft:Fits h v1 5) (hn:v1=.slice none 0 0∨∃ b m c,v1=.slice (some b) m c) (f:Free0 h.next h):CallW Tryz.prog tp (.func (.func 10) #[] #[]) #[v,v1,.agg #[.int .i8 p,.int .i8 q]] h fun v _=>v=.bool true:=by
 obtain ⟨es,L,hE,hL⟩:=lev_some F
 refine CallW.fnL (H.fn 10 f1249 rfl rfl) ?_
 refine WL.sr<|WOL.box rfl fun h1 N1=>WOL.as rfl<|WOL.nil<|keep [(0,_),(1,_),(5,_)] ⟨rfl,rfl,rfl,trivial⟩ ?_
 have n1:=N1.next
 have X1:=N1.hx
 have A5:At h1 h.next (.cells [.int .i8 p,.int .i8 q] true true 104):=N1.at_
 replace s:=s.hx X1
 replace t:=t.hx X1
 replace fF:=fF.hx X1
 replace ft:=ft.hx X1
 replace Gl:=Gl.hx X1
 have f1:=f.on X1
 refine WL.seq<|WL.sr<|WOL.mv rfl<|WOL.cl2 rfl rfl rfl ((k1307 H s hE hL half_x halfm_x half_n).mono ?_)
 rintro u g ⟨rfl,bb,rfl,hfine⟩
 cases bb with
 | false =>
  refine WOL.nt rfl<|WOL.mv rfl<|WOL.skp (b:=true) rfl rfl<|WOL.skp (b:=true) rfl rfl<|WOL.skp (b:=true) rfl rfl<|WOL.skp (b:=true) rfl rfl<|WOL.skp (b:=true) rfl rfl<|WOL.skp (b:=true) rfl rfl<|WOL.pkt rfl rfl<|WOL.nil<|WL.yes rfl<|WL.sr<|WOL.cl0 rfl ((k11t K _).mono ?_)
  rintro v h4 ⟨rfl,rfl⟩
  exact WOL.as rfl<|WOL.nil<|WL.ret (WL.end_ rfl rfl)
 | true =>
 obtain ⟨⟨q1,q2⟩,q3,q4⟩:=hfine rfl
 obtain ⟨n,q5⟩:∃ n,F.length=n+2:=⟨F.length - 2,by omega⟩
 refine WOL.nt rfl<|WOL.mv rfl<|WOL.now (b:=false) rfl rfl<|WOL.mv rfl<|WOL.now (b:=false) rfl rfl<|WOL.len rfl t u116i<|WOL.now (b:=false) rfl rfl<|WOL.mv rfl<|WOL.now (b:=false) rfl rfl<|WOL.len rfl s u43<|WOL.now (b:=false) rfl rfl<|WOL.sub (m:=((F.length:Nat):Int)) (n:=2) rfl rfl (by omega) (by omega) ?_
 by_cases cU:((U.length:Nat):Int) < ((F.length:Nat):Int) - 2
 ·refine WOL.now (b:=false) rfl rfl<|WOL.bt rfl rfl rfl (decide_eq_true cU)<|WOL.pkf rfl rfl<|WOL.nil<|WL.yes rfl<|WL.sr<|WOL.cl0 rfl ((k11t K _).mono ?_)
  rintro v h4 ⟨rfl,rfl⟩
  exact WOL.as rfl<|WOL.nil<|WL.ret (WL.end_ rfl rfl)
 refine WOL.now (b:=false) rfl rfl<|WOL.bf rfl rfl rfl (decide_eq_false cU)<|WOL.pkf rfl rfl<|WOL.nil<|WL.no rfl<|WL.skip<|keep [(0,_),(1,_),(5,_)] ⟨rfl,rfl,rfl,trivial⟩ ?_
 have lv:=hL (sigE_short q3).2
 have ll:=lv.1
 have hl:∀ j,j < L.length→-8≤L.getD j 0∧L.getD j 0≤8:=fun j hj=>q4 j (by omega)
 have bo:=fine_ben hl
 have ok1:∀ x,x ∈ benL L→okI x=true:=fun x hx=>okI_iff.2 (by have:=bo x hx;omega)
 have bn:=ben_len (L:=L)
 refine WL.sr<|WOL.mv rfl<|WOL.len rfl s u43<|WOL.as rfl<|WOL.nil<|keep [(0,_),(1,_),(5,_),(7,_)] ⟨rfl,rfl,rfl,rfl,trivial⟩ ?_
 refine WL.sr<|WOL.mv rfl<|WOL.cl1 rfl rfl ((k1258 H s (by omega)).mono ?_)
 rintro u g2 ⟨X2,b2,m2,k2,rfl,s2,_⟩
 refine WOL.cl1 rfl rfl ((k1277o H X (Gl.hx X2) s2 lv (by omega) (by omega) ok1 (f1.on X2)).mono ?_)
 rintro u g4 ⟨X4,v8,rfl,B,sB,lB⟩
 have lb:=lB.1
 have Y4:=X2.trans X4
 refine WOL.mv rfl<|WOL.ex rfl rfl<|WOL.ex rfl rfl<|WOL.as rfl<|WOL.as rfl<|WOL.nil<|keep [(0,_),(1,_),(5,_),(7,_),(8,_),(9,_)] ⟨rfl,rfl,rfl,rfl,rfl,rfl,trivial⟩ ?_
 refine WL.seq<|WL.sr<|WOL.mv rfl<|WOL.bf rfl rfl rfl rfl<|WOL.mv rfl<|WOL.now (b:=false) rfl rfl<|WOL.mv rfl<|WOL.now (b:=false) rfl rfl<|WOL.len rfl sB u43<|WOL.now (b:=false) rfl rfl<|WOL.mv rfl<|WOL.now (b:=false) rfl rfl<|WOL.sub (m:=((F.length:Nat):Int)) (n:=2) rfl rfl (by omega) (by omega)<|WOL.now (b:=false) rfl rfl<|WOL.bf rfl rfl rfl (bne_eq_false_iff_eq.2 (show ((B.length:Nat):Int)=((F.length:Nat):Int) - 2 by omega))<|WOL.pkf rfl rfl<|WOL.mv rfl<|WOL.now (b:=false) rfl rfl<|WOL.mv rfl<|WOL.now (b:=false) rfl rfl<|WOL.cl1 rfl rfl ((k1261o H sB lB (by omega)).mono ?_)
 rintro u g5 ⟨rfl,rfl⟩
 refine WOL.now (b:=false) rfl rfl<|WOL.bf rfl rfl rfl rfl<|WOL.pkf rfl rfl<|WOL.nil<|WL.no rfl<|WL.skip ?_
 exact kto (k1249z H X K (Gl.hx Y4) (f1.on Y4) (A5.hx Y4) (s.hx Y4) (fF.hx Y4) (t.hx Y4) (ft.hx Y4) hn lv q5 (by omega) q2 hl ⟨B,sB,lB⟩) ⟨rfl,rfl,rfl,rfl,rfl,trivial⟩
end
theorem val_bts {v:Value}:valOf Tryz.prog 102 [v]=v:=by unfold valOf;rw [Tryz.underlying102];rfl
set_option maxRecDepth 100000 in
theorem law1249:LawG tpE 10 5 [25,102,104]:=by
 intro h us f Gl ha
 obtain ⟨x0,x1,x2,rfl,⟨p0,y0,e0⟩,⟨p1,y1,e1⟩,⟨p2,y2,e2⟩⟩:=args3 ha
 have q2:=tyg_array Tryz.underlying104 y2
 rw [val_agg (.inr ⟨_,_,Tryz.underlying104⟩)] at e2
 obtain ⟨w0,F,rfl,s,fs⟩:=tyg_slice eF u43 (fun p y=>by obtain ⟨b,e,_⟩:=ty_float y;exact ⟨b,e⟩) y0
 obtain ⟨w1,U,rfl,t,ft⟩:=tyg_slice eU u116i (fun p y=>by obtain ⟨b,e,hw⟩:=tyg_int u5i y;obtain ⟨c,rfl⟩:=u8_fin hw;exact ⟨c,e⟩) y1
 have hn:=tyg_nil u116i y1
 rw [val_fls] at e0
 rw [val_bts] at e1
 obtain ⟨c0,d0,rfl,_,t0,c1,d1,rfl,_,t1,rfl⟩:=q2
 obtain ⟨a,rfl,_⟩:=tyg_int u91 t0
 obtain ⟨b,rfl,_⟩:=tyg_int u91 t1
 subst e0 e1 e2
 exact k1249 hasE hasXE awkE Gl s (fs _) t (ft _) hn f
end Go.Tidy
