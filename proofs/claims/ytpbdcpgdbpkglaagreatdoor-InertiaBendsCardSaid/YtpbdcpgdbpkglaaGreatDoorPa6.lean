/- A part of the proof. -/
import Derived.Test.YtpbdcpgdbpkglaaGreatDoorPa5
set_option linter.all false
namespace Go.Tidy
open Go Go.Proofs Tab
variable {tp:TProg}
section
variable {h:TH} {v w v7 v9 v11 v13 v19 v20 v21 v22:Value} {F G:List Nat} {es es' ee L M D1 D2 D3 D4:List Int} {x y e1 e2 e3 e4 S1 S2 E4:Int} {c5 fa fb:Nat}
theorem fNZ_2 {a b:Int}:firstNZ [a,b]=if a≠0 then a else b:=by
 show cond (a != 0) a (cond (b != 0) b 0)=_
 by_cases ha:a=0
 ·subst ha
  rw [if_neg (by decide)]
  by_cases hb:b=0
  ·subst hb;rfl
  ·rw [bne_iff_ne.2 hb];rfl
 ·rw [if_pos ha,bne_iff_ne.2 ha];rfl
theorem fNZ_30 {a b:Int}:firstNZ [a,b,0]=firstNZ [a,b]:=by
 show cond (a != 0) a (cond (b != 0) b 0)=cond (a != 0) a (cond (b != 0) b 0)
 rfl
theorem sumE_sh (hF:shB F.length=true):sumE F.length es ee=firstNZ [sigE F.length es,firstNZ ee]:=by
 unfold sumE
 by_cases h0:sigE F.length es=0
 ·have:=sh24 hF (sigE_short h0).1
  rw [show decide ((F.length:Int)+2 > 4096)=false from decide_eq_false (by omega),Bool.cond_false,fNZ_30]
 ·show cond (sigE F.length es != 0) _ _=cond (sigE F.length es != 0) _ _
  rw [bne_iff_ne.2 h0];rfl
def cd1245d:TCode:=.seq (.reg r1245_18) .ret
set_option maxHeartbeats 2000000 in
theorem k1245d (H:Has tp) (K:Awk tp) (r7:RF h v7 D1) (r19:RF h v19 D1) (r9:RF h v9 D2) (r20:RF h v20 D2) (r11:RF h v11 D3) (r21:RF h v21 D3) (r13:RF h v13 D4) (r22:RF h v22 D4) (l1:D1.length≤1000000) (l2:D2.length≤1000000) (l3:D3.length≤1000000) (l4:D4.length≤1000000) :
  ∀ r,Kn [(7,v7),(8,zi e1),(9,v9),(10,zi e2),(11,v11),(12,zi e3),(13,v13),(14,zi e4),(15,zi e1),(16,zi e4),(17,zi e2),(18,zi e3),(19,v19),(20,v20),(21,v21),(22,v22)] r→W Tryz.prog tp false cd1245d r h (Fin Tryz.prog [.tmp 6] fun v _=>v=.bool true):=by
 unfold cd1245d
 refine WL.sr<|WOL.mv rfl<|WOL.mv rfl<|WOL.cl2 rfl rfl rfl ((k58r H r7 r19 l1).mono ?_)
 rintro u g1 ⟨rfl,rfl⟩
 refine WOL.mv rfl<|WOL.now (b:=true) rfl rfl<|WOL.mv rfl<|WOL.now (b:=true) rfl rfl<|WOL.mv rfl<|WOL.now (b:=true) rfl rfl<|WOL.bt rfl rfl rfl (beq_self_eq_true _)<|WOL.pkt rfl rfl<|WOL.mv rfl<|WOL.now (b:=true) rfl rfl<|WOL.mv rfl<|WOL.now (b:=true) rfl rfl<|WOL.mv rfl<|WOL.now (b:=true) rfl rfl<|WOL.cl2 rfl rfl rfl ((k58r H r9 r20 l2).mono ?_)
 rintro u g2 ⟨rfl,rfl⟩
 refine WOL.pkt rfl rfl<|WOL.mv rfl<|WOL.now (b:=true) rfl rfl<|WOL.mv rfl<|WOL.now (b:=true) rfl rfl<|WOL.mv rfl<|WOL.now (b:=true) rfl rfl<|WOL.bt rfl rfl rfl (beq_self_eq_true _)<|WOL.pkt rfl rfl<|WOL.mv rfl<|WOL.now (b:=true) rfl rfl<|WOL.mv rfl<|WOL.now (b:=true) rfl rfl<|WOL.mv rfl<|WOL.now (b:=true) rfl rfl<|WOL.cl2 rfl rfl rfl ((k58r H r11 r21 l3).mono ?_)
 rintro u g3 ⟨rfl,rfl⟩
 refine WOL.pkt rfl rfl<|WOL.mv rfl<|WOL.now (b:=true) rfl rfl<|WOL.mv rfl<|WOL.now (b:=true) rfl rfl<|WOL.mv rfl<|WOL.now (b:=true) rfl rfl<|WOL.bt rfl rfl rfl (beq_self_eq_true _)<|WOL.pkt rfl rfl<|WOL.mv rfl<|WOL.now (b:=true) rfl rfl<|WOL.mv rfl<|WOL.now (b:=true) rfl rfl<|WOL.mv rfl<|WOL.now (b:=true) rfl rfl<|WOL.cl2 rfl rfl rfl ((k58r H r13 r22 l4).mono ?_)
 rintro u g4 ⟨rfl,rfl⟩
 refine WOL.pkt rfl rfl<|WOL.mv rfl<|WOL.now (b:=true) rfl rfl<|WOL.mv rfl<|WOL.now (b:=true) rfl rfl<|WOL.mv rfl<|WOL.now (b:=true) rfl rfl<|WOL.bt rfl rfl rfl (beq_self_eq_true _)<|WOL.pkt rfl rfl<|WOL.mv rfl<|WOL.now (b:=true) rfl rfl<|WOL.cl0 rfl ((k11t K _).mono ?_)
 rintro u g5 ⟨rfl,rfl⟩
 exact WOL.pkt rfl rfl<|WOL.as rfl<|WOL.nil<|WL.ret (WL.end_ rfl rfl)
def cd1245c:TCode:=.seq (.seq (.reg r1245_16) (.cond (.tmp 93) (.reg r1245_17) .skip)) cd1245d
set_option maxHeartbeats 2000000 in
theorem k1245c (H:Has tp) (K:Awk tp) (f:Free0 h.next h) (s:SlL encF 1 h v F) (t:SlL encF 1 h w G) (hL:firstNZ es=0→Lev F L) (hM:firstNZ es'=0→Lev G M) (hE4:E4=pairE F.length G.length es es') (r7:RF h v7 D1) (r19:RF h v19 D1) (r9:RF h v9 D2) (r20:RF h v20 D2) (r11:RF h v11 D3) (r21:RF h v21 D3) (r13:RF h v13 (gaO E4 (List.zipWith hlf L M))) (l1:D1.length≤1000000) (l2:D2.length≤1000000) (l3:D3.length≤1000000) :
  ∀ r,Kn [(0,v),(1,w),(7,v7),(8,zi e1),(9,v9),(10,zi e2),(11,v11),(12,zi e3),(13,v13),(14,zi E4),(15,zi e1),(16,zi E4),(17,zi e2),(18,zi e3),(19,v19),(20,v20),(21,v21),(22,.slice none 0 0)] r→W Tryz.prog tp false cd1245c r h (Fin Tryz.prog [.tmp 6] fun v _=>v=.bool true):=by
 unfold cd1245c
 by_cases e0:E4=0
 ·subst e0
  obtain ⟨⟨q1,z1⟩,z2,q2⟩:=pair_ok hE4.symm
  have lv:=hL z1
  have lw:=hM z2
  have ll:=lv.1
  rw [show gaO 0 (List.zipWith hlf L M)=List.zipWith hlf L M from rfl] at r13
  refine WL.seq<|WL.sr<|WOL.mv rfl<|WOL.bt rfl rfl rfl rfl<|WOL.nil<|WL.yes rfl<|WL.reg<|WOL.mv rfl<|WOL.mv rfl<|WOL.cl2 rfl rfl rfl ((k1284 H s t lv lw (by omega) q2 f).mono ?_)
  rintro u g ⟨X,r22⟩
  have lz:(List.zipWith hlf L M).length≤1000000:=by rw [List.length_zipWith];omega
  exact WOL.as rfl<|WOL.nil<|kto (k1245d H K (r7.hx X) (r19.hx X) (r9.hx X) (r20.hx X) (r11.hx X) (r21.hx X) (r13.hx X) r22 l1 l2 l3 lz) ⟨rfl,rfl,rfl,rfl,rfl,rfl,rfl,rfl,rfl,rfl,rfl,rfl,rfl,rfl,rfl,rfl,trivial⟩
 ·rw [show gaO E4 (List.zipWith hlf L M)=[] from if_pos e0] at r13
  refine WL.seq<|WL.sr<|WOL.mv rfl<|WOL.bf rfl rfl rfl (beq_eq_false_iff_ne.2 e0)<|WOL.nil<|WL.no rfl<|WL.skip ?_
  exact kto (k1245d H K r7 r19 r9 r20 r11 r21 r13 RF.nil l1 l2 l3 (by decide)) ⟨rfl,rfl,rfl,rfl,rfl,rfl,rfl,rfl,rfl,rfl,rfl,rfl,rfl,rfl,rfl,rfl,trivial⟩
def cd1245b:TCode:=.seq (.seq (.reg r1245_14) (.cond (.tmp 86) (.reg r1245_15) .skip)) cd1245c
set_option maxHeartbeats 2000000 in
theorem k1245b (H:Has tp) (K:Awk tp) (f:Free0 h.next h) (s:SlL encF 1 h v F) (t:SlL encF 1 h w G) (hL:firstNZ es=0→Lev F L) (hM:firstNZ es'=0→Lev G M) (hS1:S1=sigE F.length es) (hE4:E4=pairE F.length G.length es es') (r7:RF h v7 (cL (lineE F.length es) (benL L))) (r9:RF h v9 D2) (r20:RF h v20 D2) (r11:RF h v11 D3) (r21:RF h v21 D3) (r13:RF h v13 (gaO E4 (List.zipWith hlf L M))) (l2:D2.length≤1000000) (l3:D3.length≤1000000) :
  ∀ r,Kn [(0,v),(1,w),(7,v7),(8,zi (cE (lineE F.length es) (benL L))),(9,v9),(10,zi e2),(11,v11),(12,zi e3),(13,v13),(14,zi E4),(15,zi S1),(16,zi E4),(17,zi e2),(18,zi e3),(19,.slice none 0 0),(20,v20),(21,v21),(22,.slice none 0 0)] r→W Tryz.prog tp false cd1245b r h (Fin Tryz.prog [.tmp 6] fun v _=>v=.bool true):=by
 unfold cd1245b
 have e12:lineE F.length es=if S1≠0 then S1 else cond (decide ((F.length:Int) < 2)) 16 0:=by unfold lineE;rw [fNZ_2,hS1]
 by_cases e0:S1=0
 ·subst e0
  obtain ⟨q1,z1⟩:=sigE_short hS1.symm
  have lv:=hL z1
  have ll:=lv.1
  rw [if_neg (by decide)] at e12
  rw [e12] at r7 ⊢
  refine WL.seq<|WL.sr<|WOL.mv rfl<|WOL.bt rfl rfl rfl rfl<|WOL.nil<|WL.yes rfl<|WL.reg<|WOL.mv rfl<|WOL.cl1 rfl rfl ((k1283 H s lv (by omega) f).mono ?_)
  rintro u g ⟨X,R⟩
  obtain ⟨u',rfl,r19⟩:=R.form
  have lz:(cL (cond (decide ((F.length:Int) < 2)) 16 0) (benL L)).length≤1000000:=by
   unfold cL
   by_cases c:cond (decide ((F.length:Int) < 2)) (16:Int) 0≠0
   ·rw [if_pos c];decide
   ·rw [if_neg c];exact Nat.le_trans sgL_len (by rw [ben_len];omega)
  exact WOL.mv rfl<|WOL.ex rfl rfl<|WOL.ex rfl rfl<|WOL.as rfl<|WOL.as rfl<|WOL.nil<|kto (k1245c H K (f.on X) (s.hx X) (t.hx X) hL hM hE4 (r7.hx X) r19 (r9.hx X) (r20.hx X) (r11.hx X) (r21.hx X) (r13.hx X) lz l2 l3) ⟨rfl,rfl,rfl,rfl,rfl,rfl,rfl,rfl,rfl,rfl,rfl,rfl,rfl,rfl,rfl,rfl,rfl,rfl,trivial⟩
 ·rw [if_pos e0] at e12
  rw [e12] at r7 ⊢
  rw [cE_no e0]
  rw [cL_no e0] at r7
  refine WL.seq<|WL.sr<|WOL.mv rfl<|WOL.bf rfl rfl rfl (beq_eq_false_iff_ne.2 e0)<|WOL.nil<|WL.no rfl<|WL.skip ?_
  exact kto (k1245c H K f s t hL hM hE4 r7 RF.nil r9 r20 r11 r21 r13 (by decide) l2 l3) ⟨rfl,rfl,rfl,rfl,rfl,rfl,rfl,rfl,rfl,rfl,rfl,rfl,rfl,rfl,rfl,rfl,rfl,rfl,trivial⟩
def cd1245a:TCode:=.seq (.seq (.reg r1245_11) (.cond (.tmp 72) (.seq (.reg r1245_12) (.reg r1245_13)) .skip)) cd1245b
set_option maxHeartbeats 2000000 in
theorem k1245a (H:Has tp) (K:Awk tp) (f:Free0 h.next h) (A5:At h c5 (.cells [.float .f32 fa,.float .f32 fb] true true 69)) (s:SlL encF 1 h v F) (t:SlL encF 1 h w G) (hF:shB F.length=true) (hL:firstNZ es=0→Lev F L) (hM:firstNZ es'=0→Lev G M) (hx:firstNZ ee=0→Samp fa x∧Samp fb y) (hS1:S1=sigE F.length es) (hS2:S2=firstNZ [sigE F.length es,firstNZ ee]) (hE4:E4=pairE F.length G.length es es') (r7:RF h v7 (cL (lineE F.length es) (benL L))) (r9:RF h v9 (cL S2 (dblL x y L))) (r11:RF h v11 (cL S2 (dblL y x L.reverse).reverse)) (r13:RF h v13 (gaO E4 (List.zipWith hlf L M))) :
  ∀ r,Kn [(0,v),(1,w),(5,ptr c5),(7,v7),(8,zi (cE (lineE F.length es) (benL L))),(9,v9),(10,zi (cE S2 (dblL x y L))),(11,v11),(12,zi (cE S2 (dblL y x L.reverse).reverse)),(13,v13),(14,zi E4),(15,zi S1),(16,zi E4),(17,zi S2),(18,zi S2),(19,.slice none 0 0),(20,.slice none 0 0),(21,.slice none 0 0),(22,.slice none 0 0)] r→W Tryz.prog tp false cd1245a r h (Fin Tryz.prog [.tmp 6] fun v _=>v=.bool true):=by
 unfold cd1245a
 by_cases e0:S2=0
 ·subst e0
  have q:=firstNZ_zero hS2.symm
  obtain ⟨q1,z1⟩:=sigE_short (q (sigE F.length es) (by simp))
  have z2:=q (firstNZ ee) (by simp)
  obtain ⟨sx,sy⟩:=hx z2
  have lv:=hL z1
  have ll:=lv.1
  have l24:=sh24 hF q1
  have ld:(dblL x y L).length=L.length+2:=dbl_len
  have ld':(dblL y x L.reverse).reverse.length=L.length+2:=by rw [List.length_reverse,dbl_len,List.length_reverse]
  rw [cE_0,cE_0]
  rw [cL_0] at r9 r11
  refine WL.seq<|WL.sr<|WOL.mv rfl<|WOL.bt rfl rfl rfl rfl<|WOL.nil<|WL.yes rfl<|WL.sr<|WOL.mv rfl<|WOL.ld rfl (load_row tp1294 A5 rfl (Nat.le_of_ble_eq_true rfl))<|WOL.cl2 rfl rfl rfl ((k1281 (fa:=fa) (fb:=fb) H s lv sx sy l24 f).mono ?_)
  rintro u g ⟨X,R⟩
  obtain ⟨u',rfl,r20⟩:=R.form
  refine WOL.mv rfl<|WOL.ex rfl rfl<|WOL.ex rfl rfl<|WOL.as rfl<|WOL.as rfl<|WOL.nil<|keep [(0,_),(1,_),(5,_),(7,_),(8,_),(9,_),(10,_),(11,_),(12,_),(13,_),(14,_),(15,_),(16,_),(17,_),(18,_),(19,_),(20,_),(21,_),(22,_)] ⟨rfl,rfl,rfl,rfl,rfl,rfl,rfl,rfl,rfl,rfl,rfl,rfl,rfl,rfl,rfl,rfl,rfl,rfl,rfl,trivial⟩ ?_
  refine WL.reg<|WOL.mv rfl<|WOL.ld rfl (load_row tp1294 (A5.hx X) rfl (Nat.le_of_ble_eq_true rfl))<|WOL.cl2 rfl rfl rfl ((k1282 (fa:=fa) (fb:=fb) H (s.hx X) lv sx sy l24 (f.on X)).mono ?_)
  rintro u g2 ⟨X2,R2⟩
  obtain ⟨u2,rfl,r21⟩:=R2.form
  have Y:=X.trans X2
  exact WOL.mv rfl<|WOL.ex rfl rfl<|WOL.ex rfl rfl<|WOL.as rfl<|WOL.as rfl<|WOL.nil<|kto (k1245b H K (f.on Y) (s.hx Y) (t.hx Y) hL hM hS1 hE4 (r7.hx Y) (r9.hx Y) (r20.hx X2) (r11.hx Y) r21 (r13.hx Y) (Nat.le_trans sgL_len (by omega)) (Nat.le_trans sgL_len (by omega))) ⟨rfl,rfl,rfl,rfl,rfl,rfl,rfl,rfl,rfl,rfl,rfl,rfl,rfl,rfl,rfl,rfl,rfl,rfl,trivial⟩
 ·rw [cE_no e0,cE_no e0]
  rw [cL_no e0] at r9 r11
  refine WL.seq<|WL.sr<|WOL.mv rfl<|WOL.bf rfl rfl rfl (beq_eq_false_iff_ne.2 e0)<|WOL.nil<|WL.no rfl<|WL.skip ?_
  exact kto (k1245b H K f s t hL hM hS1 hE4 r7 r9 RF.nil r11 RF.nil r13 (by decide) (by decide)) ⟨rfl,rfl,rfl,rfl,rfl,rfl,rfl,rfl,rfl,rfl,rfl,rfl,rfl,rfl,rfl,rfl,rfl,rfl,trivial⟩
theorem samp_two {X:List Int} (h:Lev [fa,fb] X):Samp fa (X.getD 0 0)∧Samp fb (X.getD 1 0):=by
 have l:=h.1
 exact ⟨h.2 0 _ _ rfl (at_getD (by rw [← l];show 0 < 2;omega)),h.2 1 _ _ rfl (at_getD (by rw [← l];show 1 < 2;omega))⟩
set_option maxHeartbeats 8000000 in
set_option maxRecDepth 10000 in
theorem k1245 (H:Has tp) (X:HasX tp) (K:Awk tp) (Gl:Glob h) (s:SlL encF 1 h v F) (t:SlL encF 1 h w G) (f:Free0 h.next h):CallW Tryz.prog tp (.func (.func 6) #[] #[]) #[v,w,.agg #[.float .f32 fa,.float .f32 fb]] h fun v _=>v=.bool true:=by
 obtain ⟨es,L,hE,hL⟩:=lev_some F
 obtain ⟨es',M,hE',hM⟩:=lev_some G
 obtain ⟨ee,XY,he,hXY⟩:=lev_some [fa,fb]
 have hx:firstNZ ee=0→Samp fa (XY.getD 0 0)∧Samp fb (XY.getD 1 0):=fun q=>samp_two (hXY q)
 generalize XY.getD 0 0=x at *
 generalize XY.getD 1 0=y at *
 refine CallW.fnL (H.fn 6 f1245 rfl rfl) ?_
 refine WL.sr<|WOL.box rfl fun h1 N1=>WOL.as rfl<|WOL.nil<|keep [(0,_),(1,_),(5,_)] ⟨rfl,rfl,rfl,trivial⟩ ?_
 have n1:=N1.next
 have A5:At h1 h.next (.cells [.float .f32 fa,.float .f32 fb] true true 69):=N1.at_
 have s1:=s.hx N1.hx
 have t1:=t.hx N1.hx
 refine WL.seq<|WL.sr<|WOL.mv rfl<|WOL.cl1 rfl rfl ((k1254 H s1).mono ?_)
 rintro u g ⟨rfl,rfl⟩
 cases hF:shB F.length with
 | false =>
  refine WOL.nt rfl<|WOL.mv rfl<|WOL.skp (b:=true) rfl rfl<|WOL.skp (b:=true) rfl rfl<|WOL.skp (b:=true) rfl rfl<|WOL.pkt rfl rfl<|WOL.nil<|WL.yes rfl<|WL.sr<|WOL.cl0 rfl ((k11t K _).mono ?_)
  rintro v h4 ⟨rfl,rfl⟩
  exact WOL.as rfl<|WOL.nil<|WL.ret (WL.end_ rfl rfl)
 | true =>
 have lF:=shB_le hF
 refine WOL.nt rfl<|WOL.mv rfl<|WOL.now (b:=false) rfl rfl<|WOL.mv rfl<|WOL.now (b:=false) rfl rfl<|WOL.cl1 rfl rfl ((k1254 H t1).mono ?_)
 rintro u g ⟨rfl,rfl⟩
 cases hG:shB G.length with
 | false =>
  refine WOL.now (b:=false) rfl rfl<|WOL.nt rfl<|WOL.pkf rfl rfl<|WOL.nil<|WL.yes rfl<|WL.sr<|WOL.cl0 rfl ((k11t K _).mono ?_)
  rintro v h4 ⟨rfl,rfl⟩
  exact WOL.as rfl<|WOL.nil<|WL.ret (WL.end_ rfl rfl)
 | true =>
 have lG:=shB_le hG
 refine WOL.now (b:=false) rfl rfl<|WOL.nt rfl<|WOL.pkf rfl rfl<|WOL.nil<|WL.no rfl<|WL.skip<|keep [(0,_),(1,_),(5,_)] ⟨rfl,rfl,rfl,trivial⟩ ?_
 have X1:=N1.hx
 -- bent
 refine WL.sr<|WOL.mv rfl<|WOL.cl1 rfl rfl ((k1258 H s1 (by omega)).mono ?_)
 rintro u g2 ⟨X2,b2,m2,k2,rfl,s2,_⟩
 have Y2:=X1.trans X2
 refine WOL.cl1 rfl rfl ((k1277 H X (Gl.hx Y2) s2 hE hL (by omega) (f.on Y2)).mono ?_)
 rintro u g4 ⟨X4,R⟩
 obtain ⟨v7,rfl,r7⟩:=R.form
 have Z4:=X2.trans X4
 replace s1:=s1.hx Z4
 replace t1:=t1.hx Z4
 replace A5:=A5.hx Z4
 have Y4:=Y2.trans X4
 refine WOL.mv rfl<|WOL.ex rfl rfl<|WOL.ex rfl rfl<|WOL.as rfl<|WOL.as rfl<|WOL.nil<|keep [(0,_),(1,_),(5,_),(7,_),(8,_)] ⟨rfl,rfl,rfl,rfl,rfl,trivial⟩ ?_
 -- doubled
 refine WL.sr<|WOL.mv rfl<|WOL.ld rfl (load_row tp1294 A5 rfl (Nat.le_of_ble_eq_true rfl))<|WOL.lk1 rfl rfl fun ml=>((k1258 H (s1.relock ml) (by omega)).mono ?_)
 rintro u g5 ⟨X5,b5,m5,k5,rfl,s5,_⟩
 replace X5:=X5.relock
 replace s5:=s5.relock g4.lock
 generalize g5.withLock g4.lock=g5 at *
 have Y5:=Y4.trans X5
 refine WOL.cl2 rfl rfl rfl ((k1278 (fa:=fa) (fb:=fb) H X s5 hE he hL hx hF (f.on Y5)).mono ?_)
 rintro u g6 ⟨X6,R⟩
 rw [sumE_sh hF] at R
 obtain ⟨v9,rfl,r9⟩:=R.form
 have Z6:=X5.trans X6
 replace s1:=s1.hx Z6
 replace t1:=t1.hx Z6
 replace A5:=A5.hx Z6
 replace r7:=r7.hx Z6
 have Y6:=Y5.trans X6
 refine WOL.mv rfl<|WOL.ex rfl rfl<|WOL.ex rfl rfl<|WOL.as rfl<|WOL.as rfl<|WOL.nil<|keep [(0,_),(1,_),(5,_),(7,_),(8,_),(9,_),(10,_)] ⟨rfl,rfl,rfl,rfl,rfl,rfl,rfl,trivial⟩ ?_
 -- undoubled
 refine WL.sr<|WOL.mv rfl<|WOL.ld rfl (load_row tp1294 A5 rfl (Nat.le_of_ble_eq_true rfl))<|WOL.lk1 rfl rfl fun ml=>((k1258 H (s1.relock ml) (by omega)).mono ?_)
 rintro u g7 ⟨X7,b7,m7,k7,rfl,s7,_⟩
 replace X7:=X7.relock
 replace s7:=s7.relock g6.lock
 generalize g7.withLock g6.lock=g7 at *
 have Y7:=Y6.trans X7
 refine WOL.cl2 rfl rfl rfl ((k1279 (fa:=fa) (fb:=fb) H X s7 hE he hL hx hF (f.on Y7)).mono ?_)
 rintro u g8 ⟨X8,R⟩
 rw [sumE_sh hF] at R
 obtain ⟨v11,rfl,r11⟩:=R.form
 have Z8:=X7.trans X8
 replace s1:=s1.hx Z8
 replace t1:=t1.hx Z8
 replace A5:=A5.hx Z8
 replace r7:=r7.hx Z8
 replace r9:=r9.hx Z8
 have Y8:=Y7.trans X8
 refine WOL.mv rfl<|WOL.ex rfl rfl<|WOL.ex rfl rfl<|WOL.as rfl<|WOL.as rfl<|WOL.nil<|keep [(0,_),(1,_),(5,_),(7,_),(8,_),(9,_),(10,_),(11,_),(12,_)] ⟨rfl,rfl,rfl,rfl,rfl,rfl,rfl,rfl,rfl,trivial⟩ ?_
 -- halved
 refine WL.sr<|WOL.mv rfl<|WOL.cl1 rfl rfl ((k1258 H s1 (by omega)).mono ?_)
 rintro u g9 ⟨X9,b9,m9,k9,rfl,s9,_⟩
 refine WOL.mv rfl<|WOL.cl1 rfl rfl ((k1258 H (t1.hx X9) (by omega)).mono ?_)
 rintro u g10 ⟨X10,b10,m10,k10,rfl,t10,_⟩
 have Y10:=(Y8.trans X9).trans X10
 refine WOL.cl2 rfl rfl rfl ((k1280 H X (s9.hx X10) t10 hE hE' hL hM (by omega) (by omega) (f.on Y10)).mono ?_)
 rintro u g11 ⟨X11,R⟩
 obtain ⟨v13,rfl,r13⟩:=R.form
 have Z11:=(X9.trans X10).trans X11
 replace s1:=s1.hx Z11
 replace t1:=t1.hx Z11
 replace A5:=A5.hx Z11
 replace r7:=r7.hx Z11
 replace r9:=r9.hx Z11
 replace r11:=r11.hx Z11
 have Y11:=Y10.trans X11
 refine WOL.mv rfl<|WOL.ex rfl rfl<|WOL.ex rfl rfl<|WOL.as rfl<|WOL.as rfl<|WOL.nil<|keep [(0,_),(1,_),(5,_),(7,_),(8,_),(9,_),(10,_),(11,_),(12,_),(13,_),(14,_)] ⟨rfl,rfl,rfl,rfl,rfl,rfl,rfl,rfl,rfl,rfl,rfl,trivial⟩ ?_
 -- errors
 refine WL.sr<|WOL.mv rfl<|WOL.cl1 rfl rfl ((k1261 H s1 hE (by omega)).mono ?_)
 rintro u g12 ⟨rfl,rfl⟩
 refine WOL.mv rfl<|WOL.mv rfl<|WOL.cl2 rfl rfl rfl ((k1263 H s1 t1 hE hE' (by omega) (by omega)).mono ?_)
 rintro u g13 ⟨rfl,X13⟩
 refine WOL.as rfl<|WOL.as rfl<|WOL.nil<|keep [(0,_),(1,_),(5,_),(7,_),(8,_),(9,_),(10,_),(11,_),(12,_),(13,_),(14,_),(15,_),(16,_)] ⟨rfl,rfl,rfl,rfl,rfl,rfl,rfl,rfl,rfl,rfl,rfl,rfl,rfl,trivial⟩ ?_
 have A5':=A5.hx X13
 refine WL.sr<|WOL.mv rfl<|WOL.slG rfl rfl rfl rfl (sliceT_arr u1294a tp25 A5')<|WOL.cl1 rfl rfl ((k141 H (F:=[fa,fb]) (SlL.own eF (show At g13 h.next (.cells (cat encF [fa,fb]) true true 69) from A5') rfl) he (by simp)).mono ?_)
 rintro u g14 ⟨rfl,rfl⟩
 refine WOL.bsl rfl u29 tp3 (by decide) (by decide) (by decide) (filled_ints _ _) fun h15 N15=>WOL.cl1 rfl rfl ((k13 H (l:=[_,_]) N15.at_.get (by simp)).mono ?_)
 rintro u g15 ⟨rfl,rfl⟩
 refine WOL.as rfl<|WOL.nil<|keep [(0,_),(1,_),(5,_),(7,_),(8,_),(9,_),(10,_),(11,_),(12,_),(13,_),(14,_),(15,_),(16,_),(17,_)] ⟨rfl,rfl,rfl,rfl,rfl,rfl,rfl,rfl,rfl,rfl,rfl,rfl,rfl,rfl,trivial⟩ ?_
 have Z15:=X13.trans N15.hx
 have Y15:=Y11.trans Z15
 refine WL.sr<|WOL.mv rfl<|WOL.as rfl<|WOL.nil<|keep [(0,_),(1,_),(5,_),(7,_),(8,_),(9,_),(10,_),(11,_),(12,_),(13,_),(14,_),(15,_),(16,_),(17,_),(18,_)] ⟨rfl,rfl,rfl,rfl,rfl,rfl,rfl,rfl,rfl,rfl,rfl,rfl,rfl,rfl,rfl,trivial⟩ ?_
 refine WL.sr<|WOL.as rfl<|WOL.as rfl<|WOL.as rfl<|WOL.as rfl<|WOL.nil ?_
 exact kto (k1245a H K (f.on Y15) (A5.hx Z15) (s1.hx Z15) (t1.hx Z15) hF hL hM hx rfl rfl rfl (r7.hx Z15) (r9.hx Z15) (r11.hx Z15) (r13.hx Z15)) ⟨rfl,rfl,rfl,rfl,rfl,rfl,rfl,rfl,rfl,rfl,rfl,rfl,rfl,rfl,rfl,rfl,rfl,rfl,rfl,trivial⟩
end
set_option maxRecDepth 100000 in
theorem law1245:LawG tpE 6 5 [25,25,69]:=by
 intro h us f Gl ha
 obtain ⟨x0,x1,x2,rfl,⟨p0,y0,e0⟩,⟨p1,y1,e1⟩,⟨p2,y2,e2⟩⟩:=args3 ha
 have q2:=tyg_array Tryz.underlying69 y2
 rw [val_agg (.inr ⟨_,_,Tryz.underlying69⟩)] at e2
 obtain ⟨w0,F,rfl,s,_⟩:=tyg_slice eF u43 (fun p y=>by obtain ⟨b,e,_⟩:=ty_float y;exact ⟨b,e⟩) y0
 obtain ⟨w1,G,rfl,t,_⟩:=tyg_slice eF u43 (fun p y=>by obtain ⟨b,e,_⟩:=ty_float y;exact ⟨b,e⟩) y1
 rw [val_fls] at e0 e1
 obtain ⟨c0,d0,rfl,_,t0,c1,d1,rfl,_,t1,rfl⟩:=q2
 obtain ⟨a,rfl,_⟩:=ty_float t0
 obtain ⟨b,rfl,_⟩:=ty_float t1
 subst e0 e1 e2
 exact k1245 hasE hasXE awkE Gl s t f
end Go.Tidy
