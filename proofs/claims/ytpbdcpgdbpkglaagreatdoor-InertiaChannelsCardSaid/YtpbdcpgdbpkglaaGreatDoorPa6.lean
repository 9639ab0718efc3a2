/- A part of the proof. -/
import Derived.Test.YtpbdcpgdbpkglaaGreatDoorPa5
set_option linter.all false
namespace Go.Tidy
open Go Go.Proofs Tab
variable {tp:TProg}
section
variable {h:TH} {v w v7 v9 v16 v17:Value} {F G:List Nat} {es es' L M D1 D2:List Int} {x y z n d ez e1 e2 e3 mm E13 E14 E15:Int} {fz c3 b1 b2:Nat} {s:ByteArray}
theorem zero_s:Samp 0 0:=by
 have h:=(smp_ok (n:=0) (by decide)).2.2
 have e:smp 0=0:=by kernel_rfl
 rwa [e] at h
def cd1242d:TCode:=.seq (.reg r1242_17) .ret
set_option maxHeartbeats 2000000 in
theorem k1242d (H:Has tp) (X:HasX tp) (K:Awk tp) (f:Free0 h.next h) (A3:At h c3 (.cells [.string s,.float .f32 fz,zi n,zi d] true true 24)) (he:SampleE fz ez) (t:SlL encF 1 h v F) (hE:SErr F es) (hF:F.length≤900000) (h13:e2=sigE F.length es) (r7:RF h v7 D1) (r16:RF h v16 D1) (r9:RF h v9 D2) (r17:RF h v17 D2) (l1:D1.length≤1000000) (l2:D2.length≤1000000) (s1:Samp b1 mm) (s2:Samp b2 mm) :
  ∀ r,Kn [(1,v),(3,ptr c3),(7,v7),(8,zi e1),(9,v9),(10,zi e2),(11,.float .f32 b1),(12,zi e3),(13,zi e2),(14,zi e1),(15,zi e3),(16,v16),(17,v17),(18,.float .f32 b2)] r→W Tryz.prog tp false cd1242d r h (Fin Tryz.prog [.tmp 6] fun v _=>v=.bool true):=by
 unfold cd1242d
 have t3:=A3.lt
 refine WL.sr<|WOL.ld rfl (load_row tp1263 A3 rfl (Nat.le_of_ble_eq_true rfl))<|WOL.ld rfl (load_row tp1263 A3 rfl (Nat.le_of_ble_eq_true rfl))<|WOL.lv1 [some c3] rfl rfl rfl fun ml hl=>((k1257 (h:=TH.withLock _ ml) H (f.heldO hl (fun b hb=>by simp at hb;omega))).mono ?_)
 rintro u g ⟨rfl,X1⟩
 replace X1:=X1.relock
 generalize g.withLock h.lock=g at *
 have f1:=f.on X1
 have y1:=X1.next
 refine WOL.lv1 [some c3] rfl rfl rfl fun ml hl=>((k1267 (h:=TH.withLock _ ml) (s:=s) (n:=n) (d:=d) H X he (f1.heldO hl (fun b hb=>by simp at hb;omega))).mono ?_)
 rintro u g2 ⟨rfl,X2⟩
 replace X2:=X2.relock
 generalize g2.withLock g.lock=g2 at *
 have Y2:=X1.trans X2
 refine WOL.cl1 rfl rfl ((k1262 (s:=s) (n:=n) (d:=d) H he).mono ?_)
 rintro u g3 ⟨rfl,X3⟩
 have Y3:=Y2.trans X3
 refine WOL.bt rfl rfl rfl (beq_self_eq_true _)<|WOL.mv rfl<|WOL.now (b:=true) rfl rfl<|WOL.mv rfl<|WOL.now (b:=true) rfl rfl<|WOL.mv rfl<|WOL.now (b:=true) rfl rfl<|WOL.cl1 rfl rfl ((k1258 H (t.hx Y3) (by omega)).mono ?_)
 rintro u g4 ⟨X4,b4,m4,k4,rfl,t4,_⟩
 have Y:=Y3.trans X4
 refine WOL.now (b:=true) rfl rfl<|WOL.cl1 rfl rfl ((k1268 H X t4 hE (by omega)).mono ?_)
 rintro u g5 ⟨rfl,rfl⟩
 rw [← h13]
 refine WOL.now (b:=true) rfl rfl<|WOL.bt rfl rfl rfl (beq_self_eq_true _)<|WOL.pkt rfl rfl<|WOL.mv rfl<|WOL.now (b:=true) rfl rfl<|WOL.mv rfl<|WOL.now (b:=true) rfl rfl<|WOL.mv rfl<|WOL.now (b:=true) rfl rfl<|WOL.cl2 rfl rfl rfl ((k58r H (r7.hx Y) (r16.hx Y) l1).mono ?_)
 rintro u g5 ⟨rfl,rfl⟩
 refine WOL.pkt rfl rfl<|WOL.mv rfl<|WOL.now (b:=true) rfl rfl<|WOL.mv rfl<|WOL.now (b:=true) rfl rfl<|WOL.mv rfl<|WOL.now (b:=true) rfl rfl<|WOL.bt rfl rfl rfl (beq_self_eq_true _)<|WOL.pkt rfl rfl<|WOL.mv rfl<|WOL.now (b:=true) rfl rfl<|WOL.mv rfl<|WOL.now (b:=true) rfl rfl<|WOL.mv rfl<|WOL.now (b:=true) rfl rfl<|WOL.cl2 rfl rfl rfl ((k58r H (r9.hx Y) (r17.hx Y) l2).mono ?_)
 rintro u g6 ⟨rfl,rfl⟩
 refine WOL.pkt rfl rfl<|WOL.mv rfl<|WOL.now (b:=true) rfl rfl<|WOL.mv rfl<|WOL.now (b:=true) rfl rfl<|WOL.mv rfl<|WOL.now (b:=true) rfl rfl<|WOL.bt rfl rfl rfl (beq_self_eq_true _)<|WOL.pkt rfl rfl<|WOL.mv rfl<|WOL.now (b:=true) rfl rfl<|WOL.mv rfl<|WOL.now (b:=true) rfl rfl<|WOL.mv rfl<|WOL.now (b:=true) rfl rfl<|WOL.feq s1 s2 rfl rfl ?_
 rw [decide_eq_true rfl]
 refine WOL.pkt rfl rfl<|WOL.mv rfl<|WOL.now (b:=true) rfl rfl<|WOL.mv rfl<|WOL.now (b:=true) rfl rfl<|WOL.mv rfl<|WOL.now (b:=true) rfl rfl<|WOL.bt rfl rfl rfl (beq_self_eq_true _)<|WOL.pkt rfl rfl<|WOL.mv rfl<|WOL.now (b:=true) rfl rfl<|WOL.cl0 rfl ((k11t K _).mono ?_)
 rintro u g7 ⟨rfl,rfl⟩
 exact WOL.pkt rfl rfl<|WOL.as rfl<|WOL.nil<|WL.ret (WL.end_ rfl rfl)
def cd1242c:TCode:=.seq (.seq (.reg r1242_15) (.cond (.tmp 85) (.reg r1242_16) .skip)) cd1242d
set_option maxHeartbeats 2000000 in
theorem k1242c (H:Has tp) (X:HasX tp) (K:Awk tp) (f:Free0 h.next h) (A3:At h c3 (.cells [.string s,.float .f32 fz,zi n,zi d] true true 24)) (he:SampleE fz ez) (t:SlL encF 1 h v F) (tw:SlL encF 1 h w G) (hE:SErr F es) (hL:firstNZ es=0→Lev F L) (hM:firstNZ es'=0→Lev G M) (hF:F.length≤900000) (h13:e2=sigE F.length es) (h15:E15=meanE F.length G.length es es') (r7:RF h v7 D1) (r16:RF h v16 D1) (r9:RF h v9 D2) (r17:RF h v17 D2) (l1:D1.length≤1000000) (l2:D2.length≤1000000) :
  ∀ r,Kn [(1,v),(2,w),(3,ptr c3),(7,v7),(8,zi e1),(9,v9),(10,zi e2),(11,.float .f32 (if E15≠0 then 0 else smp (meanF L M))),(12,zi E15),(13,zi e2),(14,zi e1),(15,zi E15),(16,v16),(17,v17),(18,.float .f32 0)] r→W Tryz.prog tp false cd1242c r h (Fin Tryz.prog [.tmp 6] fun v _=>v=.bool true):=by
 unfold cd1242c
 by_cases e0:E15=0
 ·subst e0
  obtain ⟨⟨⟨l1',z1⟩,z2,l2'⟩,hpos⟩:=mean_ok h15.symm
  have lv:=hL z1
  have lw:=hM z2
  have ll:=lv.1
  have bb:=mean_lim (fun x hx=>lev_limI lv x hx) (fun x hx=>lev_limI lw x hx) (by omega)
  rw [if_neg (fun c=>c rfl)]
  refine WL.seq<|WL.sr<|WOL.mv rfl<|WOL.bt rfl rfl rfl rfl<|WOL.nil<|WL.yes rfl<|WL.reg<|WOL.mv rfl<|WOL.mv rfl<|WOL.cl2 rfl rfl rfl ((k1266 H t tw lv lw hpos l1' l2'.symm f).mono ?_)
  rintro u g ⟨X1,rfl⟩
  exact WOL.as rfl<|WOL.nil<|kto (k1242d H X K (f.on X1) (A3.hx X1) he (t.hx X1) hE hF h13 (r7.hx X1) (r16.hx X1) (r9.hx X1) (r17.hx X1) l1 l2 (smp_ok bb).2.2 (smp_ok bb).2.2) ⟨rfl,rfl,rfl,rfl,rfl,rfl,rfl,rfl,rfl,rfl,rfl,rfl,rfl,rfl,trivial⟩
 ·rw [if_pos (show E15≠0 from e0)]
  refine WL.seq<|WL.sr<|WOL.mv rfl<|WOL.bf rfl rfl rfl (beq_eq_false_iff_ne.2 e0)<|WOL.nil<|WL.no rfl<|WL.skip ?_
  exact kto (k1242d H X K f A3 he t hE hF h13 r7 r16 r9 r17 l1 l2 zero_s zero_s) ⟨rfl,rfl,rfl,rfl,rfl,rfl,rfl,rfl,rfl,rfl,rfl,rfl,rfl,rfl,trivial⟩
def cd1242b:TCode:=.seq (.seq (.reg r1242_13) (.cond (.tmp 81) (.reg r1242_14) .skip)) cd1242c
set_option maxHeartbeats 2000000 in
theorem k1242b (H:Has tp) (X:HasX tp) (K:Awk tp) (f:Free0 h.next h) (A3:At h c3 (.cells [.string s,.float .f32 fz,zi n,zi d] true true 24)) (he:SampleE fz ez) (t:SlL encF 1 h v F) (tw:SlL encF 1 h w G) (hE:SErr F es) (hL:firstNZ es=0→Lev F L) (hM:firstNZ es'=0→Lev G M) (hF:F.length≤900000) (h13:E13=sigE F.length es) (h15:E15=meanE F.length G.length es es') (r7:RF h v7 D1) (r16:RF h v16 D1) (r9:RF h v9 (cL E13 (trnL L))) (l1:D1.length≤1000000) :
  ∀ r,Kn [(1,v),(2,w),(3,ptr c3),(7,v7),(8,zi e1),(9,v9),(10,zi (cE E13 (trnL L))),(11,.float .f32 (if E15≠0 then 0 else smp (meanF L M))),(12,zi E15),(13,zi E13),(14,zi e1),(15,zi E15),(16,v16),(17,.slice none 0 0),(18,.float .f32 0)] r→W Tryz.prog tp false cd1242b r h (Fin Tryz.prog [.tmp 6] fun v _=>v=.bool true):=by
 unfold cd1242b
 by_cases e0:E13=0
 ·subst e0
  obtain ⟨l1',z1⟩:=sigE_short h13.symm
  have lv:=hL z1
  have ll:=lv.1
  have ok:=sg_ok (fine_trn (L:=L) fun j _=>lev_getD lv j)
  rw [cE_0,ok.1]
  rw [cL_0,ok.2] at r9
  refine WL.seq<|WL.sr<|WOL.mv rfl<|WOL.bt rfl rfl rfl rfl<|WOL.nil<|WL.yes rfl<|WL.reg<|WOL.mv rfl<|WOL.cl1 rfl rfl ((k1265 H t lv (by omega) f).mono ?_)
  rintro u g ⟨X1,r17⟩
  exact WOL.as rfl<|WOL.nil<|kto (k1242c H X K (f.on X1) (A3.hx X1) he (t.hx X1) (tw.hx X1) hE hL hM hF h13 h15 (r7.hx X1) (r16.hx X1) (r9.hx X1) r17 l1 (by rw [trn_len];omega)) ⟨rfl,rfl,rfl,rfl,rfl,rfl,rfl,rfl,rfl,rfl,rfl,rfl,rfl,rfl,rfl,trivial⟩
 ·rw [cE_no e0]
  rw [cL_no e0] at r9
  refine WL.seq<|WL.sr<|WOL.mv rfl<|WOL.bf rfl rfl rfl (beq_eq_false_iff_ne.2 e0)<|WOL.nil<|WL.no rfl<|WL.skip ?_
  exact kto (k1242c H X K f A3 he t tw hE hL hM hF h13 h15 r7 r16 r9 RF.nil l1 (by decide)) ⟨rfl,rfl,rfl,rfl,rfl,rfl,rfl,rfl,rfl,rfl,rfl,rfl,rfl,rfl,rfl,trivial⟩
def cd1242a:TCode:=.seq (.seq (.reg r1242_11) (.cond (.tmp 73) (.reg r1242_12) .skip)) cd1242b
set_option maxHeartbeats 2000000 in
theorem k1242a (H:Has tp) (X:HasX tp) (K:Awk tp) (f:Free0 h.next h) (A3:At h c3 (.cells [.string s,.float .f32 fz,zi n,zi d] true true 24)) (he:SampleE fz ez) (hz:ez=0→Samp fz z) (t:SlL encF 1 h v F) (tw:SlL encF 1 h w G) (hE:SErr F es) (hL:firstNZ es=0→Lev F L) (hM:firstNZ es'=0→Lev G M) (hF:F.length≤900000) (h13:E13=sigE F.length es) (h14:E14=firstNZ [chE s ez n d,sigE F.length es]) (h15:E15=meanE F.length G.length es es') (r7:RF h v7 (cL E14 (L.map (scF z n d)))) (r9:RF h v9 (cL E13 (trnL L))) :
  ∀ r,Kn [(1,v),(2,w),(3,ptr c3),(7,v7),(8,zi (cE E14 (L.map (scF z n d)))),(9,v9),(10,zi (cE E13 (trnL L))),(11,.float .f32 (if E15≠0 then 0 else smp (meanF L M))),(12,zi E15),(13,zi E13),(14,zi E14),(15,zi E15),(16,.slice none 0 0),(17,.slice none 0 0),(18,.float .f32 0)] r→W Tryz.prog tp false cd1242a r h (Fin Tryz.prog [.tmp 6] fun v _=>v=.bool true):=by
 unfold cd1242a
 by_cases e0:E14=0
 ·subst e0
  have q:=firstNZ_zero h14.symm
  obtain ⟨z0,hn,hd⟩:=chE_ok (q (chE s ez n d) (by simp))
  obtain ⟨l1',z1⟩:=sigE_short (q (sigE F.length es) (by simp))
  have lv:=hL z1
  have sz:=hz z0
  have ll:=lv.1
  rw [cE_0]
  rw [cL_0] at r7
  refine WL.seq<|WL.sr<|WOL.mv rfl<|WOL.bt rfl rfl rfl rfl<|WOL.nil<|WL.yes rfl<|WL.reg<|WOL.ld rfl (load_row tp1263 A3 rfl (Nat.le_of_ble_eq_true rfl))<|WOL.mv rfl<|WOL.cl2 rfl rfl rfl ((k1264 (s:=s) H t lv sz hn hd hF f).mono ?_)
  rintro u g ⟨X1,R⟩
  obtain ⟨u',rfl,r16⟩:=R.form
  exact WOL.mv rfl<|WOL.ex rfl rfl<|WOL.ex rfl rfl<|WOL.as rfl<|WOL.as rfl<|WOL.nil<|kto (k1242b H X K (f.on X1) (A3.hx X1) he (t.hx X1) (tw.hx X1) hE hL hM hF h13 h15 (r7.hx X1) r16 (r9.hx X1) (Nat.le_trans sgL_len (by rw [List.length_map];omega))) ⟨rfl,rfl,rfl,rfl,rfl,rfl,rfl,rfl,rfl,rfl,rfl,rfl,rfl,rfl,rfl,trivial⟩
 ·rw [cE_no e0]
  rw [cL_no e0] at r7
  refine WL.seq<|WL.sr<|WOL.mv rfl<|WOL.bf rfl rfl rfl (beq_eq_false_iff_ne.2 e0)<|WOL.nil<|WL.no rfl<|WL.skip ?_
  exact kto (k1242b H X K f A3 he t tw hE hL hM hF h13 h15 r7 RF.nil r9 (by decide)) ⟨rfl,rfl,rfl,rfl,rfl,rfl,rfl,rfl,rfl,rfl,rfl,rfl,rfl,rfl,rfl,trivial⟩
set_option maxHeartbeats 8000000 in
set_option maxRecDepth 10000 in
theorem k1242 (H:Has tp) (X:HasX tp) (K:Awk tp) (t:SlL encF 1 h v F) (tw:SlL encF 1 h w G) (f:Free0 h.next h):CallW Tryz.prog tp (.func (.func 3) #[] #[]) #[chV s fz n d,v,w] h fun v _=>v=.bool true:=by
  obtain ⟨es,L,hE,hL⟩:=lev_some F
  obtain ⟨es',M,hE',hM⟩:=lev_some G
  obtain ⟨ez,z,he,hz⟩:∃ ef x,SampleE fz ef∧(ef=0→Samp fz x):=by
    obtain ⟨ee,X,q1,q2⟩:=lev_some [fz]
    have l:ee.length=1:=q1.1.symm
    match ee,l with
    | [e],_=>exact ⟨e,X.getD 0 0,q1.2 0 _ _ rfl rfl,fun c=>by
        subst c
        have lv:=q2 rfl
        have l1:=lv.1
        exact lv.2 0 _ _ rfl (at_getD (by rw [← l1];show 0 < 1;omega))⟩
  refine CallW.fnL (H.fn 3 f1242 rfl rfl) ?_
  refine WL.sr<|WOL.box rfl fun h1 N1=>WOL.as rfl<|WOL.nil<|keep [(1,_),(2,_),(3,_)] ⟨rfl,rfl,rfl,trivial⟩ ?_
  have n1:=N1.next
  have X1:=N1.hx
  have A3:At h1 h.next (.cells [.string s,.float .f32 fz,zi n,zi d] true true 24):=N1.at_
  replace t:=t.hx X1
  replace tw:=tw.hx X1
  have f1:=f.on X1
  by_cases cs:(s.size:Int) > 40
  · refine WL.seq<|WL.sr<|WOL.fa rfl (fa_of fo1263_0)<|WOL.ld rfl (load_one tpStr A3 rfl)<|WOL.lenS rfl Tryz.underlying9<|WOL.bt rfl rfl rfl (decide_eq_true cs)<|WOL.mv rfl<|WOL.skp (b:=true) rfl rfl<|WOL.skp (b:=true) rfl rfl<|WOL.skp (b:=true) rfl rfl<|WOL.pkt rfl rfl<|WOL.mv rfl<|WOL.skp (b:=true) rfl rfl<|WOL.skp (b:=true) rfl rfl<|WOL.skp (b:=true) rfl rfl<|WOL.pkt rfl rfl<|WOL.nil<|WL.yes rfl<|WL.sr<|WOL.cl0 rfl ((k11t K _).mono ?_)
    rintro v h4 ⟨rfl,rfl⟩
    exact WOL.as rfl<|WOL.nil<|WL.ret (WL.end_ rfl rfl)
  refine WL.seq<|WL.sr<|WOL.fa rfl (fa_of fo1263_0)<|WOL.ld rfl (load_one tpStr A3 rfl)<|WOL.lenS rfl Tryz.underlying9<|WOL.bf rfl rfl rfl (decide_eq_false cs)<|WOL.mv rfl<|WOL.now (b:=false) rfl rfl<|WOL.mv rfl<|WOL.now (b:=false) rfl rfl<|WOL.cl1 rfl rfl ((k1254 H t).mono ?_)
  rintro u g ⟨rfl,rfl⟩
  cases hF:shB F.length with
  | false =>
    refine WOL.now (b:=false) rfl rfl<|WOL.nt rfl<|WOL.pkf rfl rfl<|WOL.mv rfl<|WOL.skp (b:=true) rfl rfl<|WOL.skp (b:=true) rfl rfl<|WOL.skp (b:=true) rfl rfl<|WOL.pkt rfl rfl<|WOL.nil<|WL.yes rfl<|WL.sr<|WOL.cl0 rfl ((k11t K _).mono ?_)
    rintro v h4 ⟨rfl,rfl⟩
    exact WOL.as rfl<|WOL.nil<|WL.ret (WL.end_ rfl rfl)
  | true =>
  have lF:=shB_le hF
  refine WOL.now (b:=false) rfl rfl<|WOL.nt rfl<|WOL.pkf rfl rfl<|WOL.mv rfl<|WOL.now (b:=false) rfl rfl<|WOL.mv rfl<|WOL.now (b:=false) rfl rfl<|WOL.cl1 rfl rfl ((k1254 H tw).mono ?_)
  rintro u g ⟨rfl,rfl⟩
  cases hG:shB G.length with
  | false =>
    refine WOL.now (b:=false) rfl rfl<|WOL.nt rfl<|WOL.pkf rfl rfl<|WOL.nil<|WL.yes rfl<|WL.sr<|WOL.cl0 rfl ((k11t K _).mono ?_)
    rintro v h4 ⟨rfl,rfl⟩
    exact WOL.as rfl<|WOL.nil<|WL.ret (WL.end_ rfl rfl)
  | true =>
  have lG:=shB_le hG
  refine WOL.now (b:=false) rfl rfl<|WOL.nt rfl<|WOL.pkf rfl rfl<|WOL.nil<|WL.no rfl<|WL.skip<|keep [(1,_),(2,_),(3,_)] ⟨rfl,rfl,rfl,trivial⟩ ?_
  -- scaled
  refine WL.sr<|WOL.ld rfl (load_row tp1263 A3 rfl (Nat.le_of_ble_eq_true rfl))<|WOL.cl1 rfl rfl ((k1257 (s:=s) (n:=n) (d:=d) H f1).mono ?_)
  rintro u g2 ⟨rfl,X2⟩
  refine WOL.mv rfl<|WOL.cl1 rfl rfl ((k1258 H (t.hx X2) (by omega)).mono ?_)
  rintro u g3 ⟨X3,b3,m3,k3,rfl,t3,_⟩
  have Y3:=X2.trans X3
  refine WOL.cl2 rfl rfl rfl ((k1256 (s:=s) (n:=n) (d:=d) H X t3 he hz hE hL (by omega) (f1.on Y3)).mono ?_)
  rintro u g4 ⟨X4,R⟩
  obtain ⟨v7,rfl,r7⟩:=R.form
  have Y4:=Y3.trans X4
  refine WOL.mv rfl<|WOL.ex rfl rfl<|WOL.ex rfl rfl<|WOL.as rfl<|WOL.as rfl<|WOL.nil<|keep [(1,_),(2,_),(3,_),(7,_),(8,_)] ⟨rfl,rfl,rfl,rfl,rfl,trivial⟩ ?_
  -- turned
  refine WL.sr<|WOL.mv rfl<|WOL.cl1 rfl rfl ((k1258 H (t.hx Y4) (by omega)).mono ?_)
  rintro u g5 ⟨X5,b5,m5,k5,rfl,t5,_⟩
  have Y5:=Y4.trans X5
  refine WOL.cl1 rfl rfl ((k1259 H X t5 hE hL (by omega) (f1.on Y5)).mono ?_)
  rintro u g6 ⟨X6,R⟩
  obtain ⟨v9,rfl,r9⟩:=R.form
  have Z6:=X5.trans X6
  have Y6:=Y5.trans X6
  replace r7:=r7.hx Z6
  refine WOL.mv rfl<|WOL.ex rfl rfl<|WOL.ex rfl rfl<|WOL.as rfl<|WOL.as rfl<|WOL.nil<|keep [(1,_),(2,_),(3,_),(7,_),(8,_),(9,_),(10,_)] ⟨rfl,rfl,rfl,rfl,rfl,rfl,rfl,trivial⟩ ?_
  -- the mean
  refine WL.sr<|WOL.mv rfl<|WOL.cl1 rfl rfl ((k1258 H (t.hx Y6) (by omega)).mono ?_)
  rintro u g7 ⟨X7,b7,m7,k7,rfl,t7,_⟩
  have Y7:=Y6.trans X7
  refine WOL.mv rfl<|WOL.cl1 rfl rfl ((k1258 H (tw.hx Y7) (by omega)).mono ?_)
  rintro u g8 ⟨X8,b8,m8,k8,rfl,t8,_⟩
  have Y8:=Y7.trans X8
  refine WOL.cl2 rfl rfl rfl ((k1260 H X (t7.hx X8) t8 hE hE' hL hM (by omega) (by omega) (f1.on Y8)).mono ?_)
  rintro u g9 ⟨X9,rfl⟩
  have Z9:=(X7.trans X8).trans X9
  have Y9:=Y8.trans X9
  replace r7:=r7.hx Z9
  replace r9:=r9.hx Z9
  refine WOL.mv rfl<|WOL.ex rfl rfl<|WOL.ex rfl rfl<|WOL.as rfl<|WOL.as rfl<|WOL.nil<|keep [(1,_),(2,_),(3,_),(7,_),(8,_),(9,_),(10,_),(11,_),(12,_)] ⟨rfl,rfl,rfl,rfl,rfl,rfl,rfl,rfl,rfl,trivial⟩ ?_
  replace t:=t.hx Y9
  replace tw:=tw.hx Y9
  replace A3:=A3.hx Y9
  -- errors
  refine WL.sr<|WOL.mv rfl<|WOL.cl1 rfl rfl ((k1261 H t hE (by omega)).mono ?_)
  rintro u g10 ⟨rfl,rfl⟩
  refine WOL.as rfl<|WOL.nil<|keep [(1,_),(2,_),(3,_),(7,_),(8,_),(9,_),(10,_),(11,_),(12,_),(13,_)] ⟨rfl,rfl,rfl,rfl,rfl,rfl,rfl,rfl,rfl,rfl,trivial⟩ ?_
  refine WL.sr<|WOL.ld rfl (load_row tp1263 A3 rfl (Nat.le_of_ble_eq_true rfl))<|WOL.cl1 rfl rfl ((k1262 (s:=s) (n:=n) (d:=d) H he).mono ?_)
  rintro u g11 ⟨rfl,X11⟩
  refine WOL.mv rfl<|WOL.bsl rfl u29 tp3 (by decide) (by decide) (by decide) (filled_ints _ _) fun h15 N15=>WOL.cl1 rfl rfl ((k13 H (l:=[_,_]) N15.at_.get (by simp)).mono ?_)
  rintro u g15 ⟨rfl,rfl⟩
  have Z15:=X11.trans N15.hx
  refine WOL.as rfl<|WOL.nil<|keep [(1,_),(2,_),(3,_),(7,_),(8,_),(9,_),(10,_),(11,_),(12,_),(13,_),(14,_)] ⟨rfl,rfl,rfl,rfl,rfl,rfl,rfl,rfl,rfl,rfl,rfl,trivial⟩ ?_
  refine WL.sr<|WOL.mv rfl<|WOL.mv rfl<|WOL.cl2 rfl rfl rfl ((k1263 H (t.hx Z15) (tw.hx Z15) hE hE' (by omega) (by omega)).mono ?_)
  rintro u g16 ⟨rfl,X16⟩
  have Z16:=Z15.trans X16
  refine WOL.mv rfl<|WOL.len rfl (t.hx Z16) u43<|WOL.bi (v:=.bool ((F.length:Int) == 0)) rfl rfl rfl<|WOL.cl2 rfl rfl rfl ((k32 H _ _ _).mono ?_)
  rintro u g17 ⟨rfl,rfl⟩
  refine WOL.bsl rfl u29 tp3 (by decide) (by decide) (by decide) (filled_ints _ _) fun h18 N18=>WOL.cl1 rfl rfl ((k13 H (l:=[_,_]) N18.at_.get (by simp)).mono ?_)
  rintro u g18 ⟨rfl,rfl⟩
  have Z18:=Z16.trans N18.hx
  have Y18:=Y9.trans Z18
  refine WOL.as rfl<|WOL.nil<|keep [(1,_),(2,_),(3,_),(7,_),(8,_),(9,_),(10,_),(11,_),(12,_),(13,_),(14,_),(15,_)] ⟨rfl,rfl,rfl,rfl,rfl,rfl,rfl,rfl,rfl,rfl,rfl,rfl,trivial⟩ ?_
  refine WL.sr<|WOL.as rfl<|WOL.as rfl<|WOL.nil<|keep [(1,_),(2,_),(3,_),(7,_),(8,_),(9,_),(10,_),(11,_),(12,_),(13,_),(14,_),(15,_),(16,_),(17,_)] ⟨rfl,rfl,rfl,rfl,rfl,rfl,rfl,rfl,rfl,rfl,rfl,rfl,rfl,rfl,trivial⟩ ?_
  refine WL.sr<|WOL.as rfl<|WOL.nil ?_
  exact kto (k1242a H X K (f1.on Y18) (A3.hx Z18) he hz (t.hx Z18) (tw.hx Z18) hE hL hM (by omega) rfl rfl rfl (r7.hx Z18) (r9.hx Z18)) ⟨rfl,rfl,rfl,rfl,rfl,rfl,rfl,rfl,rfl,rfl,rfl,rfl,rfl,rfl,rfl,trivial⟩
end
set_option maxRecDepth 100000 in
theorem law1242:LawG tpE 3 5 [24,25,25]:=by
 intro h us f Gl ha
 obtain ⟨x0,x1,x2,rfl,⟨p0,y0,e0⟩,⟨p1,y1,e1⟩,⟨p2,y2,e2⟩⟩:=args3 ha
 have q0:=tyg_struct Tryz.underlying24 y0
 rw [val_agg (.inl ⟨_,Tryz.underlying24⟩)] at e0
 obtain ⟨w1,F,rfl,t,_⟩:=tyg_slice eF u43 (fun p y=>by obtain ⟨b,e,_⟩:=ty_float y;exact ⟨b,e⟩) y1
 obtain ⟨w2,G,rfl,tw,_⟩:=tyg_slice eF u43 (fun p y=>by obtain ⟨b,e,_⟩:=ty_float y;exact ⟨b,e⟩) y2
 rw [val_fls] at e1 e2
 obtain ⟨a0,d0,rfl,_,t0,a1,d1,rfl,_,t1,a2,d2,rfl,_,t2,a3,d3,rfl,_,t3,rfl⟩:=q0
 obtain ⟨s,rfl,_⟩:=ty_str t0
 obtain ⟨fz,rfl,_⟩:=ty_float t1
 obtain ⟨n,rfl,_⟩:=ty_int t2
 obtain ⟨d,rfl,_⟩:=ty_int t3
 subst e0 e1 e2
 exact k1242 hasE hasXE awkE t tw f
end Go.Tidy
