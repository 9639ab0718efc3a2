/- A part of the proof. -/
import Derived.Test.YtcgodmeccmkcaaaGreatDoorPa6
set_option linter.all false
namespace Go.Tidy
open Go Go.Proofs Tab
variable {tp:TProg}
section
variable {h h0:TH} {a b n1 n2:Int} {v1 v2 w1 w2 w:Value} {L1 L2 X:List Int} {S1 S2:List (Int × Int)} {c3 c4:Nat}
set_option maxHeartbeats 4000000 in
set_option maxRecDepth 10000 in
theorem k1103d (H:Has tp) (K:Awk tp) (X0:HX h0 h) (f:Free0 h0.next h0) (h3:h0.next ≤ c3) (h4:h0.next ≤ c4) (A3:At h c3 (.cells [zi a,zi b] true true 23)) (A4:At h c4 (.cells [zi n1,v1,v2,zi n2,w1,w2] true true 28)) (r1:TrcH h v1 v2 L1 S1) (r2:TrcH h w1 w2 L2 S2) (s:SlL encI 1 h w X) (hL:L1.length ≤ 900000) (hS:S1.length ≤ 900000) (hL2:L2.length ≤ 900000) (hS2:S2.length ≤ 900000) (lX:X.length ≤ 100000) :
  ∀ y,Kn [(2,w),(3,ptr c3),(4,ptr c4)] y → W Tryz.prog tp false (.seq (.reg r1103_3) (.seq (.reg r1103_4) (.seq (.reg r1103_5) (.seq (.reg r1103_6) (.seq (.seq (.reg r1103_7) (.cond (.tmp 70) (.reg r1103_8) .skip)) cd1103a))))) y h (Fin Tryz.prog [.tmp 6] fun v _ => v = .bool true):=by
 obtain ⟨b9,k9,e9,_⟩:=id s
 subst e9
 have x0:=X0.next
 have lc4:=A4.lt
 have lc3:=A3.lt
 -- restored
 refine WL.sr <| WOL.ld rfl (load_row tp1112 A3 rfl (Nat.le_of_ble_eq_true rfl)) <| WOL.ix rfl rfl ix1115_0 <| WOL.ld rfl (load_row tp1114 A4 (l:=[zi n1,v1,v2]) rfl (Nat.le_of_ble_eq_true rfl)) <| WOL.mv rfl <| WOL.al tp1117 fun h1 N1 => ?_
 have q1:=N1.next
 have Y1:=X0.trans N1.hx
 refine WOL.lq1 [h.next,c3] rfl rfl rfl fun M hM => ((k1115 (n:=n1) H ((r1.hx N1.hx).relock M) (by omega) (by omega) ((f.on Y1).held hM (fun b hb => by simp at hb;omega))).mono ?_)
 rintro v h2 ⟨X2,u1,u2,rfl,ru,_,_⟩
 replace X2:=X2.relock
 replace ru:=ru.relock h1.lock
 generalize h2.withLock h1.lock = h2 at *
 have Y2:=Y1.trans X2
 have q2:=X2.next
 refine WOL.lk1 rfl rfl fun M => ((k1136 H (((s.hx N1.hx).hx X2).relock M) (by omega)).mono ?_)
 rintro v h3 ⟨X3,bz,mz,kz,rfl,sz,_⟩
 replace X3:=X3.relock
 replace sz:=sz.relock h2.lock
 generalize h3.withLock h2.lock = h3 at *
 have Y3:=Y2.trans X3
 have q3:=X3.next
 refine WOL.lq3 [h.next] rfl rfl rfl rfl rfl fun M hM => ((k1135 (n:=n1) (a:=a) (b:=b) H ((ru.hx X3).relock M) (sz.relock M) hL hS (by omega) ((f.on Y3).held hM (fun b hb => by simp at hb;omega))).mono ?_)
 rintro v h4 ⟨X4,PR⟩
 have PA:=PR.ans
 clear PR
 change Ans (n1 - a) (resO n1 a b L1 S1 X) _ _ _ at PA
 obtain ⟨zA,y1A,y2A,rfl,iA,sA,loA,lqA,eA⟩:=PA;obtain ⟨d1A,d2A,d3A,rfl⟩:=ints_form iA;obtain ⟨d4A,d5A,rfl,_⟩:=id sA
 replace X4:=X4.relock
 replace iA:=iA.keep (g':=h4.withLock h3.lock) fun b x _ a => a.relock _
 replace sA:=slC_keep (h':=h4.withLock h3.lock) sA fun b x _ a => a.relock _
 replace loA:∀ z,bl (.slice d1A d2A d3A) = some z → h3.next ≤ z:=loA
 replace lqA:∀ z,bl (.slice d4A _ d5A) = some z → h3.next ≤ z:=lqA
 generalize h4.withLock h3.lock = h4 at *
 have Y4:=Y3.trans X4
 have q4:=X4.next
 have Z4:=((N1.hx.trans X2).trans X3).trans X4
 have B7:=((N1.at_.hx X2).hx X3).hx X4
 refine WOL.mv rfl <| WOL.ex rfl rfl <| WOL.ex rfl rfl <| WOL.sto (vs:=[zi zA,.slice d1A d2A d3A,.slice d4A _ d5A]) rfl rfl tp1117 (B7) rfl rfl (Nat.le_of_ble_eq_true rfl) rfl (f.hx (Y4)) (by omega) fun gA PA => WOL.as rfl <| WOL.nil <| keep [(2,_),(3,_),(4,_),(7,_),(8,_)] ⟨rfl,rfl,rfl,rfl,rfl,trivial⟩ ?_
 have Z5:HX h gA:=PA.hx _ Z4 (by omega)
 have C7:CelA 31 (n1 - a) (resO n1 a b L1 S1 X) gA h.next:=⟨zA,_,_,_,_,_,_,PA.at_,iA.keep fun b x hb a => PA.oth _ _ (by have:=loA b hb;have:=a.lt;omega) (a),slC_keep sA fun b x hb a => PA.oth _ _ (by have:=lqA b hb;have:=a.lt;omega) (a),eA⟩
 have y5:=PA.next
 clear B7 eA iA sA loA lqA PA
 generalize gA = h5 at *
 have Y5:=X0.trans Z5
 replace A3:=A3.hx Z5;replace A4:=A4.hx Z5
 -- again
 refine WL.sr <| WOL.ld rfl (load_row tp1112 A3 rfl (Nat.le_of_ble_eq_true rfl)) <| WOL.ix rfl rfl ix1115_1 <| WOL.ld rfl (load_row tp1114 A4 (l:=[zi n2,w1,w2]) rfl (Nat.le_of_ble_eq_true rfl)) <| WOL.ix rfl rfl ix1115_0 <| WOL.ld rfl (load_row tp1114 A4 (l:=[zi n1,v1,v2]) rfl (Nat.le_of_ble_eq_true rfl)) ?_
 refine WOL.lq1 [c4,c3] rfl rfl rfl fun M hM => ((k1115 (n:=n2) H ((r2.hx Z5).relock M) (by omega) (by omega) ((f.on Y5).held hM (fun b hb => by simp at hb;omega))).mono ?_)
 rintro v h6 ⟨X6,u3,u4,rfl,rv,_,_⟩
 replace X6:=X6.relock
 replace rv:=rv.relock h5.lock
 generalize h6.withLock h5.lock = h6 at *
 have Y6:=Y5.trans X6
 have q6:=X6.next
 refine WOL.lq1 [c3] rfl rfl rfl fun M hM => ((k1115 (n:=n1) H (((r1.hx Z5).hx X6).relock M) (by omega) (by omega) ((f.on Y6).held hM (fun b hb => by simp at hb;omega))).mono ?_)
 rintro v h7 ⟨X7,u5,u6,rfl,rw_,_,_⟩
 replace X7:=X7.relock
 replace rw_:=rw_.relock h6.lock
 generalize h7.withLock h6.lock = h7 at *
 have Y7:=Y6.trans X7
 refine WOL.cl3 rfl rfl rfl rfl ((k1137 (n:=n2) (n':=n1) (a:=a) (b:=b) H (rv.hx X7) rw_ hL2 hS2 hL hS (f.on Y7)).mono ?_)
 rintro v h8 ⟨rfl,X8⟩
 have Z58:=(X6.trans X7).trans X8
 have Z8:=Z5.trans Z58
 have Y8:=X0.trans Z8
 replace A3:=A3.hx Z58;replace A4:=A4.hx Z58;replace C7:=C7.hx Z58
 refine WOL.mv rfl <| WOL.ex rfl rfl <| WOL.ex rfl rfl <| WOL.as rfl <| WOL.as rfl <| WOL.nil <| keep [(2,_),(3,_),(4,_),(7,_),(8,_),(9,_),(10,_)] ⟨rfl,rfl,rfl,rfl,rfl,rfl,rfl,trivial⟩ ?_
 -- the errors
 refine WL.sr <| WOL.ld rfl (load_row tp1112 A3 rfl (Nat.le_of_ble_eq_true rfl)) <| WOL.ix rfl rfl ix1115_0 <| WOL.ld rfl (load_row tp1114 A4 (l:=[zi n1,v1,v2]) rfl (Nat.le_of_ble_eq_true rfl)) ?_
 refine WOL.lk1 rfl rfl fun M => ((k1122 H a b _).mono ?_)
 rintro v h9 ⟨rfl,X9⟩
 replace X9:=X9.relock
 generalize h9.withLock h8.lock = h9 at *
 have Y9:=Y8.trans X9
 refine WOL.cl1 rfl rfl ((k1117 (n:=n1) H ((r1.hx Z8).hx X9) (by omega) (by omega) (f.on Y9)).mono ?_)
 rintro v h10 ⟨rfl,X10⟩
 refine WOL.bsl rfl u29 tp3 (by decide) (by decide) (by decide) (filled_ints _ _) fun h11 N11 => WOL.cl1 rfl rfl ((k1118 H (l:=[_,_]) N11.at_ (by simp)).mono ?_)
 rintro v h11 ⟨rfl,rfl⟩
 refine WOL.as rfl <| WOL.nil <| keep [(2,_),(3,_),(4,_),(7,_),(8,_),(9,_),(10,_),(11,_)] ⟨rfl,rfl,rfl,rfl,rfl,rfl,rfl,rfl,trivial⟩ ?_
 have W1:=(X9.trans X10).trans N11.hx
 replace A3:=A3.hx W1;replace A4:=A4.hx W1;replace C7:=C7.hx W1
 have Z11:=Z8.trans W1
 have Y11:=X0.trans Z11
 have y11:=Y11.next
 have z11:=Z11.next
 refine WL.sr <| WOL.ld rfl (load_row tp1112 A3 rfl (Nat.le_of_ble_eq_true rfl)) <| WOL.ix rfl rfl ix1115_1 <| WOL.ld rfl (load_row tp1114 A4 (l:=[zi n2,w1,w2]) rfl (Nat.le_of_ble_eq_true rfl)) <| WOL.ix rfl rfl ix1115_0 <| WOL.ld rfl (load_row tp1114 A4 (l:=[zi n1,v1,v2]) rfl (Nat.le_of_ble_eq_true rfl)) ?_
 refine WOL.lk1 rfl rfl fun M => ((k1122 H a b _).mono ?_)
 rintro v h12 ⟨rfl,X12⟩
 replace X12:=X12.relock
 generalize h12.withLock h11.lock = h12 at *
 have Y12:=Y11.trans X12
 have y12:=X12.next
 refine WOL.lq1 [c4] rfl rfl rfl fun M hM => ((k1117 (n:=n2) H (((r2.hx Z11).hx X12).relock M) (by omega) (by omega) ((f.on Y12).held hM (fun b hb => by simp at hb;omega))).mono ?_)
 rintro v h13 ⟨rfl,X13⟩
 replace X13:=X13.relock
 generalize h13.withLock h12.lock = h13 at *
 have Y13:=Y12.trans X13
 refine WOL.cl1 rfl rfl ((k1117 (n:=n1) H (((r1.hx Z11).hx X12).hx X13) (by omega) (by omega) (f.on Y13)).mono ?_)
 rintro v h14 ⟨rfl,X14⟩
 refine WOL.bsl rfl u29 tp3 (by decide) (by decide) (by decide) (filled_ints3 _ _ _) fun h15 N15 => WOL.cl1 rfl rfl ((k1118 H (l:=[_,_,_]) N15.at_ (by simp)).mono ?_)
 rintro v h15 ⟨rfl,rfl⟩
 refine WOL.as rfl <| WOL.nil <| keep [(2,_),(3,_),(4,_),(7,_),(8,_),(9,_),(10,_),(11,_),(12,_)] ⟨rfl,rfl,rfl,rfl,rfl,rfl,rfl,rfl,rfl,trivial⟩ ?_
 have W2:=((X12.trans X13).trans X14).trans N15.hx
 replace A3:=A3.hx W2;replace A4:=A4.hx W2;replace C7:=C7.hx W2
 have Z15:=Z11.trans W2
 have Y15:=X0.trans Z15
 have r1':=r1.hx Z15
 have r2':=r2.hx Z15
 have s':=s.hx Z15
 by_cases e0:firstNZ [chordE a b,traceE n1 L1 S1] = 0
 ·have all:=firstNZ_zero e0
  obtain ⟨p1,p2,p3,p4⟩:=chord_ok (all (chordE a b) (by simp))
  have hE:endE a b X = if firstNZ [chordE a b,traceE n1 L1 S1] ≠ 0 then firstNZ [chordE a b,traceE n1 L1 S1] else endE a b X:=by rw [if_neg (fun c => c e0)]
  obtain ⟨p,rfl⟩:∃ p:Nat,a = p:=⟨a.toNat,by omega⟩
  obtain ⟨q,rfl⟩:∃ q:Nat,b = q:=⟨b.toNat,by omega⟩
  refine WL.seq <| WL.sr <| WOL.mv rfl <| WOL.bt rfl rfl rfl (beq_iff_eq.2 e0) <| WOL.nil <| WL.yes rfl <| WL.reg <| WOL.ld rfl (load_row tp1112 A3 rfl (Nat.le_of_ble_eq_true rfl)) <| WOL.mv rfl <| WOL.cl2 rfl rfl rfl ((k1138 (p:=p) (q:=q) H s' (by omega) (by omega) (by omega) (by omega) (by omega)).mono ?_)
  rintro v g ⟨rfl,G⟩
  exact WOL.as rfl <| WOL.nil <| kto (k1103a H K (Y15.trans G) f (A3.hx G) (A4.hx G) (r1'.hx G) (r2'.hx G) (s'.hx G) hL hS hL2 hS2 lX hE rfl (C7.hx G)) ⟨rfl,rfl,rfl,rfl,rfl,rfl,rfl,rfl,rfl,trivial⟩
 ·refine WL.seq <| WL.sr <| WOL.mv rfl <| WOL.bf rfl rfl rfl (beq_eq_false_iff_ne.2 e0) <| WOL.nil <| WL.no rfl <| WL.skip ?_
  exact kto (k1103a H K Y15 f A3 A4 r1' r2' s' hL hS hL2 hS2 lX (by rw [if_pos e0]) rfl C7) ⟨rfl,rfl,rfl,rfl,rfl,rfl,rfl,rfl,rfl,trivial⟩
set_option maxHeartbeats 4000000 in
set_option maxRecDepth 10000 in
theorem k1103 (H:Has tp) (K:Awk tp) (r1:TrcH h v1 v2 L1 S1) (r2:TrcH h w1 w2 L2 S2) (s:SlL encI 1 h w X) (f:Free0 h.next h) :
    CallW Tryz.prog tp (.func (.func 6) #[] #[]) #[.agg #[zi a,zi b],.agg #[zi n1,v1,v2,zi n2,w1,w2],w] h fun v _ => v = .bool true:=by
  obtain ⟨b1,k1,e1,_⟩:=id r1.l
  obtain ⟨b2,k2,e2,_⟩:=id r1.s
  obtain ⟨b3,k3,e3,_⟩:=id r2.l
  obtain ⟨b4,k4,e4,_⟩:=id r2.s
  obtain ⟨b5,k5,e5,_⟩:=id s
  subst e1 e2 e3 e4 e5
  refine CallW.fnL (H.fn 6 f1103 rfl rfl) ?_
  refine WL.sr <| WOL.box rfl fun h1 N1 => WOL.box rfl fun h2 N2 => WOL.as rfl <| WOL.nil <| keep [(2,_),(3,_),(4,_)] ⟨rfl,rfl,rfl,trivial⟩ ?_
  have q1:=N1.next
  have A3:At h2 h.next (.cells [zi a,zi b] true true 23):=N1.at_.hx N2.hx
  have A4:At h2 h1.next (.cells [zi n1,.slice b1 L1.length k1,.slice b2 S1.length k2,zi n2,.slice b3 L2.length k3,.slice b4 S2.length k4] true true 28):=N2.at_
  have X2:=N1.hx.trans N2.hx
  refine WL.seq <| WL.sr <| WOL.ix rfl rfl ix1115_0 <| WOL.ld rfl (load_row tp1114 A4 (l:=[zi n1,.slice b1 L1.length k1,.slice b2 S1.length k2]) rfl (Nat.le_of_ble_eq_true rfl)) <| WOL.cl1 rfl rfl ((k1112 (n:=n1) H (r1.hx X2)).mono ?_)
  rintro v h3 ⟨rfl,X3⟩
  cases hb:shortB2 L1.length S1.length with
  | false =>
    refine WOL.nt rfl <| WOL.mv rfl <| WOL.skp (b:=true) rfl rfl <| WOL.skp (b:=true) rfl rfl <| WOL.skp (b:=true) rfl rfl <| WOL.skp (b:=true) rfl rfl <| WOL.pkt rfl rfl <| WOL.mv rfl <| WOL.skp (b:=true) rfl rfl <| WOL.skp (b:=true) rfl rfl <| WOL.skp (b:=true) rfl rfl <| WOL.pkt rfl rfl <| WOL.nil ?_
    refine WL.yes rfl <| WL.sr <| WOL.cl0 rfl ((k11t K _).mono ?_)
    rintro v h4 ⟨rfl,rfl⟩
    exact WOL.as rfl <| WOL.nil <| WL.ret (WL.end_ rfl rfl)
  | true =>
    refine WOL.nt rfl <| WOL.mv rfl <| WOL.now (b:=false) rfl rfl <| WOL.ix rfl rfl ix1115_1 <| WOL.now (b:=false) rfl rfl <| WOL.ld rfl (load_row tp1114 (A4.hx X3) (l:=[zi n2,.slice b3 L2.length k3,.slice b4 S2.length k4]) rfl (Nat.le_of_ble_eq_true rfl)) <| WOL.now (b:=false) rfl rfl <| WOL.cl1 rfl rfl ((k1112 (n:=n2) H (r2.hx (X2.trans X3))).mono ?_)
    rintro v h4 ⟨rfl,X4⟩
    cases hc:shortB2 L2.length S2.length with
    | false =>
      refine WOL.now (b:=false) rfl rfl <| WOL.nt rfl <| WOL.pkf rfl rfl <| WOL.mv rfl <| WOL.skp (b:=true) rfl rfl <| WOL.skp (b:=true) rfl rfl <| WOL.skp (b:=true) rfl rfl <| WOL.pkt rfl rfl <| WOL.nil ?_
      refine WL.yes rfl <| WL.sr <| WOL.cl0 rfl ((k11t K _).mono ?_)
      rintro v h5 ⟨rfl,rfl⟩
      exact WOL.as rfl <| WOL.nil <| WL.ret (WL.end_ rfl rfl)
    | true =>
      obtain ⟨p1,p2⟩:=shortB2_le hb
      obtain ⟨p3,p4⟩:=shortB2_le hc
      have Y:=(X2.trans X3).trans X4
      refine WOL.now (b:=false) rfl rfl <| WOL.nt rfl <| WOL.pkf rfl rfl <| WOL.mv rfl <| WOL.now (b:=false) rfl rfl <| WOL.mv rfl <| WOL.now (b:=false) rfl rfl <| WOL.len rfl (s.hx Y) u29 <| WOL.now (b:=false) rfl rfl ?_
      by_cases lX:(X.length:Int) > 80
      · refine WOL.bt rfl rfl rfl (decide_eq_true lX) <| WOL.pkf rfl rfl <| WOL.nil ?_
        refine WL.yes rfl <| WL.sr <| WOL.cl0 rfl ((k11t K _).mono ?_)
        rintro v h5 ⟨rfl,rfl⟩
        exact WOL.as rfl <| WOL.nil <| WL.ret (WL.end_ rfl rfl)
      · refine WOL.bf rfl rfl rfl (decide_eq_false lX) <| WOL.pkf rfl rfl <| WOL.nil <| WL.no rfl <| WL.skip ?_
        exact kto (k1103d H K Y f (Nat.le_refl _) (by omega) (A3.hx (X3.trans X4)) (A4.hx (X3.trans X4)) (r1.hx Y) (r2.hx Y) (s.hx Y) p1 p2 p3 p4 (by omega)) ⟨rfl,rfl,rfl,trivial⟩
end
theorem val_ints {v:Value}:valOf Tryz.prog 24 [v] = v:=by unfold valOf;rw [Tryz.underlying24];rfl
set_option maxRecDepth 100000 in
theorem law1103:Law tpE 6 5 [23,28,24]:=by
 intro h us f ha
 obtain ⟨x0,x1,x2,rfl,⟨p0,y0,e0⟩,⟨p1,y1,e1⟩,⟨p2,y2,e2⟩⟩:=args3 ha
 have q0:=tyg_struct Tryz.underlying23 y0
 have q1:=tyg_array Tryz.underlying28 y1
 rw [val_agg (.inl ⟨_,Tryz.underlying23⟩)] at e0
 rw [val_agg (.inr ⟨_,_,Tryz.underlying28⟩)] at e1
 obtain ⟨w,X,rfl,s,_⟩:=tyg_slice eI u29 (fun p y => by obtain ⟨b,e,_⟩:=ty_int y;exact ⟨b,e⟩) y2
 rw [val_ints] at e2
 obtain ⟨c0,d0,rfl,_,t0,c1,d1,rfl,_,t1,rfl⟩:=q0
 obtain ⟨a,rfl,_⟩:=ty_int t0
 obtain ⟨b,rfl,_⟩:=ty_int t1
 obtain ⟨c2,d2,rfl,_,t2,c3,d3,rfl,_,t3,rfl⟩:=q1
 obtain ⟨n1,v1,v2,L1,S1,rfl,r1⟩:=ty_trc t2
 obtain ⟨n2,w1,w2,L2,S2,rfl,r2⟩:=ty_trc t3
 subst e0 e1 e2
 exact k1103 hasE awkE r1 r2 s f
end Go.Tidy
