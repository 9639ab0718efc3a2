/- A part of the proof. -/
import Derived.Test.YtadfeepajmngiaaGreatDoorPa7
set_option linter.all false
namespace Go.Tidy
open Go Go.Proofs Tab
variable {tp:TProg}
section
variable {P:Program} {h:TH} {α:Type} {enc:α→List Value} {n0 n:Nat} {v:Value} {e:TypeId} {l:List α} {z:List Value} {row:Bool}
theorem own_pushGQ {sT:TypeId} {v2:Value} {x:α} (E:Enc enc n) (hu:P.underlying sT=some (.slice e)) (he:Tp P e n z row) (o:OwnF enc n0 h v e l) (s2:SlC h v2 n 1 (enc x)) (f:Free0 n0 h) (hl:l.length < 1000000) (hn0:n0≤h.next) :
  ∃ v' h',appendT P #[sT,sT] #[v,v2] h=some (v',h')∧OwnF enc n0 h' v' e (l ++ [x])∧(∀ h0,HX h0 h→h0.next≤n0→HX h0 h')∧(∀ c y,bl v≠some c→At h c y→At h' c y)∧bl v'=some h.next∧h.next≤h'.next:=by
 rcases o with o | ⟨b,rfl,h2,h3⟩
 ·obtain ⟨v',h',q1,q2,q3,q4,q6,q5⟩:=own_push E hu he o s2 f hl hn0
  exact ⟨v',h',q1,.inl q2,q3,q4,q6,q5⟩
 ·refine ⟨_,_,append_fix hu he h3 (E.cat_len l) s2 (by decide) (by omega) (E.one x),.inl (.inr ⟨by simp,h.next,?_,hn0,?_⟩),fun h0 hx hb=>hx.trans (HX.new _ _),fun c y hc ha=>ha.hx (HX.new _ _),rfl,Nat.le_succ _⟩
  ·rw [List.length_append];rfl
  ·rw [cat_append,cat_one]
   exact At.new h _
end
theorem lastR_at {α:Type} {l:List α} {g:α→Int} {a:α} {x:Int} (h:l[l.length - 1]?=some a):lastR (l.map g) x=decide (x≤g a):=by
 have hl:=(List.getElem?_eq_some_iff.1 h).1
 unfold lastR
 rw [List.length_map,map_getD0 h,decide_eq_true (show 0 < l.length by omega)]
 rfl
section
variable {h:TH} {v v1 v2:Value} {s:ByteArray} {M:List (Int × Int)} {A:List (Int × ByteArray)}
set_option maxHeartbeats 8000000 in
set_option maxRecDepth 10000 in
theorem k1614 (H:Has tp) (p:Int × Int) (r:SecR h v1 v2 M A) (lM:M.length≤100000) (lA:A.length≤100000) (f:Free0 h.next h):CallW Tryz.prog tp (.func (.func 49) #[] #[]) #[secV s v1 v2,.agg #[zi p.1,zi p.2]] h fun u h'=>HX h h'∧∃ w1 w2,u=.tuple #[secV (adS (adR M p) s M A p).1 w1 w2,zi (adR M p)]∧SecF h.next h' w1 w2 (adS (adR M p) s M A p).2.1 (adS (adR M p) s M A p).2.2:=by
 unfold adR
 refine CallW.fnL (H.fn 49 f1614 rfl rfl) ?_
 obtain ⟨b1,k1,rfl⟩:=r.m.form
 obtain ⟨b2,k2,rfl⟩:=r.a.form
 refine WL.sr<|WOL.box rfl fun h1 N1=>WOL.box rfl fun h2 N2=>WOL.al tp1654 fun h3 N3=>WOL.as rfl<|WOL.nil<|keep [(2,_),(3,_),(4,_)] ⟨rfl,rfl,rfl,trivial⟩ ?_
 have n1:=N1.next
 have n2:=N2.next
 have n3:=N3.next
 have A2:At h3 h.next (.cells [.string s,.slice b1 M.length k1,.slice b2 A.length k2] true true 82):=(N1.at_.hx N2.hx).hx N3.hx
 have A3:At h3 h1.next (.cells [zi p.1,zi p.2] true true 94):=N2.at_.hx N3.hx
 have A4:=N3.at_
 have X3:=(N1.hx.trans N2.hx).trans N3.hx
 refine WL.sr<|WOL.fa rfl (fa_of fo1654_1)<|WOL.ld rfl (load_one tp1651 A2 rfl)<|WOL.len rfl (r.hx X3).m u1651<|WOL.as rfl<|WOL.nil<|keep [(2,_),(3,_),(4,_),(6,_)] ⟨rfl,rfl,rfl,rfl,trivial⟩ ?_
 have fin:∀ a,Kn [(2,ptr h.next),(3,ptr h1.next),(4,ptr h2.next)] a→W Tryz.prog tp false (.seq (.reg r1614_6) (.seq (.reg r1614_7) (.seq (.reg r1614_8) .ret))) a h3 (Fin Tryz.prog [.cell 4 82,.tmp 5] fun u h'=>HX h h'∧∃ w1 w2,u=.tuple #[secV (adS 0 s M A p).1 w1 w2,zi 0]∧SecF h.next h' w1 w2 (adS 0 s M A p).2.1 (adS 0 s M A p).2.2):=by
  refine WL.sr<|WOL.ld rfl (load_row tp1654 A2 rfl (Nat.le_of_ble_eq_true rfl))<|WOL.cl1 rfl rfl ((k1636 (s:=s) H (r.hx X3) lM lA (f.on X3)).mono ?_)
  rintro u g1 ⟨W1,u1,u2,rfl,q1,q2⟩
  have w1:=W1.next
  have V1:=X3.trans W1
  obtain ⟨c1,e1⟩:=q1.form
  obtain ⟨c2,e2⟩:=q2.form
  refine WOL.al tp1654 fun g2 M2=>WOL.sto (vs:=[.string s,u1,u2]) rfl rfl tp1654 M2.at_ rfl rfl (Nat.le_of_ble_eq_true rfl) (by rw [e1,e2];rfl) ((f.on V1).hx M2.hx) (Nat.le_refl _) fun g3 P3=>WOL.nil<|keep [(2,_),(3,_),(4,_),(7,_)] ⟨rfl,rfl,rfl,rfl,trivial⟩ ?_
  have m2':=M2.next
  have m3:=P3.next
  have W3:HX g1 g3:=P3.hx _ M2.hx (Nat.le_refl _)
  have V3:=V1.trans W3
  have A7:At g3 g1.next (.cells [.string s,u1,u2] true true 82):=P3.at_
  have l1:=fun z (hz:bl u1=some z)=>q1.lt hz
  have l2:=fun z (hz:bl u2=some z)=>q2.lt hz
  replace q1:=q1.hx W3
  replace q2:=q2.hx W3
  clear P3
  refine WL.sr<|WOL.fa rfl (fa_of fo1654_1)<|WOL.ld rfl (load_one tp1651 A7 rfl)<|WOL.ld rfl (load_row tp1666 ((A3.hx W1).hx W3) rfl (Nat.le_of_ble_eq_true rfl))<|WOL.bs2 rfl u1651 tp1666 fun g4 M4=>?_
  have m4:=M4.next
  have ne:=ownF_ne (q1.hx M4.hx) (q2.hx M4.hx)
  obtain ⟨w',g5,ap,O5,x5,y5,b5,s5⟩:=own_pushGQ (sT:=79) (x:=(p.1,p.2)) eS u1651 tp1666 (q1.hx M4.hx) (SlC.own (sz:=2) (m:=1) rfl M4.at_) ((f.hx (V3.trans M4.hx)).up (by omega)) (by omega) (by omega)
  have O6:=(q2.hx M4.hx).keepF fun z x hz a=>y5 z x (fun e=>ne z e hz) a
  have A7':=y5 _ _ (fun e=>by have:=l1 _ e;omega) (A7.hx M4.hx)
  have A4':=y5 _ _ (fun e=>by have:=l1 _ e;omega) (((A4.hx W1).hx W3).hx M4.hx)
  have Xi:=x5 _ (V3.trans M4.hx) (by have:=X3.next;omega)
  obtain ⟨z5,e5⟩:=OwnF.form O5
  refine WOL.ap rfl rfl ap<|WOL.fa rfl (fa_of fo1654_1)<|WOL.sto (vs:=[w']) rfl rfl tp1651 A7' (by rw [e5];rfl) rfl (Nat.le_of_ble_eq_true rfl) (by rw [e5];rfl) (f.hx Xi) (by have:=V1.next;omega) fun g6 P6=>WOL.nil<|keep [(2,_),(3,_),(4,_),(7,_)] ⟨rfl,rfl,rfl,rfl,trivial⟩ ?_
  have Xj:=P6.hx _ Xi (by have:=V1.next;omega)
  have A7'':At g6 g1.next (.cells [.string s,w',u2] true true 82):=P6.at_
  have g6n:=P6.next
  refine WL.sr<|WOL.ld rfl (load_row tp1654 A7'' rfl (Nat.le_of_ble_eq_true rfl))<|WOL.sto (vs:=[.string s,w',u2]) rfl rfl tp1654 (P6.oth _ _ (by omega) A4') rfl rfl (Nat.le_of_ble_eq_true rfl) (by rw [e5,e2];rfl) (f.hx Xj) (by omega) fun g7 P7=>WOL.as rfl<|WOL.nil ?_
  have O5':=(O5.keepF fun z x hz a=>P6.oth _ _ (by rw [b5] at hz;injection hz with hz;omega) a).keepF fun z x hz a=>P7.oth _ _ (by rw [b5] at hz;injection hz with hz;omega) a
  have O6':=(O6.keepF fun z x hz a=>P6.oth _ _ (by have:=l2 z hz;omega) a).keepF fun z x hz a=>P7.oth _ _ (by have:=l2 z hz;omega) a
  exact WL.ret (WL.endC1 rfl rfl (load_row tp1654 P7.at_ rfl (Nat.le_of_ble_eq_true rfl)) ⟨P7.hx _ Xj (by omega),_,_,rfl,⟨⟨O5'.sl eS,O6'.sl eA⟩,fun z hz=>(by have:=O5'.lt hz;omega),fun z hz=>(by have:=O6'.lt hz;omega)⟩⟩)
 by_cases cm:M.length=32
 ·rw [decide_eq_true cm]
  exact WL.seq<|WL.sr<|WOL.mv rfl<|WOL.bt rfl rfl rfl (beq_iff_eq.2 (by omega))<|WOL.nil<|WL.yes rfl<|WL.sr<|WOL.bd rfl bd1654z<|WOL.sto (vs:=[.string ⟨#[]⟩,.slice none 0 0,.slice none 0 0]) rfl rfl tp1654 A4 rfl rfl (Nat.le_of_ble_eq_true rfl) rfl (f.hx X3) (by omega) fun i1 M1=>WOL.as rfl<|WOL.nil<|WL.ret (WL.endC1 rfl rfl (load_row tp1654 M1.at_ rfl (Nat.le_of_ble_eq_true rfl)) ⟨M1.hx _ X3 (by omega),_,_,rfl,SecF.nil⟩)
 rw [decide_eq_false cm]
 refine WL.seq<|WL.sr<|WOL.mv rfl<|WOL.bf rfl rfl rfl (beq_eq_false_iff_ne.2 (by omega))<|WOL.nil<|WL.no rfl<|WL.skip<|keep [(2,_),(3,_),(4,_),(6,_)] ⟨rfl,rfl,rfl,rfl,trivial⟩ ?_
 by_cases c0:M.length=0
 ·have eR:lastR (M.map Prod.fst) p.1=false:=by unfold lastR;rw [List.length_map,decide_eq_false (show ¬ 0 < M.length by omega)];rfl
  rw [eR]
  refine WL.seq<|WL.sr<|WOL.mv rfl<|WOL.bf rfl rfl rfl (decide_eq_false (by omega))<|WOL.mv rfl<|WOL.skp (b:=false) rfl rfl<|WOL.skp (b:=false) rfl rfl<|WOL.skp (b:=false) rfl rfl<|WOL.skp (b:=false) rfl rfl<|WOL.skp (b:=false) rfl rfl<|WOL.skp (b:=false) rfl rfl<|WOL.skp (b:=false) rfl rfl<|WOL.skp (b:=false) rfl rfl<|WOL.skp (b:=false) rfl rfl<|WOL.skp (b:=false) rfl rfl<|WOL.pkf rfl rfl<|WOL.nil<|WL.no rfl<|WL.skip<|keep [(2,_),(3,_),(4,_)] ⟨rfl,rfl,rfl,trivial⟩ ?_
  exact kto fin ⟨rfl,rfl,rfl,trivial⟩
 ·have hq:M[M.length - 1]?=some M[M.length - 1]:=List.getElem?_eq_getElem (by omega)
  rw [lastR_at (g:=Prod.fst) hq]
  obtain ⟨b,o,cc,fix,wr,el,g1,g2,g3,g4,g5⟩:=(r.hx X3).m.at eS u1651 tp1666 hq .i64
  generalize M[M.length - 1]=q at *
  refine WL.seq<|WL.sr<|WOL.mv rfl<|WOL.bt rfl rfl rfl (decide_eq_true (by omega))<|WOL.mv rfl<|WOL.now (b:=true) rfl rfl<|WOL.fa rfl (fa_of fo1666_0)<|WOL.now (b:=true) rfl rfl<|WOL.ld rfl (load_one tp3 A3 rfl)<|WOL.now (b:=true) rfl rfl<|WOL.fa rfl (fa_of fo1654_1)<|WOL.now (b:=true) rfl rfl<|WOL.ld rfl (load_one tp1651 A2 rfl)<|WOL.now (b:=true) rfl rfl<|WOL.mv rfl<|WOL.now (b:=true) rfl rfl<|WOL.sub rfl rfl (by omega) (by omega) ?_
  rw [show (M.length:Int) - 1=((M.length - 1:Nat):Int) by omega]
  refine WOL.now (b:=true) rfl rfl<|WOL.ix rfl rfl g1<|WOL.now (b:=true) rfl rfl<|WOL.fa rfl (fa_of fo1666_0)<|WOL.now (b:=true) rfl rfl<|WOL.ld rfl (load_one tp3 g2 (by have:=g5 0 (by decide);rwa [Nat.add_zero] at this))<|WOL.now (b:=true) rfl rfl ?_
  by_cases c1:p.1≤q.1
  ·rw [decide_eq_true c1]
   exact WOL.bt rfl rfl rfl (decide_eq_true c1)<|WOL.pkt rfl rfl<|WOL.nil<|WL.yes rfl<|WL.sr<|WOL.bd rfl bd1654z<|WOL.sto (vs:=[.string ⟨#[]⟩,.slice none 0 0,.slice none 0 0]) rfl rfl tp1654 A4 rfl rfl (Nat.le_of_ble_eq_true rfl) rfl (f.hx X3) (by omega) fun i1 M1=>WOL.as rfl<|WOL.nil<|WL.ret (WL.endC1 rfl rfl (load_row tp1654 M1.at_ rfl (Nat.le_of_ble_eq_true rfl)) ⟨M1.hx _ X3 (by omega),_,_,rfl,SecF.nil⟩)
  ·rw [decide_eq_false c1]
   refine WOL.bf rfl rfl rfl (decide_eq_false c1)<|WOL.pkt rfl rfl<|WOL.nil<|WL.no rfl<|WL.skip<|keep [(2,_),(3,_),(4,_)] ⟨rfl,rfl,rfl,trivial⟩ ?_
   exact kto fin ⟨rfl,rfl,rfl,trivial⟩
set_option maxHeartbeats 8000000 in
set_option maxRecDepth 10000 in
theorem k1615 (H:Has tp) (p:Int × ByteArray) (r:SecR h v1 v2 M A) (lM:M.length≤100000) (lA:A.length≤100000) (f:Free0 h.next h):CallW Tryz.prog tp (.func (.func 50) #[] #[]) #[secV s v1 v2,.agg #[zi p.1,.string p.2]] h fun u h'=>HX h h'∧∃ w1 w2,u=.tuple #[secV (doS (doR M A p) s M A p).1 w1 w2,zi (doR M A p)]∧SecF h.next h' w1 w2 (doS (doR M A p) s M A p).2.1 (doS (doR M A p) s M A p).2.2:=by
  unfold doR
  refine CallW.fnL (H.fn 50 f1615 rfl rfl) ?_
  obtain ⟨b1,k1,rfl⟩:=r.m.form
  obtain ⟨b2,k2,rfl⟩:=r.a.form
  refine WL.sr<|WOL.box rfl fun h1 N1=>WOL.box rfl fun h2 N2=>WOL.al tp1654 fun h3 N3=>WOL.as rfl<|WOL.nil<|keep [(2,_),(3,_),(4,_)] ⟨rfl,rfl,rfl,trivial⟩ ?_
  have n1:=N1.next
  have n2:=N2.next
  have n3:=N3.next
  have A2:At h3 h.next (.cells [.string s,.slice b1 M.length k1,.slice b2 A.length k2] true true 82):=(N1.at_.hx N2.hx).hx N3.hx
  have A3:At h3 h1.next (.cells [zi p.1,.string p.2] true true 96):=N2.at_.hx N3.hx
  have A4:=N3.at_
  have X3:=(N1.hx.trans N2.hx).trans N3.hx
  refine WL.sr<|WOL.fa rfl (fa_of fo1654_2)<|WOL.ld rfl (load_one tp1652 A2 rfl)<|WOL.len rfl (r.hx X3).a u1652<|WOL.as rfl<|WOL.nil<|keep [(2,_),(3,_),(4,_),(6,_)] ⟨rfl,rfl,rfl,rfl,trivial⟩ ?_
  have fin:∀ a,Kn [(2,ptr h.next),(3,ptr h1.next),(4,ptr h2.next)] a→W Tryz.prog tp false (.seq (.reg r1615_9) (.seq (.reg r1615_10) (.seq (.reg r1615_11) .ret))) a h3 (Fin Tryz.prog [.cell 4 82,.tmp 5] fun u h'=>HX h h'∧∃ w1 w2,u=.tuple #[secV (doS 0 s M A p).1 w1 w2,zi 0]∧SecF h.next h' w1 w2 (doS 0 s M A p).2.1 (doS 0 s M A p).2.2):=by
    refine WL.sr<|WOL.ld rfl (load_row tp1654 A2 rfl (Nat.le_of_ble_eq_true rfl))<|WOL.cl1 rfl rfl ((k1636 (s:=s) H (r.hx X3) lM lA (f.on X3)).mono ?_)
    rintro u g1 ⟨W1,u1,u2,rfl,q1,q2⟩
    have w1:=W1.next
    have V1:=X3.trans W1
    obtain ⟨c1,e1⟩:=q1.form
    obtain ⟨c2,e2⟩:=q2.form
    refine WOL.al tp1654 fun g2 M2=>WOL.sto (vs:=[.string s,u1,u2]) rfl rfl tp1654 M2.at_ rfl rfl (Nat.le_of_ble_eq_true rfl) (by rw [e1,e2];rfl) ((f.on V1).hx M2.hx) (Nat.le_refl _) fun g3 P3=>WOL.nil<|keep [(2,_),(3,_),(4,_),(8,_)] ⟨rfl,rfl,rfl,rfl,trivial⟩ ?_
    have m2':=M2.next
    have m3:=P3.next
    have W3:HX g1 g3:=P3.hx _ M2.hx (Nat.le_refl _)
    have V3:=V1.trans W3
    have A7:At g3 g1.next (.cells [.string s,u1,u2] true true 82):=P3.at_
    have l1:=fun z (hz:bl u1=some z)=>q1.lt hz
    have l2:=fun z (hz:bl u2=some z)=>q2.lt hz
    replace q1:=q1.hx W3
    replace q2:=q2.hx W3
    clear P3
    refine WL.sr<|WOL.fa rfl (fa_of fo1654_2)<|WOL.ld rfl (load_one tp1652 A7 rfl)<|WOL.ld rfl (load_row tp1668 ((A3.hx W1).hx W3) rfl (Nat.le_of_ble_eq_true rfl))<|WOL.bs2 rfl u1652 tp1668 fun g4 M4=>?_
    have m4:=M4.next
    have ne:=ownF_ne (q1.hx M4.hx) (q2.hx M4.hx)
    obtain ⟨w',g5,ap,O5,x5,y5,b5,s5⟩:=own_pushGQ (sT:=80) (x:=(p.1,p.2)) eA u1652 tp1668 (q2.hx M4.hx) (SlC.own (sz:=2) (m:=1) rfl M4.at_) ((f.hx (V3.trans M4.hx)).up (by omega)) (by omega) (by omega)
    have O6:=(q1.hx M4.hx).keepF fun z x hz a=>y5 z x (fun e=>ne z hz e) a
    have A7':=y5 _ _ (fun e=>by have:=l2 _ e;omega) (A7.hx M4.hx)
    have A4':=y5 _ _ (fun e=>by have:=l2 _ e;omega) (((A4.hx W1).hx W3).hx M4.hx)
    have Xi:=x5 _ (V3.trans M4.hx) (by have:=X3.next;omega)
    obtain ⟨z5,e5⟩:=OwnF.form O5
    refine WOL.ap rfl rfl ap<|WOL.fa rfl (fa_of fo1654_2)<|WOL.sto (vs:=[w']) rfl rfl tp1652 A7' (by rw [e5];rfl) rfl (Nat.le_of_ble_eq_true rfl) (by rw [e5];rfl) (f.hx Xi) (by have:=V1.next;omega) fun g6 P6=>WOL.nil<|keep [(2,_),(3,_),(4,_),(8,_)] ⟨rfl,rfl,rfl,rfl,trivial⟩ ?_
    have Xj:=P6.hx _ Xi (by have:=V1.next;omega)
    have A7'':At g6 g1.next (.cells [.string s,u1,w'] true true 82):=P6.at_
    have g6n:=P6.next
    refine WL.sr<|WOL.ld rfl (load_row tp1654 A7'' rfl (Nat.le_of_ble_eq_true rfl))<|WOL.sto (vs:=[.string s,u1,w']) rfl rfl tp1654 (P6.oth _ _ (by omega) A4') rfl rfl (Nat.le_of_ble_eq_true rfl) (by rw [e5,e1];rfl) (f.hx Xj) (by omega) fun g7 P7=>WOL.as rfl<|WOL.nil ?_
    have O5':=(O5.keepF fun z x hz a=>P6.oth _ _ (by rw [b5] at hz;injection hz with hz;omega) a).keepF fun z x hz a=>P7.oth _ _ (by rw [b5] at hz;injection hz with hz;omega) a
    have O6':=(O6.keepF fun z x hz a=>P6.oth _ _ (by have:=l1 z hz;omega) a).keepF fun z x hz a=>P7.oth _ _ (by have:=l1 z hz;omega) a
    exact WL.ret (WL.endC1 rfl rfl (load_row tp1654 P7.at_ rfl (Nat.le_of_ble_eq_true rfl)) ⟨P7.hx _ Xj (by omega),_,_,rfl,⟨⟨O6'.sl eS,O5'.sl eA⟩,fun z hz=>(by have:=O6'.lt hz;omega),fun z hz=>(by have:=O5'.lt hz;omega)⟩⟩)
  by_cases cm:A.length=16
  · rw [decide_eq_true cm]
    exact WL.seq<|WL.sr<|WOL.mv rfl<|WOL.bt rfl rfl rfl (beq_iff_eq.2 (by omega))<|WOL.nil<|WL.yes rfl<|WL.sr<|WOL.bd rfl bd1654z<|WOL.sto (vs:=[.string ⟨#[]⟩,.slice none 0 0,.slice none 0 0]) rfl rfl tp1654 A4 rfl rfl (Nat.le_of_ble_eq_true rfl) rfl (f.hx X3) (by omega) fun i1 M1=>WOL.as rfl<|WOL.nil<|WL.ret (WL.endC1 rfl rfl (load_row tp1654 M1.at_ rfl (Nat.le_of_ble_eq_true rfl)) ⟨M1.hx _ X3 (by omega),_,_,rfl,SecF.nil⟩)
  rw [decide_eq_false cm]
  refine WL.seq<|WL.sr<|WOL.mv rfl<|WOL.bf rfl rfl rfl (beq_eq_false_iff_ne.2 (by omega))<|WOL.nil<|WL.no rfl<|WL.skip<|keep [(2,_),(3,_),(4,_),(6,_)] ⟨rfl,rfl,rfl,rfl,trivial⟩ ?_
  have nxt:∀ a,Kn [(2,ptr h.next),(3,ptr h1.next),(4,ptr h2.next)] a→W Tryz.prog tp false (.seq (.seq (.reg r1615_6) (.seq (.reg r1615_7) (.cond (.tmp 46) (.seq (.reg r1615_8) .ret) .skip))) (.seq (.reg r1615_9) (.seq (.reg r1615_10) (.seq (.reg r1615_11) .ret)))) a h3 (Fin Tryz.prog [.cell 4 82,.tmp 5] fun u h'=>HX h h'∧∃ w1 w2,u=.tuple #[secV (doS (cond (lastR (M.map Prod.fst) p.1) 23 0) s M A p).1 w1 w2,zi (cond (lastR (M.map Prod.fst) p.1) 23 0)]∧SecF h.next h' w1 w2 (doS (cond (lastR (M.map Prod.fst) p.1) 23 0) s M A p).2.1 (doS (cond (lastR (M.map Prod.fst) p.1) 23 0) s M A p).2.2):=by
    refine WL.seq<|WL.sr<|WOL.fa rfl (fa_of fo1654_1)<|WOL.ld rfl (load_one tp1651 A2 rfl)<|WOL.len rfl (r.hx X3).m u1651<|WOL.as rfl<|WOL.nil<|keep [(2,_),(3,_),(4,_),(7,_)] ⟨rfl,rfl,rfl,rfl,trivial⟩ ?_
    by_cases c0:M.length=0
    · have eR:lastR (M.map Prod.fst) p.1=false:=by unfold lastR;rw [List.length_map,decide_eq_false (show ¬ 0 < M.length by omega)];rfl
      rw [eR]
      refine WL.sr<|WOL.mv rfl<|WOL.bf rfl rfl rfl (decide_eq_false (by omega))<|WOL.mv rfl<|WOL.skp (b:=false) rfl rfl<|WOL.skp (b:=false) rfl rfl<|WOL.skp (b:=false) rfl rfl<|WOL.skp (b:=false) rfl rfl<|WOL.skp (b:=false) rfl rfl<|WOL.skp (b:=false) rfl rfl<|WOL.skp (b:=false) rfl rfl<|WOL.skp (b:=false) rfl rfl<|WOL.skp (b:=false) rfl rfl<|WOL.skp (b:=false) rfl rfl<|WOL.pkf rfl rfl<|WOL.nil<|WL.no rfl<|WL.skip<|keep [(2,_),(3,_),(4,_)] ⟨rfl,rfl,rfl,trivial⟩ ?_
      exact kto fin ⟨rfl,rfl,rfl,trivial⟩
    · have hq:M[M.length - 1]?=some M[M.length - 1]:=List.getElem?_eq_getElem (by omega)
      rw [lastR_at (g:=Prod.fst) hq]
      obtain ⟨b,o,cc,fix,wr,el,g1,g2,g3,g4,g5⟩:=(r.hx X3).m.at eS u1651 tp1666 hq .i64
      generalize M[M.length - 1]=q at *
      refine WL.sr<|WOL.mv rfl<|WOL.bt rfl rfl rfl (decide_eq_true (by omega))<|WOL.mv rfl<|WOL.now (b:=true) rfl rfl<|WOL.fa rfl (fa_of fo1668_0)<|WOL.now (b:=true) rfl rfl<|WOL.ld rfl (load_one tp3 A3 rfl)<|WOL.now (b:=true) rfl rfl<|WOL.fa rfl (fa_of fo1654_1)<|WOL.now (b:=true) rfl rfl<|WOL.ld rfl (load_one tp1651 A2 rfl)<|WOL.now (b:=true) rfl rfl<|WOL.mv rfl<|WOL.now (b:=true) rfl rfl<|WOL.sub rfl rfl (by omega) (by omega) ?_
      rw [show (M.length:Int) - 1=((M.length - 1:Nat):Int) by omega]
      refine WOL.now (b:=true) rfl rfl<|WOL.ix rfl rfl g1<|WOL.now (b:=true) rfl rfl<|WOL.fa rfl (fa_of fo1666_0)<|WOL.now (b:=true) rfl rfl<|WOL.ld rfl (load_one tp3 g2 (by have:=g5 0 (by decide);rwa [Nat.add_zero] at this))<|WOL.now (b:=true) rfl rfl ?_
      by_cases c1:p.1≤q.1
      · rw [decide_eq_true c1]
        exact WOL.bt rfl rfl rfl (decide_eq_true c1)<|WOL.pkt rfl rfl<|WOL.nil<|WL.yes rfl<|WL.sr<|WOL.bd rfl bd1654z<|WOL.sto (vs:=[.string ⟨#[]⟩,.slice none 0 0,.slice none 0 0]) rfl rfl tp1654 A4 rfl rfl (Nat.le_of_ble_eq_true rfl) rfl (f.hx X3) (by omega) fun i1 M1=>WOL.as rfl<|WOL.nil<|WL.ret (WL.endC1 rfl rfl (load_row tp1654 M1.at_ rfl (Nat.le_of_ble_eq_true rfl)) ⟨M1.hx _ X3 (by omega),_,_,rfl,SecF.nil⟩)
      · rw [decide_eq_false c1]
        refine WOL.bf rfl rfl rfl (decide_eq_false c1)<|WOL.pkt rfl rfl<|WOL.nil<|WL.no rfl<|WL.skip<|keep [(2,_),(3,_),(4,_)] ⟨rfl,rfl,rfl,trivial⟩ ?_
        exact kto fin ⟨rfl,rfl,rfl,trivial⟩
  by_cases c0:A.length=0
  · have eR:lastR (A.map Prod.fst) p.1=false:=by unfold lastR;rw [List.length_map,decide_eq_false (show ¬ 0 < A.length by omega)];rfl
    rw [eR]
    refine WL.seq<|WL.sr<|WOL.mv rfl<|WOL.bf rfl rfl rfl (decide_eq_false (by omega))<|WOL.mv rfl<|WOL.skp (b:=false) rfl rfl<|WOL.skp (b:=false) rfl rfl<|WOL.skp (b:=false) rfl rfl<|WOL.skp (b:=false) rfl rfl<|WOL.skp (b:=false) rfl rfl<|WOL.skp (b:=false) rfl rfl<|WOL.skp (b:=false) rfl rfl<|WOL.skp (b:=false) rfl rfl<|WOL.skp (b:=false) rfl rfl<|WOL.skp (b:=false) rfl rfl<|WOL.pkf rfl rfl<|WOL.nil<|WL.no rfl<|WL.skip<|keep [(2,_),(3,_),(4,_)] ⟨rfl,rfl,rfl,trivial⟩ ?_
    exact kto nxt ⟨rfl,rfl,rfl,trivial⟩
  · have hq:A[A.length - 1]?=some A[A.length - 1]:=List.getElem?_eq_getElem (by omega)
    rw [lastR_at (g:=Prod.fst) hq]
    obtain ⟨b,o,cc,fix,wr,el,g1,g2,g3,g4,g5⟩:=(r.hx X3).a.at eA u1652 tp1668 hq .i64
    generalize A[A.length - 1]=q at *
    refine WL.seq<|WL.sr<|WOL.mv rfl<|WOL.bt rfl rfl rfl (decide_eq_true (by omega))<|WOL.mv rfl<|WOL.now (b:=true) rfl rfl<|WOL.fa rfl (fa_of fo1668_0)<|WOL.now (b:=true) rfl rfl<|WOL.ld rfl (load_one tp3 A3 rfl)<|WOL.now (b:=true) rfl rfl<|WOL.fa rfl (fa_of fo1654_2)<|WOL.now (b:=true) rfl rfl<|WOL.ld rfl (load_one tp1652 A2 rfl)<|WOL.now (b:=true) rfl rfl<|WOL.mv rfl<|WOL.now (b:=true) rfl rfl<|WOL.sub rfl rfl (by omega) (by omega) ?_
    rw [show (A.length:Int) - 1=((A.length - 1:Nat):Int) by omega]
    refine WOL.now (b:=true) rfl rfl<|WOL.ix rfl rfl g1<|WOL.now (b:=true) rfl rfl<|WOL.fa rfl (fa_of fo1668_0)<|WOL.now (b:=true) rfl rfl<|WOL.ld rfl (load_one tp3 g2 (by have:=g5 0 (by decide);rwa [Nat.add_zero] at this))<|WOL.now (b:=true) rfl rfl ?_
    by_cases c1:p.1≤q.1
    · rw [decide_eq_true c1]
      exact WOL.bt rfl rfl rfl (decide_eq_true c1)<|WOL.pkt rfl rfl<|WOL.nil<|WL.yes rfl<|WL.sr<|WOL.bd rfl bd1654z<|WOL.sto (vs:=[.string ⟨#[]⟩,.slice none 0 0,.slice none 0 0]) rfl rfl tp1654 A4 rfl rfl (Nat.le_of_ble_eq_true rfl) rfl (f.hx X3) (by omega) fun i1 M1=>WOL.as rfl<|WOL.nil<|WL.ret (WL.endC1 rfl rfl (load_row tp1654 M1.at_ rfl (Nat.le_of_ble_eq_true rfl)) ⟨M1.hx _ X3 (by omega),_,_,rfl,SecF.nil⟩)
    · rw [decide_eq_false c1]
      refine WOL.bf rfl rfl rfl (decide_eq_false c1)<|WOL.pkt rfl rfl<|WOL.nil<|WL.no rfl<|WL.skip<|keep [(2,_),(3,_),(4,_)] ⟨rfl,rfl,rfl,trivial⟩ ?_
      exact kto nxt ⟨rfl,rfl,rfl,trivial⟩
end
end Go.Tidy
namespace Go.Tidy
open Go Go.Proofs Tab
variable {tp:TProg}
theorem fz_two {a b c:Int}:cond (firstNZ [a,b] == 0) c (firstNZ [a,b])=firstNZ [a,b,c]:=law_first
theorem fz_c {a b:Bool} {e k:Int} (he:e≠0) (hk:k≠0):firstNZ [cond a e 0,cond b k 0]=cond a e (cond b k 0):=by
 cases a
 ·cases b
  ·rfl
  ·show cond (k != 0) k _=k
   rw [bne_iff_ne.2 hk];rfl
 ·show cond (e != 0) e _=e
  rw [bne_iff_ne.2 he];rfl
theorem fz_nest2 {a b c:Int} {l:List Int} (h:c=firstNZ l):firstNZ (a::b::l)=firstNZ [a,b,c]:=by
 rw [fz_cons,fz_cons,fz_cons (x:=a) (l:=[b,c]),fz_cons (x:=b) (l:=[c]),fz_cons (x:=c) (l:=[]),h]
 cases hc:(firstNZ l != 0) with
 | true=>rfl
 | false=>rw [bne_z.1 hc];rfl
theorem adE_eq {s:ByteArray} {M:List (Int × Int)} {A:List (Int × ByteArray)} {p:Int × Int}:cond (firstNZ [secE s M A,mesE p] == 0) (adR M p) (firstNZ [secE s M A,mesE p])=adE s M A p:=by
 unfold adE
 by_cases h:mesE p=0
 ·rw [fz_two,lastR_eq (mesE_day h)]
  exact (fz_nest2 (by unfold adR;rw [fz_c (by decide) (by decide)])).symm
 ·have h1:(mesE p != 0)=true:=bne_iff_ne.2 h
  rw [fz_cons,fz_cons (x:=mesE p),fz_cons (x:=secE s M A) (l:=[mesE p,_,_]),fz_cons (x:=mesE p) (l:=[_,_]),h1]
  cases h2:(secE s M A != 0) with
  | true=>simp only [cond_true];rw [beq_eq_false_iff_ne.2 (bne_iff_ne.1 h2)];rfl
  | false=>simp only [cond_true,cond_false];rw [beq_eq_false_iff_ne.2 h];rfl
theorem doE_eq {s:ByteArray} {M:List (Int × Int)} {A:List (Int × ByteArray)} {p:Int × ByteArray}:cond (firstNZ [secE s M A,actE p] == 0) (doR M A p) (firstNZ [secE s M A,actE p])=doE s M A p:=by
 unfold doE
 by_cases h:actE p=0
 ·rw [fz_two,lastR_eq (actE_day h),lastR_eq (actE_day h)]
  refine (fz_nest2 ?_).symm
  unfold doR
  rw [fz_cons,fz_c (by decide) (by decide)]
  cases decide (A.length=16) <;> rfl
 ·have h1:(actE p != 0)=true:=bne_iff_ne.2 h
  rw [fz_cons,fz_cons (x:=actE p),fz_cons (x:=secE s M A) (l:=[actE p,_,_,_]),fz_cons (x:=actE p) (l:=[_,_,_]),h1]
  cases h2:(secE s M A != 0) with
  | true=>simp only [cond_true];rw [beq_eq_false_iff_ne.2 (bne_iff_ne.1 h2)];rfl
  | false=>simp only [cond_true,cond_false];rw [beq_eq_false_iff_ne.2 h];rfl
theorem adS_len {e:Int} {s:ByteArray} {M:List (Int × Int)} {A:List (Int × ByteArray)} {p:Int × Int} (hM:M.length≤100) (hA:A.length≤100):(adS e s M A p).2.1.length≤1000∧(adS e s M A p).2.2.length≤1000:=by
 unfold adS emS
 cases (e != 0) <;> simp <;> omega
theorem doS_len {e:Int} {s:ByteArray} {M:List (Int × Int)} {A:List (Int × ByteArray)} {p:Int × ByteArray} (hM:M.length≤100) (hA:A.length≤100):(doS e s M A p).2.1.length≤1000∧(doS e s M A p).2.2.length≤1000:=by
 unfold doS emS
 cases (e != 0) <;> simp <;> omega
theorem args3Q {P:Program} {h:TH} {m:Nat} {t0 t1 t2:TypeId} {us:List Value} (ha:Args P h m [t0,t1,t2] us):∃ x0 x1 x2,us=[x0,x1,x2]∧(∃ ps,Ty P h m t0 ps∧x0=valOf P t0 ps)∧(∃ ps,Ty P h m t1 ps∧x1=valOf P t1 ps)∧∃ ps,Ty P h m t2 ps∧x2=valOf P t2 ps:=by
 match us,ha with
 | [x0,x1,x2],⟨a0,a1,a2,_⟩=>exact ⟨x0,x1,x2,rfl,a0,a1,a2⟩
section
variable {h:TH} {v1 v2:Value} {s:ByteArray} {M:List (Int × Int)} {A:List (Int × ByteArray)} {p:Int × Int} {q:Int × ByteArray}
set_option maxHeartbeats 32000000 in
set_option maxRecDepth 10000 in
theorem k1580 (H:Has tp) (K:Awk tp) (r:SecR h v1 v2 M A) (lA0:A.length≤9223372036854775807) (f:Free0 h.next h) :
    CallW Tryz.prog tp (.func (.func 8) #[] #[]) #[secV s v1 v2,.agg #[zi p.1,zi p.2],.agg #[zi q.1,.string q.2]] h fun v _=>v=.bool true:=by
  obtain ⟨b1,k1,e1⟩:=r.m.form
  obtain ⟨b2,k2,e2⟩:=r.a.form
  subst e1 e2
  refine CallW.fnL (H.fn 8 f1580 rfl rfl) ?_
  refine WL.sr<|WOL.box rfl fun h1 N1=>WOL.box rfl fun h2 N2=>WOL.box rfl fun h3 N3=>WOL.as rfl<|WOL.nil<|keep [(3,_),(4,_),(5,_)] ⟨rfl,rfl,rfl,trivial⟩ ?_
  have n1:=N1.next
  have n2:=N2.next
  have n3:=N3.next
  have A3:At h3 h.next (.cells [.string s,.slice b1 M.length k1,.slice b2 A.length k2] true true 82):=(N1.at_.hx N2.hx).hx N3.hx
  have A4:At h3 h1.next (.cells [zi p.1,zi p.2] true true 94):=N2.at_.hx N3.hx
  have A5:At h3 h2.next (.cells [zi q.1,.string q.2] true true 96):=N3.at_
  have X3:=(N1.hx.trans N2.hx).trans N3.hx
  refine WL.seq<|WL.sr<|WOL.cl0 rfl ((k11t K _).mono ?_)
  rintro v h3 ⟨rfl,rfl⟩
  refine WOL.nt rfl<|WOL.mv rfl<|WOL.now (b:=false) rfl rfl<|WOL.ld rfl (load_row tp1654 A3 rfl (Nat.le_of_ble_eq_true rfl))<|WOL.now (b:=false) rfl rfl<|WOL.cl1 rfl rfl ((k1604 (s:=s) H (r.hx X3) lA0).mono ?_)
  rintro v h4 ⟨X4,b,rfl,hb⟩
  have x4:=X4.next
  have Y4:=X3.trans X4
  replace A3:=A3.hx X4;replace A4:=A4.hx X4;replace A5:=A5.hx X4
  cases b with
  | false =>
    refine WOL.now (b:=false) rfl rfl<|WOL.nt rfl<|WOL.pkf rfl rfl<|WOL.mv rfl<|WOL.skp (b:=true) rfl rfl<|WOL.skp (b:=true) rfl rfl<|WOL.skp (b:=true) rfl rfl<|WOL.skp (b:=true) rfl rfl<|WOL.pkt rfl rfl<|WOL.nil<|WL.yes rfl<|WL.sr<|WOL.cl0 rfl ((k11t K _).mono ?_)
    rintro v h5 ⟨rfl,rfl⟩
    exact WOL.as rfl<|WOL.nil<|WL.ret (WL.end_ rfl rfl)
  | true =>
    obtain ⟨lM,lA⟩:=hb rfl
    refine WOL.now (b:=false) rfl rfl<|WOL.nt rfl<|WOL.pkf rfl rfl<|WOL.mv rfl<|WOL.now (b:=false) rfl rfl<|WOL.fa rfl (fa_of fo1668_1)<|WOL.now (b:=false) rfl rfl<|WOL.ld rfl (load_one tp9 A5 rfl)<|WOL.now (b:=false) rfl rfl<|WOL.lenS rfl Tryz.underlying9<|WOL.now (b:=false) rfl rfl ?_
    by_cases cq:q.2.size > 40
    · refine WOL.bt rfl rfl rfl (decide_eq_true (by omega))<|WOL.pkf rfl rfl<|WOL.nil<|WL.yes rfl<|WL.sr<|WOL.cl0 rfl ((k11t K _).mono ?_)
      rintro v h5 ⟨rfl,rfl⟩
      exact WOL.as rfl<|WOL.nil<|WL.ret (WL.end_ rfl rfl)
    refine WOL.bf rfl rfl rfl (decide_eq_false (by omega))<|WOL.pkf rfl rfl<|WOL.nil<|WL.no rfl<|WL.skip<|keep [(3,_),(4,_),(5,_)] ⟨rfl,rfl,rfl,trivial⟩ ?_
    have y4:=Y4.next
    -- measured
    refine WL.sr<|WOL.ld rfl (load_row tp1654 A3 rfl (Nat.le_of_ble_eq_true rfl))<|WOL.ld rfl (load_row tp1666 A4 rfl (Nat.le_of_ble_eq_true rfl))<|WOL.al tp1660 fun h5 N5=>?_
    have n5:=N5.next
    have Y5:=Y4.trans N5.hx
    refine WOL.lq1 [h4.next,h1.next] rfl rfl rfl fun L hL=>((k1606 (h:=h5.withLock L) (s:=s) H ⟨(r.hx Y5).m.relock L,(r.hx Y5).a.relock L⟩ (by omega) (by omega) ((f.on Y5).held hL (fun b hb=>by simp at hb;omega))).mono ?_)
    rintro v h6 ⟨X6,u1,u2,rfl,o1,o2⟩
    replace X6:=X6.relock
    replace o1:OwnL encS h5.next (h6.withLock h5.lock) u1 99 M:=o1.relock h5.lock
    replace o2:OwnL encA h5.next (h6.withLock h5.lock) u2 101 A:=o2.relock h5.lock
    generalize h6.withLock h5.lock=h6 at *
    have x6:=X6.next
    have Y6:=Y5.trans X6
    refine WOL.lq2 [h4.next] rfl rfl rfl rfl fun L hL=>((k1610 (h:=h6.withLock L) (s:=s) (p:=p) H (o1.relock L) (o2.relock L) (by omega) (by omega) ((f.on Y6).held hL (fun b hb=>by simp at hb;omega))).mono ?_)
    rintro v h7 ⟨X7,w1,w2,rfl,S1⟩
    replace X7:=X7.relock
    replace S1:SecF h6.next (h7.withLock h6.lock) w1 w2 _ _:=S1.relock h6.lock
    generalize h7.withLock h6.lock=h7 at *
    have x7:=X7.next
    have Y7:=Y6.trans X7
    generalize hS:adS (adE s M A p) s M A p=SS at *
    have lS:SS.2.1.length≤1000∧SS.2.2.length≤1000:=by rw [← hS];exact adS_len (by omega) (by omega)
    obtain ⟨c1,m1,e1⟩:=S1.r.m.form
    obtain ⟨c2,m2,e2⟩:=S1.r.a.form
    refine WOL.mv rfl<|WOL.ex rfl rfl<|WOL.ex rfl rfl<|WOL.sto (vs:=[.string SS.1,w1,w2]) rfl rfl tp1660 ((N5.at_.hx X6).hx X7) rfl rfl (Nat.le_of_ble_eq_true rfl) (by rw [e1,e2];rfl) (f.hx Y7) (by omega) fun h8 P8=>WOL.as rfl<|WOL.nil<|keep [(3,_),(4,_),(5,_),(7,_),(8,_)] ⟨rfl,rfl,rfl,rfl,rfl,trivial⟩ ?_
    have Z8:HX h4 h8:=P8.hx _ ((N5.hx.trans X6).trans X7) (by omega)
    have Y8:=Y4.trans Z8
    have z8:=Z8.next
    have p8:=P8.next
    have A7:At h8 h4.next (.cells [.string SS.1,w1,w2] true true 88):=P8.at_
    replace S1:=S1.put P8 (by omega)
    replace A3:=A3.hx Z8;replace A4:=A4.hx Z8;replace A5:=A5.hx Z8
    clear P8 o1 o2
    -- done
    refine WL.sr<|WOL.ld rfl (load_row tp1654 A3 rfl (Nat.le_of_ble_eq_true rfl))<|WOL.ld rfl (load_row tp1668 A5 rfl (Nat.le_of_ble_eq_true rfl))<|WOL.al tp1660 fun h9 N9=>?_
    have n9:=N9.next
    have Y9:=Y8.trans N9.hx
    refine WOL.lq1 [h8.next,h2.next] rfl rfl rfl fun L hL=>((k1606 (h:=h9.withLock L) (s:=s) H ⟨(r.hx Y9).m.relock L,(r.hx Y9).a.relock L⟩ (by omega) (by omega) ((f.on Y9).held hL (fun b hb=>by simp at hb;omega))).mono ?_)
    rintro v h10 ⟨X10,u1,u2,rfl,o1,o2⟩
    replace X10:=X10.relock
    replace o1:OwnL encS h9.next (h10.withLock h9.lock) u1 99 M:=o1.relock h9.lock
    replace o2:OwnL encA h9.next (h10.withLock h9.lock) u2 101 A:=o2.relock h9.lock
    generalize h10.withLock h9.lock=h10 at *
    have x10:=X10.next
    have Y10:=Y9.trans X10
    refine WOL.lq2 [h8.next] rfl rfl rfl rfl fun L hL=>((k1611 (h:=h10.withLock L) (s:=s) (p:=q) H (o1.relock L) (o2.relock L) (by omega) (by omega) ((f.on Y10).held hL (fun b hb=>by simp at hb;omega))).mono ?_)
    rintro v h11 ⟨X11,t1,t2,rfl,S2⟩
    replace X11:=X11.relock
    replace S2:SecF h10.next (h11.withLock h10.lock) t1 t2 _ _:=S2.relock h10.lock
    generalize h11.withLock h10.lock=h11 at *
    have x11:=X11.next
    have Y11:=Y10.trans X11
    generalize hT:doS (doE s M A q) s M A q=TT at *
    have lT:TT.2.1.length≤1000∧TT.2.2.length≤1000:=by rw [← hT];exact doS_len (by omega) (by omega)
    obtain ⟨c3,m3,e3⟩:=S2.r.m.form
    obtain ⟨c4',m4,e4⟩:=S2.r.a.form
    refine WOL.mv rfl<|WOL.ex rfl rfl<|WOL.ex rfl rfl<|WOL.sto (vs:=[.string TT.1,t1,t2]) rfl rfl tp1660 ((N9.at_.hx X10).hx X11) rfl rfl (Nat.le_of_ble_eq_true rfl) (by rw [e3,e4];rfl) (f.hx Y11) (by omega) fun h12 P12=>WOL.as rfl<|WOL.nil<|keep [(3,_),(4,_),(5,_),(7,_),(8,_),(9,_),(10,_)] ⟨rfl,rfl,rfl,rfl,rfl,rfl,rfl,trivial⟩ ?_
    have Z12:HX h8 h12:=P12.hx _ ((N9.hx.trans X10).trans X11) (by omega)
    have Y12:=Y8.trans Z12
    have z12:=Z12.next
    have p12:=P12.next
    have A9:At h12 h8.next (.cells [.string TT.1,t1,t2] true true 88):=P12.at_
    replace S2:=S2.put P12 (by omega)
    replace S1:=S1.hx Z12
    replace A3:=A3.hx Z12;replace A4:=A4.hx Z12;replace A5:=A5.hx Z12;replace A7:=A7.hx Z12
    clear P12 o1 o2
    -- errors
    refine WL.sr<|WOL.ld rfl (load_row tp1654 A3 rfl (Nat.le_of_ble_eq_true rfl))<|WOL.cl1 rfl rfl ((k1607 (s:=s) H (r.hx Y12) (by omega) (by omega)).mono ?_)
    rintro v h13 ⟨rfl,X13⟩
    refine WOL.as rfl<|WOL.nil<|keep [(3,_),(4,_),(5,_),(7,_),(8,_),(9,_),(10,_),(11,_)] ⟨rfl,rfl,rfl,rfl,rfl,rfl,rfl,rfl,trivial⟩ ?_
    have Y13:=Y12.trans X13
    replace S1:=S1.hx X13
    replace S2:=S2.hx X13
    replace A3:=A3.hx X13;replace A4:=A4.hx X13;replace A5:=A5.hx X13;replace A7:=A7.hx X13;replace A9:=A9.hx X13
    refine WL.sr<|WOL.mv rfl<|WOL.ld rfl (load_row tp1666 A4 rfl (Nat.le_of_ble_eq_true rfl))<|WOL.mv rfl<|WOL.ld rfl (load_row tp1668 A5 rfl (Nat.le_of_ble_eq_true rfl))<|WOL.lk1 rfl rfl fun L=>((k1612 (x:=p.1) (y:=p.2) H).mono ?_)
    rintro v h14 ⟨rfl,X14⟩
    replace X14:=X14.relock
    generalize h14.withLock h13.lock=h14 at *
    refine WOL.bsl rfl u29 tp3 (by decide) (by decide) (by decide) (filled_ints _ _) fun h15 N15=>?_
    refine WOL.lk1 rfl rfl fun L=>((k13 (h:=h15.withLock L) H (l:=[_,_]) (N15.at_.relock L).get (by simp)).mono ?_)
    rintro v h16 ⟨rfl,rfl⟩
    rw [TH.relock]
    refine WOL.cl1 rfl rfl ((k1613 (x:=q.1) (s:=q.2) H).mono ?_)
    rintro v h16 ⟨rfl,X16⟩
    refine WOL.bsl rfl u29 tp3 (by decide) (by decide) (by decide) (filled_ints _ _) fun h17 N17=>?_
    refine WOL.cl1 rfl rfl ((k13 H (l:=[_,_]) N17.at_.get (by simp)).mono ?_)
    rintro v h18 ⟨rfl,rfl⟩
    have Z18:=((X14.trans N15.hx).trans X16).trans N17.hx
    have Y18:=Y13.trans Z18
    replace S1:=S1.hx Z18
    replace S2:=S2.hx Z18
    replace A3:=A3.hx Z18;replace A4:=A4.hx Z18;replace A5:=A5.hx Z18;replace A7:=A7.hx Z18;replace A9:=A9.hx Z18
    refine WOL.as rfl<|WOL.as rfl<|WOL.nil<|keep [(3,_),(4,_),(5,_),(7,_),(8,_),(9,_),(10,_),(12,_),(13,_)] ⟨rfl,rfl,rfl,rfl,rfl,rfl,rfl,rfl,rfl,trivial⟩ ?_
    have y18:=Y18.next
    have l7:=A7.lt
    have l9:=A9.lt
    have l3:=A3.lt
    refine WL.sr<|WOL.al tp1654 fun h19 N19=>WOL.al tp1654 fun h20 N20=>WOL.nil<|keep [(3,_),(4,_),(5,_),(7,_),(8,_),(9,_),(10,_),(12,_),(13,_),(14,_),(15,_)] ⟨rfl,rfl,rfl,rfl,rfl,rfl,rfl,rfl,rfl,rfl,rfl,trivial⟩ ?_
    have n19:=N19.next
    have n20:=N20.next
    have Z20:=N19.hx.trans N20.hx
    have A14:=N19.at_.hx N20.hx
    have A15:=N20.at_
    have adq:=adE_eq (s:=s) (M:=M) (A:=A) (p:=p)
    have doq:=doE_eq (s:=s) (M:=M) (A:=A) (p:=q)
    rw [show mesE (p.1,p.2)=mesE p from rfl,show actE (q.1,q.2)=actE q from rfl]
    generalize hE:adE s M A p=E1 at *
    generalize hF:doE s M A q=E2 at *
    generalize hF1:firstNZ [secE s M A,mesE p]=F1 at *
    generalize hF2:firstNZ [secE s M A,actE q]=F2 at *
    have tail2:∀ g y1 y2 z1 z2,HX h18 g→At g h18.next (.cells [.string SS.1,y1,y2] true true 82)→SecF h20.next g y1 y2 SS.2.1 SS.2.2→At g h19.next (.cells [.string TT.1,z1,z2] true true 82)→SecF h20.next g z1 z2 TT.2.1 TT.2.2→∀ a,Kn [(7,ptr h4.next),(8,zi E1),(9,ptr h8.next),(10,zi E2),(12,zi E1),(13,zi E2),(14,ptr h18.next),(15,ptr h19.next)] a →
        W Tryz.prog tp false (.seq (.reg r1580_12) .ret) a g (Fin Tryz.prog [.tmp 6] fun v _=>v=.bool true):=by
      intro g y1 y2 z1 z2 Xg B14 Sy B15 Sz
      have Yg:=Y18.trans Xg
      have xg:=Xg.next
      have lb:=B14.lt
      have lb':=B15.lt
      refine WL.sr<|WOL.ld rfl (load_row tp1660 (A7.hx Xg) rfl (Nat.le_of_ble_eq_true rfl))<|WOL.ld rfl (load_row tp1654 B14 rfl (Nat.le_of_ble_eq_true rfl)) ?_
      have S1g:=S1.r.hx Xg
      refine WOL.lq1 [h18.next] rfl rfl rfl fun L hL=>((k1617 (h:=g.withLock L) (s:=SS.1) H ⟨S1g.m.relock L,S1g.a.relock L⟩ (by omega) (by omega) ((f.on Yg).held hL (fun b hb=>by simp at hb;omega))).mono ?_)
      rintro v g1 ⟨X1,u1,u2,rfl,o1,o2⟩
      replace X1:=X1.relock
      replace o1:=(o1.relock g.lock).sl eS
      replace o2:=(o2.relock g.lock).sl eA
      generalize g1.withLock g.lock=g1 at *
      have Xg1:=Xg.trans X1
      have Yg1:=Yg.trans X1
      have x1:=X1.next
      refine WOL.cl2 rfl rfl rfl ((k1616 (s:=SS.1) H ⟨o1,o2⟩ (Sy.r.hx X1) (by omega) (by omega)).mono ?_)
      rintro v g2 ⟨rfl,X2⟩
      have Xg2:=Xg1.trans X2
      have Yg2:=Yg1.trans X2
      have x2:=X2.next
      refine WOL.mv rfl<|WOL.now (b:=true) rfl rfl<|WOL.mv rfl<|WOL.now (b:=true) rfl rfl<|WOL.mv rfl<|WOL.now (b:=true) rfl rfl<|WOL.bt rfl rfl rfl (beq_self_eq_true _)<|WOL.pkt rfl rfl<|WOL.mv rfl<|WOL.now (b:=true) rfl rfl<|WOL.ld rfl (load_row tp1660 (A9.hx Xg2) rfl (Nat.le_of_ble_eq_true rfl))<|WOL.now (b:=true) rfl rfl<|WOL.ld rfl (load_row tp1654 ((B15.hx X1).hx X2) rfl (Nat.le_of_ble_eq_true rfl))<|WOL.now (b:=true) rfl rfl ?_
      have S2g:=S2.r.hx Xg2
      refine WOL.lq1 [h19.next] rfl rfl rfl fun L hL=>((k1617 (h:=g2.withLock L) (s:=TT.1) H ⟨S2g.m.relock L,S2g.a.relock L⟩ (by omega) (by omega) ((f.on Yg2).held hL (fun b hb=>by simp at hb;omega))).mono ?_)
      rintro v g3 ⟨X3',u3,u4,rfl,o3,o4⟩
      replace X3':=X3'.relock
      replace o3:=(o3.relock g2.lock).sl eS
      replace o4:=(o4.relock g2.lock).sl eA
      generalize g3.withLock g2.lock=g3 at *
      refine WOL.now (b:=true) rfl rfl<|WOL.cl2 rfl rfl rfl ((k1616 (s:=TT.1) H ⟨o3,o4⟩ (((Sz.r.hx X1).hx X2).hx X3') (by omega) (by omega)).mono ?_)
      rintro v g4 ⟨rfl,X4'⟩
      exact WOL.pkt rfl rfl<|WOL.mv rfl<|WOL.now (b:=true) rfl rfl<|WOL.mv rfl<|WOL.now (b:=true) rfl rfl<|WOL.mv rfl<|WOL.now (b:=true) rfl rfl<|WOL.bt rfl rfl rfl (beq_self_eq_true _)<|WOL.pkt rfl rfl<|WOL.as rfl<|WOL.nil<|WL.ret (WL.end_ rfl rfl)
    have tail1:∀ g y1 y2,HX h18 g→h20.next≤g.next→At g h18.next (.cells [.string SS.1,y1,y2] true true 82)→SecF h20.next g y1 y2 SS.2.1 SS.2.2→At g h19.next (.cells [.string ⟨#[]⟩,.slice none 0 0,.slice none 0 0] true true 82)→∀ a,Kn [(3,ptr h.next),(5,ptr h2.next),(7,ptr h4.next),(8,zi E1),(9,ptr h8.next),(10,zi E2),(12,zi E1),(13,zi F2),(14,ptr h18.next),(15,ptr h19.next)] a →
        W Tryz.prog tp false (.seq (.seq (.reg r1580_10) (.cond (.tmp 65) (.reg r1580_11) .skip)) (.seq (.reg r1580_12) .ret)) a g (Fin Tryz.prog [.tmp 6] fun v _=>v=.bool true):=by
      intro g y1 y2 Xg gn B14 Sy B15
      have Yg:=Y18.trans Xg
      by_cases e0:F2=0
      · rw [e0] at doq
        replace doq:doR M A q=E2:=doq
        refine WL.seq<|WL.sr<|WOL.mv rfl<|WOL.bt rfl rfl rfl (beq_iff_eq.2 e0)<|WOL.nil<|WL.yes rfl<|WL.reg<|WOL.ld rfl (load_row tp1654 (A3.hx Xg) rfl (Nat.le_of_ble_eq_true rfl))<|WOL.ld rfl (load_row tp1668 (A5.hx Xg) rfl (Nat.le_of_ble_eq_true rfl))<|WOL.cl2 rfl rfl rfl ((k1615 (s:=s) (p:=q) H (r.hx Yg) (by omega) (by omega) (f.on Yg)).mono ?_)
        rintro v g1 ⟨X1,z1,z2,rfl,Sz⟩
        rw [doq,hT] at Sz ⊢
        obtain ⟨c5,m5,e5⟩:=Sz.r.m.form
        obtain ⟨c6,m6,e6⟩:=Sz.r.a.form
        refine WOL.mv rfl<|WOL.ex rfl rfl<|WOL.ex rfl rfl<|WOL.sto (vs:=[.string TT.1,z1,z2]) rfl rfl tp1654 (B15.hx X1) rfl rfl (Nat.le_of_ble_eq_true rfl) (by rw [e5,e6];rfl) (f.hx (Yg.trans X1)) (by omega) fun g2 P2=>WOL.as rfl<|WOL.nil ?_
        exact kto (tail2 g2 y1 y2 z1 z2 (P2.hx _ (Xg.trans X1) (by omega)) (P2.oth _ _ (by omega) (B14.hx X1)) ((Sy.hx X1).put P2 (by omega)) P2.at_ ⟨(Sz.put P2 (by omega)).r,fun z hz=>(by have:=Sz.b1 z hz;omega),fun z hz=>(by have:=Sz.b2 z hz;omega)⟩) ⟨rfl,rfl,rfl,rfl,rfl,rfl,rfl,rfl,trivial⟩
      · rw [beq_eq_false_iff_ne.2 e0] at doq
        replace doq:F2=E2:=doq
        have eT:TT=emS:=by rw [← hT,← doq];unfold doS;rw [bne_iff_ne.2 e0];rfl
        subst eT
        rw [doq]
        refine WL.seq<|WL.sr<|WOL.mv rfl<|WOL.bf rfl rfl rfl (beq_eq_false_iff_ne.2 (by rw [← doq];exact e0))<|WOL.nil<|WL.no rfl<|WL.skip ?_
        exact kto (tail2 g y1 y2 (.slice none 0 0) (.slice none 0 0) Xg B14 Sy B15 SecF.nil) ⟨rfl,rfl,rfl,rfl,rfl,rfl,rfl,rfl,trivial⟩
    by_cases e0:F1=0
    · rw [e0] at adq
      replace adq:adR M p=E1:=adq
      have Y20:=Y18.trans Z20
      refine WL.seq<|WL.sr<|WOL.mv rfl<|WOL.bt rfl rfl rfl (beq_iff_eq.2 e0)<|WOL.nil<|WL.yes rfl<|WL.reg<|WOL.ld rfl (load_row tp1654 (A3.hx Z20) rfl (Nat.le_of_ble_eq_true rfl))<|WOL.ld rfl (load_row tp1666 (A4.hx Z20) rfl (Nat.le_of_ble_eq_true rfl))<|WOL.cl2 rfl rfl rfl ((k1614 (s:=s) (p:=p) H (r.hx Y20) (by omega) (by omega) (f.on Y20)).mono ?_)
      rintro v g1 ⟨X1,y1,y2,rfl,Sy⟩
      rw [adq,hS] at Sy ⊢
      have x1:=X1.next
      obtain ⟨c5,m5,e5⟩:=Sy.r.m.form
      obtain ⟨c6,m6,e6⟩:=Sy.r.a.form
      refine WOL.mv rfl<|WOL.ex rfl rfl<|WOL.ex rfl rfl<|WOL.sto (vs:=[.string SS.1,y1,y2]) rfl rfl tp1654 (A14.hx X1) rfl rfl (Nat.le_of_ble_eq_true rfl) (by rw [e5,e6];rfl) (f.hx (Y20.trans X1)) (by omega) fun g2 P2=>WOL.as rfl<|WOL.nil ?_
      have g2n:=P2.next
      exact kto (tail1 g2 y1 y2 (P2.hx _ (Z20.trans X1) (Nat.le_refl _)) (by omega) P2.at_ (Sy.put P2 (by omega)) (P2.oth _ _ (by omega) (A15.hx X1))) ⟨rfl,rfl,rfl,rfl,rfl,rfl,rfl,rfl,rfl,rfl,trivial⟩
    · rw [beq_eq_false_iff_ne.2 e0] at adq
      replace adq:F1=E1:=adq
      have eS':SS=emS:=by rw [← hS,← adq];unfold adS;rw [bne_iff_ne.2 e0];rfl
      subst eS'
      rw [adq]
      refine WL.seq<|WL.sr<|WOL.mv rfl<|WOL.bf rfl rfl rfl (beq_eq_false_iff_ne.2 (by rw [← adq];exact e0))<|WOL.nil<|WL.no rfl<|WL.skip ?_
      exact kto (tail1 h20 (.slice none 0 0) (.slice none 0 0) Z20 (Nat.le_refl _) A14 SecF.nil A15) ⟨rfl,rfl,rfl,rfl,rfl,rfl,rfl,rfl,rfl,rfl,trivial⟩
end
set_option maxRecDepth 100000 in
theorem law1580:Law tpE 8 5 [82,94,96]:=by
 intro h us f ha
 obtain ⟨x0,x1,x2,rfl,⟨p0,y0,e0⟩,⟨p1,y1,e1⟩,⟨p2,y2,e2⟩⟩:=args3Q ha
 rw [val_agg (.inl ⟨_,Tryz.underlying82⟩)] at e0
 rw [val_agg (.inl ⟨_,Tryz.underlying94⟩)] at e1
 rw [val_agg (.inl ⟨_,Tryz.underlying96⟩)] at e2
 obtain ⟨s,v1,v2,M,A,rfl,r,l⟩:=ty_sec (n:=1) y0
 obtain ⟨p,rfl⟩:=ty_mes (n:=3) y1
 obtain ⟨q,rfl⟩:=ty_act (n:=3) y2
 subst e0 e1 e2
 exact k1580 (p:=p) (q:=q) hasE awkE r (Nat.le_trans l maxLen_le) f
end Go.Tidy
