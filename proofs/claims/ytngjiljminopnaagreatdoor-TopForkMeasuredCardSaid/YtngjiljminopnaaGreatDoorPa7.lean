/- A part of the proof. -/
import Derived.Test.YtngjiljminopnaaGreatDoorPa6
import Derived.Test.YtngjiljminopnaaGreatDoorPa4
import Derived.Test.YtngjiljminopnaaGreatDoorPa2
import Derived.Test.YtngjiljminopnaaGreatDoorPa5
set_option linter.all false
namespace Go.Tidy
open Go Go.Proofs Tab
variable {tp:TProg}
def endE (a b:Int) (X:List Int):Int:=cond ((X.length:Int) != a+b) 2 (qae (X.map readE))
def rngE (n a b:Int) (m:Nat):Int:=cond (decide (n < a)) 14 (cond (decide ((m:Int)+(a+b) > 4096)) 5 (cond (decide (n+m+b > 100000000)) 4 0))
def resTot (n a b:Int) (L:List Int) (S:List (Int × Int)) (X:List Int):Int:=if qae [chordE a b,qbk n L S]≠0 then qae [chordE a b,qbk n L S] else if endE a b X≠0 then endE a b X else if rngE n a b L.length≠0 then rngE n a b L.length else (resJ a.toNat b.toNat X (zipK L S L.length) L.length).1
theorem filled_ints7 (a b c d e f g:Int):filled 1 7 [.int .i64 0] [(0,.int .i64 a),(1,.int .i64 b),(2,.int .i64 c),(3,.int .i64 d),(4,.int .i64 e),(5,.int .i64 f),(6,.int .i64 g)]=some ([a,b,c,d,e,f,g].map (.int .i64)):=by
 simp [filled,qdm,Instr.fill,Value.cells]
theorem first_two {a b:Int} {l:List Int}:qae (a::b::l)=if qae [a,b]≠0 then qae [a,b] else qae l:=by
 show cond (a != 0) a (cond (b != 0) b (qae l))=if cond (a != 0) a (cond (b != 0) b 0)≠0 then cond (a != 0) a (cond (b != 0) b 0) else _
 by_cases h1:a=0
 ·subst h1
  show cond (b != 0) b (qae l)=if cond (b != 0) b 0≠0 then cond (b != 0) b 0 else _
  by_cases h2:b=0
  ·subst h2;rfl
  ·rw [bne_iff_ne.2 h2];show b=if b≠0 then b else _;rw [if_pos h2]
 ·rw [bne_iff_ne.2 h1];show a=if a≠0 then a else _;rw [if_pos h1]
theorem end_rng {n a b:Int} {X:List Int} {m:Nat}:qae [cond ((X.length:Int) != a+b) 2 0,qae (X.map readE),cond (decide (n < a)) 14 0,cond (decide ((m:Int)+(a+b) > 4096)) 5 0,cond (decide (n+m+b > 100000000)) 4 0]=if endE a b X≠0 then endE a b X else rngE n a b m:=by
 unfold endE rngE
 generalize qae (X.map readE)=x
 by_cases hx:x=0
 ·subst hx
  cases ((X.length:Int) != a+b) <;> cases decide (n < a) <;> cases decide ((m:Int)+(a+b) > 4096) <;> cases decide (n+m+b > 100000000) <;> rfl
 ·cases ((X.length:Int) != a+b) with
  | true=>rfl
  | false =>
   show cond (x != 0) x _=if x≠0 then x else _
   rw [bne_iff_ne.2 hx,if_pos hx];rfl
section
variable {h:TH} {n a b:Int} {v1 v2 w:Value} {L X:List Int} {S:List (Int × Int)}
theorem k1199w (H:Has tp) (a b:Int) (h:TH):qad Tryz.prog tp (.func (.func 81) #[] #[]) #[.agg #[zi a,zi b]] h fun v h'=>v=zi (qbm .i64 (a+b))∧HX h h':=by
 refine qad.fnL (H.fn 81 f1199 rfl rfl) ?_
 refine WL.sr<|WOL.box rfl fun h1 N1=>WOL.as rfl<|WOL.nil<|keep [(1,_)] ⟨rfl,trivial⟩ ?_
 have A1:At h1 h.next (.cells [zi a,zi b] true true 31):=N1.at_
 exact WL.sr<|WOL.fa rfl (qaf fo1128_0)<|WOL.ld rfl (qaa tp3 A1 rfl)<|WOL.fa rfl (qaf fo1128_1)<|WOL.ld rfl (qaa tp3 A1 rfl)<|WOL.bi (v:=zi (qbm .i64 (a+b))) rfl rfl rfl<|WOL.as rfl<|WOL.nil<|WL.ret (WL.end_ rfl ⟨rfl,N1.hx⟩)
set_option maxHeartbeats 8000000 in
set_option maxRecDepth 10000 in
theorem k1135 (H:Has tp) (r:TrcH h v1 v2 L S) (s:SlL encI 1 h w X) (l1:L.length≤900000) (t1:S.length≤900000) (lX:X.length≤900000) (f:Free0 h.next h) :
  qad Tryz.prog tp (.func (.func 35) #[] #[]) #[.agg #[zi a,zi b],trcV n v1 v2,w] h fun v h'=>HX h h'∧ProgR (n - a) (resTot n a b L S X) (resJ a.toNat b.toNat X (zipK L S L.length) L.length).2 h.next h' v:=by
 refine qad.fnL (H.fn 35 f1135 rfl rfl) ?_
 obtain ⟨b1,k1,e1,_⟩:=id r.l
 obtain ⟨b2,k2,e2,_⟩:=id r.s
 subst e1 e2
 refine WL.sr<|WOL.box rfl fun h1 N1=>WOL.box rfl fun h2 N2=>WOL.al tp1117 fun h3 N3=>WOL.as rfl<|WOL.nil<|keep [(2,_),(3,_),(4,_),(6,_)] ⟨rfl,rfl,rfl,rfl,trivial⟩ ?_
 have q1:=N1.next
 have q2:=N2.next
 have q3:=N3.next
 have A3:At h3 h.next (.cells [zi a,zi b] true true 31):=(N1.at_.hx N2.hx).hx N3.hx
 have A4:At h3 h1.next (.cells [zi n,.slice b1 L.length k1,.slice b2 S.length k2] true true 55):=N2.at_.hx N3.hx
 have A6:=N3.at_
 have X3:=(N1.hx.trans N2.hx).trans N3.hx
 have r3:=r.hx X3
 have s3:=s.hx X3
 refine WL.sr<|WOL.ld rfl (qab tp1128 A3 rfl (Nat.le_of_ble_eq_true rfl))<|WOL.ld rfl (qab tp1117 A4 rfl (Nat.le_of_ble_eq_true rfl))<|WOL.mv rfl<|WOL.len rfl s3 u29<|WOL.ld rfl (qab tp1128 A3 rfl (Nat.le_of_ble_eq_true rfl))<|WOL.mv rfl<|WOL.fa rfl (qaf qcf)<|WOL.ld rfl (qaa tp3 A4 rfl)<|WOL.fa rfl (qaf fo1128_0)<|WOL.ld rfl (qaa tp3 A3 rfl)<|WOL.bi (v:=.bool (decide (n < a))) rfl rfl rfl<|WOL.fa rfl (qaf qau)<|WOL.ld rfl (qaa tp29 A4 rfl)<|WOL.len rfl r3.l u29<|WOL.ld rfl (qab tp1128 A3 rfl (Nat.le_of_ble_eq_true rfl))<|WOL.ld rfl (qab tp1117 A4 rfl (Nat.le_of_ble_eq_true rfl))<|WOL.fa rfl (qaf fo1128_1)<|WOL.ld rfl (qaa tp3 A3 rfl) ?_
 refine WOL.lk1 rfl rfl fun M=>((k1121 H a b _).mono ?_)
 rintro v h4 ⟨rfl,X4⟩
 replace X4:=X4.relock
 generalize h4.withLock h3.lock=h4 at *
 have q4:=X4.next
 have Y4:=X3.trans X4
 refine WOL.lq1 [h.next,h1.next,h.next,h1.next,h.next,h1.next,h.next] rfl rfl rfl fun M hM=>((k1123 (n:=n) H ((r.hx Y4).relock M) (by omega) (by omega) ((f.on Y4).held hM (fun b hb=>by simp at hb;omega))).mono ?_)
 rintro v h5 ⟨rfl,X5⟩
 replace X5:=X5.relock
 generalize h5.withLock h4.lock=h5 at *
 refine WOL.lk1 rfl rfl fun M=>((k1199w H a b _).mono ?_)
 rintro v h6 ⟨rfl,X6⟩
 replace X6:=X6.relock
 generalize h6.withLock h5.lock=h6 at *
 refine WOL.bi (v:=.bool ((X.length:Int) != qbm .i64 (a+b))) rfl rfl rfl<|WOL.lk2 rfl rfl rfl fun M=>((k77 H _ _ _).mono ?_)
 rintro v h7 ⟨rfl,rfl⟩
 rw [TH.relock]
 have Y6:=(Y4.trans X5).trans X6
 refine WOL.lk2 rfl rfl rfl fun M=>((k1190 H ((s.hx Y6).relock M) (by omega) (fun x=>k1191 H x _)).mono ?_)
 rintro v h7 ⟨rfl,rfl⟩
 rw [TH.relock]
 refine WOL.lk2 rfl rfl rfl fun M=>((k77 H _ _ _).mono ?_)
 rintro v h7 ⟨rfl,rfl⟩
 rw [TH.relock]
 refine WOL.lk1 rfl rfl fun M=>((k1199w H a b _).mono ?_)
 rintro v h7 ⟨rfl,X7⟩
 replace X7:=X7.relock
 generalize h7.withLock h6.lock=h7 at *
 refine WOL.bi (v:=zi (qbm .i64 ((L.length:Int)+qbm .i64 (a+b)))) rfl rfl rfl<|WOL.bi (v:=.bool (decide (qbm .i64 ((L.length:Int)+qbm .i64 (a+b)) > 4096))) rfl rfl rfl<|WOL.lk2 rfl rfl rfl fun M=>((k77 H _ _ _).mono ?_)
 rintro v h8 ⟨rfl,rfl⟩
 rw [TH.relock]
 have Y7:=Y6.trans X7
 refine WOL.lk1 rfl rfl fun M=>((k1183 (n:=n) H ((r.hx Y7).relock M).l).mono ?_)
 rintro v h8 ⟨rfl,X8⟩
 replace X8:=X8.relock
 generalize h8.withLock h7.lock=h8 at *
 refine WOL.bi (v:=zi (qbm .i64 (qbm .i64 (n+L.length)+b))) rfl rfl rfl<|WOL.bi (v:=.bool (decide (qbm .i64 (qbm .i64 (n+L.length)+b) > 100000000))) rfl rfl rfl<|WOL.cl2 rfl rfl rfl ((k77 H _ _ _).mono ?_)
 rintro v h9 ⟨rfl,rfl⟩
 refine WOL.bsl rfl u166 tp30 (by decide) (by decide) (by decide) (filled_ints7 _ _ _ _ _ _ _) fun h9 N9=>WOL.cl1 rfl rfl ((k71 H (l:=[_,_,_,_,_,_,_]) N9.at_.get (by simp)).mono ?_)
 rintro v h9 ⟨rfl,rfl⟩
 rw [first_two]
 have Z:=((((X4.trans X5).trans X6).trans X7).trans X8).trans N9.hx
 have Y:=X3.trans Z
 replace A3:=A3.hx Z;replace A4:=A4.hx Z;replace A6:=A6.hx Z
 have yn:=Y.next
 have lt6:=A6.lt
 refine WOL.as rfl<|WOL.nil<|keep [(2,_),(3,_),(4,_),(6,_),(8,_)] ⟨rfl,rfl,rfl,rfl,rfl,trivial⟩ ?_
 have fail:∀ e,e≠0→resTot n a b L S X=e→∀ y,Kn [(2,w),(3,ptr h.next),(4,ptr h1.next),(6,ptr h2.next),(8,zi e)] y→W Tryz.prog tp false (.seq (.seq (.reg r1135_2) (.cond (.tmp 49) (.seq (.reg r1135_3) .ret) .skip)) (.seq (.reg r1135_4) (.seq (.seq (.reg r1135_5) (.block 0 (.loop (.seq (.reg r1135_6) (.seq (.cond (.tmp 67) .skip (.exit 0)) (.seq (.block 1 (.seq (.reg r1135_7) (.reg r1135_8))) (.reg r1135_9))))))) (.seq (.seq (.reg r1135_10) (.seq (.reg r1135_11) (.cond (.tmp 86) (.seq (.reg r1135_12) .ret) .skip))) (.seq (.reg r1135_13) .ret))))) y h9 (Fin Tryz.prog [.cell 6 55,.tmp 7] fun v h'=>HX h h'∧ProgR (n - a) (resTot n a b L S X) (resJ a.toNat b.toNat X (zipK L S L.length) L.length).2 h.next h' v):=by
  intro e e0 et
  refine WL.seq<|WL.sr<|WOL.mv rfl<|WOL.bt rfl rfl rfl (bne_iff_ne.2 e0)<|WOL.nil<|WL.yes rfl<|WL.sr<|WOL.bd rfl bd1117z<|WOL.mv rfl<|WOL.sto (vs:=[zi 0,.slice none 0 0,.slice none 0 0]) rfl rfl tp1117 A6 rfl rfl (Nat.le_of_ble_eq_true rfl) rfl (f.hx Y) (by omega) fun i1 M1=>WOL.as rfl<|WOL.nil ?_
  rw [et]
  exact WL.ret (WL.endC1 rfl rfl (qab tp1117 M1.at_ rfl (Nat.le_of_ble_eq_true rfl)) ⟨M1.hx _ Y (by omega),.inl ⟨e0,rfl⟩⟩)
 by_cases e0:qae [chordE a b,qbk n L S]≠0
 ·rw [if_pos e0]
  exact kto (fail _ e0 (by unfold resTot;rw [if_pos e0])) ⟨rfl,rfl,rfl,rfl,rfl,trivial⟩
 rw [if_neg e0]
 have e0':=Classical.not_not.1 e0
 have all:=qbb e0'
 obtain ⟨⟨m1,m2⟩,m3,m4,m5,m6,m7⟩:=trace_ok (all (qbk n L S) (by simp))
 obtain ⟨p1,p2,p3,p4⟩:=chord_ok (all (chordE a b) (by simp))
 rw [qao (n:=a+b) (by omega) (by omega),qao (n:=(L.length:Int)+(a+b)) (by omega) (by omega),qao (n:=n+L.length) (by omega) (by omega),qao (n:=n+L.length+b) (by omega) (by omega),end_rng]
 have tot:resTot n a b L S X=if endE a b X≠0 then endE a b X else if rngE n a b L.length≠0 then rngE n a b L.length else (resJ a.toNat b.toNat X (zipK L S L.length) L.length).1:=by unfold resTot;rw [if_neg e0]
 by_cases e1:endE a b X≠0
 ·rw [if_pos e1] at tot ⊢
  exact kto (fail _ e1 tot) ⟨rfl,rfl,rfl,rfl,rfl,trivial⟩
 rw [if_neg e1] at tot ⊢
 by_cases e2:rngE n a b L.length≠0
 ·rw [if_pos e2] at tot
  exact kto (fail _ e2 tot) ⟨rfl,rfl,rfl,rfl,rfl,trivial⟩
 rw [if_neg e2] at tot
 clear fail
 rw [tot,Classical.not_not.1 e2]
 have e1':=Classical.not_not.1 e1
 have e2':=Classical.not_not.1 e2
 clear tot e0 e1 e2
 obtain ⟨p,rfl⟩:∃ p:Nat,a=p:=⟨a.toNat,by omega⟩
 obtain ⟨q,rfl⟩:∃ q:Nat,b=q:=⟨b.toNat,by omega⟩
 rw [Int.toNat_natCast,Int.toNat_natCast]
 have lX':X.length=p+q:=by
  unfold endE at e1'
  cases c:((X.length:Int) != (p:Int)+q) with
  | true=>rw [c] at e1';cases e1'
  | false=>have:=bne_eq_false_iff_eq.1 c;omega
 have hX:∀ x,x ∈ X→qcd x=false:=fun x hx=>by
  unfold endE at e1'
  rw [show ((X.length:Int) != (p:Int)+q)=false from bne_eq_false_iff_eq.2 (by omega)] at e1'
  have:=qbb e1' (readE x) (List.mem_map_of_mem hx)
  unfold qcd
  rw [this];rfl
 have np:(p:Int)≤n:=by
  unfold rngE at e2'
  by_cases c:n < p
  ·rw [decide_eq_true c] at e2';cases e2'
  ·omega
 have lM:L.length+(p+q)≤4096:=by
  unfold rngE at e2'
  rw [show decide (n < (p:Int))=false from decide_eq_false (by omega)] at e2'
  by_cases c:(L.length:Int)+((p:Int)+q) > 4096
  ·rw [decide_eq_true c] at e2';cases e2'
  ·omega
 clear e1' e2'
 refine WL.seq<|WL.sr<|WOL.mv rfl<|WOL.bf rfl rfl rfl rfl<|WOL.nil<|keep [(2,_),(3,_),(4,_),(6,_),(49,_)] ⟨rfl,rfl,rfl,rfl,rfl,trivial⟩<|WL.no rfl<|WL.skip ?_
 have r9:=r.hx Y
 have lt3:=A3.lt
 have lt4:=A4.lt
 refine WL.sr<|WOL.fa rfl (qaf qcf)<|WOL.ld rfl (qaa tp3 A4 rfl)<|WOL.fa rfl (qaf fo1128_0)<|WOL.ld rfl (qaa tp3 A3 rfl)<|WOL.sub (m:=n) (n:=(p:Int)) rfl rfl (by omega) (by omega)<|WOL.fa rfl (qaf qau)<|WOL.ld rfl (qaa tp29 A4 rfl)<|WOL.len rfl r9.l u29<|WOL.ld rfl (qab tp1128 A3 rfl (Nat.le_of_ble_eq_true rfl))<|WOL.al tp1194 fun g1 M1=>?_
 have n1:=M1.next
 refine WOL.lk1 rfl rfl fun M=>((k1199 H (a:=(p:Int)) (b:=(q:Int)) (by omega) (by omega) (by omega) (by omega) _).mono ?_)
 rintro v g2 ⟨rfl,G2⟩
 replace G2:=G2.relock
 generalize g2.withLock g1.lock=g2 at *
 have n2:=G2.next
 have W2:=(Y.trans M1.hx).trans G2
 refine WOL.add (m:=(L.length:Int)) (n:=(p:Int)+q) rfl rfl (by omega) (by omega) ?_
 rw [show (L.length:Int)+((p:Int)+q)=((L.length+(p+q):Nat):Int) by omega]
 refine WOL.lq2 [h9.next] rfl rfl rfl rfl fun M hM=>((k1178 (h:=g2.withLock M) (n:=n - p) (m:=L.length+(p+q)) H (by omega) ((f.on W2).held hM (fun b hb=>by simp at hb;omega))).mono ?_)
 rintro v g3 ⟨G3,hv,hk,rfl,a1,a2,T⟩
 replace G3:=G3.relock
 replace T:RowA (g3.withLock g2.lock) hv hk (List.replicate (L.length+(p+q)) 0) (List.replicate (L.length+(p+q)) false):=⟨T.v.relock _,T.k.relock _,T.e,T.n⟩
 replace a1:g2.next≤hv:=a1
 replace a2:g2.next≤hk:=a2
 generalize g3.withLock g2.lock=g3 at *
 have n3:=G3.next
 have W3:=W2.trans G3
 have t1':=T.v.lt
 have t2':=T.k.lt
 refine WOL.sto (vs:=[zi (n - p),slA hv (L.length+(p+q)),.slice none 0 0,slA hk (L.length+(p+q))]) rfl rfl tp1194 ((M1.at_.hx G2).hx G3) rfl rfl (Nat.le_of_ble_eq_true rfl) rfl (f.hx W3) (by omega) fun g4 P4=>WOL.nil<|keep [(2,_),(3,_),(4,_),(6,_),(9,_)] ⟨rfl,rfl,rfl,rfl,rfl,trivial⟩ ?_
 have n4:=P4.next
 have W4:HX h g4:=P4.hx _ W3 (by omega)
 have Z4:HX h9 g4:=P4.hx _ ((M1.hx.trans G2).trans G3) (Nat.le_refl _)
 have A9:At g4 h9.next (.cells [zi (n - p),slA hv (L.length+(p+q)),.slice none 0 0,slA hk (L.length+(p+q))] true true 148):=P4.at_
 have T4:RowA g4 hv hk (padL (((X.take 0).map fun x=>(x,true)).map fun c=>c.1) 0 (L.length+(p+q))) (padL (((X.take 0).map fun x=>(x,true)).map fun c=>c.2) false (L.length+(p+q))):=⟨P4.oth _ _ (by omega) T.v,P4.oth _ _ (by omega) T.k,T.e,T.n⟩
 replace A3:=A3.hx Z4;replace A4:=A4.hx Z4;replace A6:=A6.hx Z4
 clear P4
 have sX:=s.hx W4
 -- the ends
 refine WL.seq<|WL.sr<|WOL.mv rfl<|WOL.len rfl sX u29<|WOL.mv rfl<|WOL.nil<|keep [(3,_),(4,_),(6,_),(9,_),(64,_),(65,_),(66,_)] ⟨rfl,rfl,rfl,rfl,rfl,rfl,rfl,trivial⟩ ?_
 refine WL.upto (α:=Unit) X.length (fun j _ g=>(∀ h0,HX h0 g4→h0.next≤hv→h0.next≤hk→HX h0 g)∧(∀ c y,c≠hv→c≠hk→At g4 c y→At g c y)∧g4.next≤g.next∧RowA g hv hk (padL (((X.take j).map fun x=>(x,true)).map fun c=>c.1) 0 (L.length+(p+q))) (padL (((X.take j).map fun x=>(x,true)).map fun c=>c.2) false (L.length+(p+q)))) (fun _ _=>[(3,ptr h.next),(4,ptr h1.next),(6,ptr h2.next),(9,ptr h9.next),(64,w),(65,zi (X.length:Nat))]) () rfl rfl (by omega) ⟨fun _ x _ _=>x,fun _ _ _ _ a=>a,Nat.le_refl _,T4⟩ ⟨rfl,rfl,rfl,rfl,rfl,rfl,rfl,trivial⟩ (fun _ _=>rfl) (fun _ _ _=>⟨rfl,rfl,rfl,rfl,rfl,rfl,rfl,trivial⟩) (fun _ _ _=>⟨rfl,rfl,rfl,rfl,rfl,rfl,rfl,trivial⟩) ?_ ?_
 ·rintro j _ g hj ⟨x1,o,nx,ra⟩
  have hp:X[j]?=some X[j]:=List.getElem?_eq_getElem hj
  have ht:X.take (j+1)=X.take j ++ [X[j]]:=(List.take_append_getElem hj).symm
  have Wg:=x1 h W4 (by omega) (by omega)
  obtain ⟨_,_,cc,fix,wr,el,g1',g2',g3',g4',g5'⟩:=(s.hx Wg).at eI u29 tp3 hp .i64
  have gx:=g5' 0 (by decide)
  rw [Nat.add_zero] at gx
  generalize X[j]=x at *
  have lt:(X.take j).length=j:=by rw [List.length_take];omega
  have lv:(padL (((X.take j).map fun x=>(x,true)).map fun c=>c.1) 0 (L.length+(p+q))).length=L.length+(p+q):=padL_len (by rw [List.length_map,List.length_map,lt];omega)
  have B9:=o _ _ (by omega) (by omega) A9
  refine WL.sr<|WOL.mv rfl<|WOL.ix rfl rfl g1'<|WOL.ld rfl (qaa tp3 g2' gx)<|WOL.as rfl<|WOL.as rfl<|WOL.nil<|keep [(3,_),(4,_),(6,_),(9,_),(10,_),(11,_),(64,_),(65,_),(66,_)] ⟨rfl,rfl,rfl,rfl,rfl,rfl,rfl,rfl,rfl,trivial⟩ ?_
  have k:=k1181 (n:=n - p) (x:=x) H ra (i:=j) (by rw [lv];omega) (by omega) (by omega) (by rw [lv];omega) (m:=h.next) (f.hx Wg) (by omega) (by omega)
  rw [lv] at k
  refine WL.reg<|WOL.ld rfl (qab tp1194 B9 rfl (Nat.le_of_ble_eq_true rfl))<|WOL.fa rfl (qaf qdc)<|WOL.fa rfl (qaf qcf)<|WOL.ld rfl (qaa tp3 B9 rfl)<|WOL.mv rfl<|WOL.add (m:=n - (p:Int)) (n:=((j:Nat):Int)) rfl rfl (by omega) (by omega)<|WOL.mv rfl<|WOL.cl3 rfl rfl rfl rfl (k.mono ?_)
  rintro u i6 ⟨z6,r6,o6,n6⟩
  refine WOL.nil fun r k=>⟨(),⟨fun h0 X a b=>z6 _ (x1 h0 X a b) a b,fun c y a b A=>o6 _ _ a b (o _ _ a b A),by omega,?_⟩,k.sub ⟨rfl,rfl,rfl,rfl,rfl,rfl,rfl,trivial⟩⟩
  have e1:=padL_set (l:=((X.take j).map fun x=>(x,true)).map fun c=>c.1) (z:=0) (x:=x) (m:=L.length+(p+q)) (by rw [List.length_map,List.length_map,lt];omega)
  have e2:=padL_set (l:=((X.take j).map fun x=>(x,true)).map fun c=>c.2) (z:=false) (x:=true) (m:=L.length+(p+q)) (by rw [List.length_map,List.length_map,lt];omega)
  rw [List.length_map,List.length_map,lt] at e1 e2
  rw [e1,e2] at r6
  rw [ht,List.map_append,List.map_append,List.map_append]
  exact r6
 ·rintro _ g5 ⟨x5,o5,n5,ra⟩
  have ra:RowA g5 hv hk (padL (((X.take X.length).map fun x=>(x,true)).map fun c=>c.1) 0 (L.length+(p+q))) (padL (((X.take X.length).map fun x=>(x,true)).map fun c=>c.2) false (L.length+(p+q))):=ra
  rw [List.take_length] at ra
  have W5:=x5 h W4 (by omega) (by omega)
  have A3:=o5 _ _ (by omega) (by omega) A3
  have A4:=o5 _ _ (by omega) (by omega) A4
  have A6:=o5 _ _ (by omega) (by omega) A6
  have A9:=o5 _ _ (by omega) (by omega) A9
  refine keep [(3,_),(4,_),(6,_),(9,_)] ⟨rfl,rfl,rfl,rfl,trivial⟩ ?_
  -- the readings
  refine WL.seq<|WL.sr<|WOL.ld rfl (qab tp1128 A3 rfl (Nat.le_of_ble_eq_true rfl))<|WOL.ld rfl (qab tp1117 A4 rfl (Nat.le_of_ble_eq_true rfl))<|WOL.ld rfl (qab tp1194 A9 rfl (Nat.le_of_ble_eq_true rfl)) ?_
  refine WOL.lq1 [h9.next,h.next] rfl rfl rfl fun M hM=>((k1177 H ((r.hx W5).relock M) (by omega) (by omega) (qct m4) ((f.on W5).held hM (fun b hb=>by simp at hb;omega))).mono ?_)
  rintro v g6 ⟨G6,rv,rk,rfl,a3,a4,R⟩
  replace G6:=G6.relock
  replace R:RowA (g6.withLock g5.lock) rv rk L (qav S L.length):=⟨R.v.relock _,R.k.relock _,R.e,R.n⟩
  replace a3:g5.next≤rv:=a3
  replace a4:g5.next≤rk:=a4
  generalize g6.withLock g5.lock=g6 at *
  have n6:=G6.next
  have W6:=W5.trans G6
  have v1:=ra.v.lt
  have v2:=ra.k.lt
  replace A3:=A3.hx G6;replace A4:=A4.hx G6;replace A6:=A6.hx G6;replace A9:=A9.hx G6;replace ra:=ra.hx G6
  have k:=k1200 (n:=n) (p:=p) (q:=q) (E:=X) H R ra (by omega) (by omega) (by omega) (by omega) hX lX' (by omega) (by omega) (by omega) (by omega) m3 (by omega) (by omega) l1 W6 f (by omega) (by omega)
  refine WOL.cl3 rfl rfl rfl rfl (k.mono ?_)
  rintro v g7 ⟨x7,o7,n7,rfl,fin⟩
  have W7:=x7 h W6 (by omega) (by omega)
  have A6:=o7 _ _ (by omega) (by omega) A6
  have A9:=o7 _ _ (by omega) (by omega) A9
  refine WOL.as rfl<|WOL.nil<|keep [(6,_),(9,_),(12,_)] ⟨rfl,rfl,rfl,trivial⟩ ?_
  have fine:=resJ_fine (p:=p) (q:=q) (C:=zipK L S L.length) hX L.length
  have leng:=resJ_len (p:=p) (q:=q) (E:=X) (C:=zipK L S L.length) L.length
  generalize hJ:resJ p q X (zipK L S L.length) L.length=J at *
  obtain ⟨er,C⟩:=J
  replace fine:HFine C:=fine
  by_cases e3:er=0
  ·subst e3
   have ra:=fin rfl
   replace leng:C.length=X.length+L.length:=leng rfl
   have lc:(C.map fun c=>c.1).length=L.length+(p+q):=by rw [List.length_map];omega
   refine WL.sr<|WOL.mv rfl<|WOL.bf rfl rfl rfl rfl<|WOL.nil<|WL.no rfl<|WL.skip ?_
   have kk:=k1186 (n:=n - p) H ra (by rw [lc];omega) (f.on W7)
   rw [lc] at kk
   refine WL.sr<|WOL.ld rfl (qab tp1194 A9 rfl (Nat.le_of_ble_eq_true rfl))<|WOL.cl1 rfl rfl (kk.mono ?_)
   rintro v g8 ⟨G8,w8,rfl,to⟩
   obtain ⟨b2,m2,k2,rfl⟩:=to.form
   have W8:=W7.trans G8
   refine WOL.sto (vs:=[zi (n - p),slA hv (L.length+(p+q)),.slice b2 m2 k2]) rfl rfl tp1117 (A6.hx G8) rfl rfl (Nat.le_of_ble_eq_true rfl) rfl (f.hx W8) (by omega) fun i1 M1=>WOL.as rfl<|WOL.nil ?_
   refine WL.ret (WL.endC1 rfl rfl (qab tp1117 M1.at_ rfl (Nat.le_of_ble_eq_true rfl)) ⟨M1.hx _ W8 (by omega),.inr (.inr ⟨rfl,fine.big,hv,_,by rw [show C.length=L.length+(p+q) by omega];rfl,by omega,?_⟩)⟩)
   rw [fine.val]
   exact (to.put M1 (by omega) (by omega)).low (by omega)
  ·refine WL.sr<|WOL.mv rfl<|WOL.bt rfl rfl rfl (bne_iff_ne.2 e3)<|WOL.nil<|WL.yes rfl<|WL.sr<|WOL.bd rfl bd1117z<|WOL.mv rfl<|WOL.sto (vs:=[zi 0,.slice none 0 0,.slice none 0 0]) rfl rfl tp1117 A6 rfl rfl (Nat.le_of_ble_eq_true rfl) rfl (f.hx W7) (by omega) fun i1 M1=>WOL.as rfl<|WOL.nil ?_
   exact WL.ret (WL.endC1 rfl rfl (qab tp1117 M1.at_ rfl (Nat.le_of_ble_eq_true rfl)) ⟨M1.hx _ W7 (by omega),.inl ⟨e3,rfl⟩⟩)
end
end Go.Tidy
namespace Go.Tidy
open Go Go.Proofs Tab
variable {tp:TProg}
def agreeB (A B:List Int) (KA KB:List Bool) (m:Nat):Bool:=(List.range m).all fun i=>!(KA.getD i false && KB.getD i false && (A.getD i 0 != B.getD i 0))
section
variable {A B:List Int} {KA KB:List Bool} {j m:Nat}
theorem agree_succ (h:agreeB A B KA KB j=true) (hj:(KA.getD j false && KB.getD j false && (A.getD j 0 != B.getD j 0))=false):agreeB A B KA KB (j+1)=true:=by
 unfold agreeB at h ⊢
 rw [List.range_succ,List.all_append,h]
 simp only [List.all_cons,List.all_nil,hj]
 rfl
theorem agree_not (h:j < m) (hj:(KA.getD j false && KB.getD j false && (A.getD j 0 != B.getD j 0))=true):agreeB A B KA KB m=false:=by
 cases hc:agreeB A B KA KB m with
 | false=>rfl
 | true =>
  unfold agreeB at hc
  have:=List.all_eq_true.1 hc j (List.mem_range.2 h)
  rw [hj] at this
  exact absurd this (by decide)
end
section
variable {h:TH} {n:Int} {A B:List Int} {KA KB:List Bool} {av ak bv bk:Nat}
set_option maxHeartbeats 4000000 in
set_option maxRecDepth 10000 in
theorem k1201 (H:Has tp) (R:RowA h av ak A KA) (T:RowA h bv bk B KB) (hl:B.length=A.length) (n0:0≤n) (n1:n≤1000000000) (lA:A.length≤1000000) (f:Free0 h.next h) :
    qad Tryz.prog tp (.func (.func 105) #[] #[]) #[rowV n (slA av A.length) (slA ak A.length),rowV n (slA bv A.length) (slA bk A.length)] h fun v h'=>v=.bool (agreeB A B KA KB A.length)∧HX h h':=by
  refine qad.fnL (H.fn 105 f1201 rfl rfl) ?_
  refine WL.sr<|WOL.box rfl fun h1 N1=>WOL.box rfl fun h2 N2=>WOL.as rfl<|WOL.nil<|keep [(2,_),(3,_),(4,_)] ⟨rfl,rfl,rfl,trivial⟩ ?_
  have q1:=N1.next
  have q2:=N2.next
  refine WL.sr<|WOL.al tp4 fun h3 N3=>WOL.sto (vs:=[.bool true]) rfl rfl tp4 N3.at_ rfl rfl (Nat.le_of_ble_eq_true rfl) rfl (f.hx ((N1.hx.trans N2.hx).trans N3.hx)) (by omega) fun h4 P4=>WOL.nil<|keep [(2,_),(3,_),(4,_),(5,_)] ⟨rfl,rfl,rfl,rfl,trivial⟩ ?_
  have q3:=N3.next
  have q4:=P4.next
  have X4:HX h h4:=P4.hx _ ((N1.hx.trans N2.hx).trans N3.hx) (by omega)
  have A2:At h4 h.next (.cells [zi n,slA av A.length,.slice none 0 0,slA ak A.length] true true 148):=P4.oth _ _ (by omega) ((N1.at_.hx N2.hx).hx N3.hx)
  have A3:At h4 h1.next (.cells [zi n,slA bv A.length,.slice none 0 0,slA bk A.length] true true 148):=P4.oth _ _ (by omega) (N2.at_.hx N3.hx)
  have A5:At h4 h2.next (.cells [.bool true] true true 4):=P4.at_
  refine WL.seq<|WL.skip<|WL.seq<|WL.sr<|WOL.fa rfl (qaf qdc)<|WOL.ld rfl (qab tp1117 A2 (l:=[zi n,slA av A.length,.slice none 0 0]) rfl (Nat.le_of_ble_eq_true rfl))<|WOL.cl1 rfl rfl ((k1179 H h4).mono ?_)
  rintro v h5 ⟨cc,rfl,X5,Ac,ac⟩
  have q5:=X5.next
  have lc:=Ac.lt
  have Y5:=X4.trans X5
  replace A2:=A2.hx X5;replace A3:=A3.hx X5;replace A5:=A5.hx X5
  have R5:=R.hx Y5
  have T5:=T.hx Y5
  have lr1:=R.v.lt
  have lr2:=R.k.lt
  have lt1:=T.v.lt
  have lt2:=T.k.lt
  refine WOL.nil<|keep [(2,_),(3,_),(4,_),(5,_),(13,_)] ⟨rfl,rfl,rfl,rfl,rfl,trivial⟩ ?_
  refine WL.block<|WL.rangeX rfl (H.fn 164 f1224 rfl rfl) (yX1224 (v1:=slA av A.length) (v2:=.slice none 0 0) H (n:=n) n0 n1 (m:=A.length) lA) (fun j g=>agreeB A B KA KB j=true∧HX h g∧(∀ c y,c≠h2.next→At h5 c y→At g c y)∧h5.next≤g.next∧At g h2.next (.cells [.bool true] true true 4)) (fun e g=>e=.exit 0∧agreeB A B KA KB A.length=false∧HX h g∧h5.next≤g.next∧At g h2.next (.cells [.bool false] true true 4)) ?_ ?_ ?_ ?_ ?_ ?_ ?_ ?_ ?_
  · rintro j g ⟨_,_,o,_⟩
    exact ⟨o _ _ (by omega) Ac,A,rfl,SlL.own eI (o _ _ (by omega) R5.v) rfl⟩
  · rintro j g ⟨_,X,o,nx,_⟩
    exact (f.hx X).up (by omega)
  · rintro e g ⟨_,_,X,nx,_⟩
    exact (f.hx X).up (by omega)
  · rintro j g g' x ⟨z0,X,o,nx,A⟩ P
    exact ⟨z0,P.hx _ X (by omega),fun c y a A=>P.oth _ _ (by have:=A.lt;omega) (o _ _ a A),by rw [P.next];exact nx,P.oth _ _ (by omega) A⟩
  · rintro e g g' x ⟨ee,z0,X,nx,A⟩ P
    exact ⟨ee,z0,P.hx _ X (by omega),by rw [P.next];exact nx,P.oth _ _ (by omega) A⟩
  · rintro g x N
    have:=N.next
    exact ⟨rfl,Y5.trans N.hx,fun c y _ A=>A.hx N.hx,by omega,A5.hx N.hx⟩
  · rintro j g x hj _ A'
    refine WL.reg<|WOL.as rfl<|WOL.nil ?_
    intro r' hr
    refine ⟨rfl,rfl,fun g2 xx ⟨z0,X,o,nx,B5⟩ A1=>?_⟩
    refine hr.go ?_
    have B2:=o _ _ (by omega) A2
    have B3:=o _ _ (by omega) A3
    have RR:RowA g2 av ak A KA:=⟨o _ _ (by omega) R5.v,o _ _ (by omega) R5.k,R5.e,R5.n⟩
    have TT:RowA g2 bv bk B KB:=⟨o _ _ (by omega) T5.v,o _ _ (by omega) T5.k,T5.e,T5.n⟩
    refine WL.block<|WL.sr<|WOL.ld rfl (qab tp1194 B2 rfl (Nat.le_of_ble_eq_true rfl))<|WOL.mv rfl<|WOL.cl2 rfl rfl rfl ((k1180 (n:=n) H RR hj n0 n1 lA).mono ?_)
    rintro u i1 ⟨rfl,M1⟩
    refine WOL.mv rfl<|WOL.ex rfl rfl<|WOL.ex rfl rfl<|WOL.as rfl<|WOL.as rfl<|WOL.nil<|keep [(2,_),(3,_),(4,_),(5,_),(6,_),(7,_),(8,_)] ⟨rfl,rfl,rfl,rfl,rfl,rfl,rfl,trivial⟩ ?_
    have k2:=k1180 (n:=n) (i:=j) H (TT.hx M1) (by omega) n0 n1 (by omega)
    rw [hl] at k2
    refine WL.sr<|WOL.ld rfl (qab tp1194 (B3.hx M1) rfl (Nat.le_of_ble_eq_true rfl))<|WOL.mv rfl<|WOL.cl2 rfl rfl rfl (k2.mono ?_)
    rintro u i2 ⟨rfl,M2⟩
    refine WOL.mv rfl<|WOL.ex rfl rfl<|WOL.ex rfl rfl<|WOL.as rfl<|WOL.as rfl<|WOL.nil<|keep [(4,_),(5,_),(7,_),(8,_),(9,_),(10,_)] ⟨rfl,rfl,rfl,rfl,rfl,rfl,trivial⟩ ?_
    have M:=M1.trans M2
    have mn:=M.next
    have AM:=A1.hx M
    have on:(KA.getD j false && KB.getD j false && (A.getD j 0 != B.getD j 0))=false→agreeB A B KA KB (j+1)=true∧HX h i2∧(∀ c y,c≠h2.next→At h5 c y→At i2 c y)∧h5.next≤i2.next∧At i2 h2.next (.cells [.bool true] true true 4):=fun e=>⟨agree_succ z0 e,X.trans M,fun c y a A=>(o _ _ a A).hx M,by omega,B5.hx M⟩
    have off:=agree_not (A:=A) (B:=B) (KA:=KA) (KB:=KB) (j:=j) hj
    clear k2 B2 B3 RR TT
    generalize KA.getD j false=ka at *
    generalize KB.getD j false=kb at *
    cases ka with
    | false=>exact WL.block<|WL.sr<|WOL.mv rfl<|WOL.nt rfl<|WOL.mv rfl<|WOL.skp (b:=true) rfl rfl<|WOL.skp (b:=true) rfl rfl<|WOL.pkt rfl rfl<|WOL.as rfl<|WOL.nil<|WL.yes rfl<|WL.exit fun r k=>⟨.inl ⟨rfl,on rfl⟩,AM⟩
    | true =>
      cases kb with
      | false=>exact WL.block<|WL.sr<|WOL.mv rfl<|WOL.nt rfl<|WOL.mv rfl<|WOL.now (b:=false) rfl rfl<|WOL.mv rfl<|WOL.now (b:=false) rfl rfl<|WOL.nt rfl<|WOL.pkf rfl rfl<|WOL.as rfl<|WOL.nil<|WL.yes rfl<|WL.exit fun r k=>⟨.inl ⟨rfl,on rfl⟩,AM⟩
      | true =>
        refine WL.block<|WL.sr<|WOL.mv rfl<|WOL.nt rfl<|WOL.mv rfl<|WOL.now (b:=false) rfl rfl<|WOL.mv rfl<|WOL.now (b:=false) rfl rfl<|WOL.nt rfl<|WOL.pkf rfl rfl<|WOL.as rfl<|WOL.nil<|WL.no rfl ?_
        by_cases e:A.getD j 0=B.getD j 0
        · refine WL.sr<|WOL.mv rfl<|WOL.mv rfl<|WOL.bf rfl rfl rfl (bne_eq_false_iff_eq.2 e)<|WOL.as rfl<|WOL.nil<|WL.no rfl<|WL.skip fun r k=>⟨.inl ⟨rfl,on ?_⟩,AM⟩
          rw [e,bne_self_eq_false];rfl
        · refine WL.sr<|WOL.mv rfl<|WOL.mv rfl<|WOL.bt rfl rfl rfl (bne_iff_ne.2 e)<|WOL.as rfl<|WOL.nil<|WL.yes rfl<|WL.sr<|WOL.sto (vs:=[.bool false]) rfl rfl tp4 (B5.hx M) rfl rfl (Nat.le_of_ble_eq_true rfl) rfl (f.hx (X.trans M)) (by omega) fun i3 M3=>WOL.nil ?_
          have m3:=M3.next
          refine WL.exit fun r k=>⟨.inr ⟨.inr ⟨0,rfl⟩,rfl,off ?_,M3.hx _ (X.trans M) (by omega),by omega,M3.at_⟩,M3.oth _ _ (by omega) AM⟩
          rw [bne_iff_ne.2 e];rfl
  · rintro g ⟨z0,X,o,nx,A⟩
    refine WL.sr<|WOL.ld rfl (qaa tp4 A rfl)<|WOL.as rfl<|WOL.nil<|WL.ret (WL.end_ rfl ⟨?_,X⟩)
    rw [z0];rfl
  · rintro _ g ⟨rfl,z0,X,nx,A⟩
    refine WL.sr<|WOL.ld rfl (qaa tp4 A rfl)<|WOL.as rfl<|WOL.nil<|WL.ret (WL.end_ rfl ⟨?_,X⟩)
    rw [z0];rfl
end
end Go.Tidy
namespace Go.Tidy
open Go Go.Proofs Tab
variable {tp:TProg}
def agnR (n:Int) (p q:Nat) (L:List Int) (S:List (Int × Int)) (n':Int) (L':List Int) (S':List (Int × Int)):Bool × Int :=
  if L.length≤p+q then (false,16) else if bigC (qbx L S (vTn p q) (L.length - (p+q)))=true then (false,4) else if ¬ (n+p=n'∧L.length - (p+q)=L'.length) then (false,2) else
    (agreeB (qcr (qbx L S (vTn p q) (L.length - (p+q)))) L' ((qbx L S (vTn p q) (L.length - (p+q))).map fun c=>c.2) (qav S' L'.length) L'.length,0)
def agnO (n a b:Int) (L:List Int) (S:List (Int × Int)) (n':Int) (L':List Int) (S':List (Int × Int)):Bool × Int :=
 if qae [chordE a b,qbk n L S,qbk n' L' S']≠0 then (false,qae [chordE a b,qbk n L S,qbk n' L' S']) else agnR n a.toNat b.toNat L S n' L' S'
theorem TrcO.relock {n0 bv:Nat} {g:TH} {w:Value} {L:List Int} {S:List (Int × Int)} (r:TrcO n0 g bv w L S) (M:List Nat):TrcO n0 (g.withLock M) bv w L S:=⟨r.v.relock _,r.s.keep fun z y hz a=>a.relock _⟩
section
variable {h:TH} {n n' a b:Int} {v1 v2 w1 w2:Value} {L L':List Int} {S S':List (Int × Int)}
set_option maxHeartbeats 8000000 in
set_option maxRecDepth 10000 in
theorem k1137 (H:Has tp) (r:TrcH h v1 v2 L S) (r':TrcH h w1 w2 L' S') (l1:L.length≤900000) (t1:S.length≤900000) (l2:L'.length≤900000) (t2:S'.length≤900000) (f:Free0 h.next h) :
  qad Tryz.prog tp (.func (.func 36) #[] #[]) #[.agg #[zi a,zi b],trcV n v1 v2,trcV n' w1 w2] h fun v h'=>v=.tuple #[.bool (agnO n a b L S n' L' S').1,zi (agnO n a b L S n' L' S').2]∧HX h h':=by
 refine qad.fnL (H.fn 36 f1137 rfl rfl) ?_
 obtain ⟨b1,k1,e1,_⟩:=id r.l
 obtain ⟨b2,k2,e2,_⟩:=id r.s
 obtain ⟨b3,k3,e3,_⟩:=id r'.l
 obtain ⟨b4,k4,e4,_⟩:=id r'.s
 subst e1 e2 e3 e4
 refine WL.sr<|WOL.box rfl fun h1 N1=>WOL.box rfl fun h2 N2=>WOL.box rfl fun h3 N3=>WOL.as rfl<|WOL.as rfl<|WOL.nil<|keep [(3,_),(4,_),(5,_)] ⟨rfl,rfl,rfl,trivial⟩ ?_
 have q1:=N1.next
 have q2:=N2.next
 have q3:=N3.next
 have A3:At h3 h.next (.cells [zi a,zi b] true true 31):=(N1.at_.hx N2.hx).hx N3.hx
 have A4:At h3 h1.next (.cells [zi n,.slice b1 L.length k1,.slice b2 S.length k2] true true 55):=N2.at_.hx N3.hx
 have A5:At h3 h2.next (.cells [zi n',.slice b3 L'.length k3,.slice b4 S'.length k4] true true 55):=N3.at_
 have X3:=(N1.hx.trans N2.hx).trans N3.hx
 refine WL.seq<|WL.sr<|WOL.ld rfl (qab tp1128 A3 rfl (Nat.le_of_ble_eq_true rfl))<|WOL.ld rfl (qab tp1117 A4 rfl (Nat.le_of_ble_eq_true rfl))<|WOL.ld rfl (qab tp1117 A5 rfl (Nat.le_of_ble_eq_true rfl)) ?_
 refine WOL.lk1 rfl rfl fun M=>((k1121 H a b _).mono ?_)
 rintro v h4 ⟨rfl,X4⟩
 replace X4:=X4.relock
 generalize h4.withLock h3.lock=h4 at *
 have Y4:=X3.trans X4
 have y4:=X4.next
 refine WOL.lq1 [h2.next] rfl rfl rfl fun M hM=>((k1123 (n:=n) H ((r.hx Y4).relock M) (by omega) (by omega) ((f.on Y4).held hM (fun b hb=>by simp at hb;omega))).mono ?_)
 rintro v h5 ⟨rfl,X5⟩
 replace X5:=X5.relock
 generalize h5.withLock h4.lock=h5 at *
 have Y5:=Y4.trans X5
 refine WOL.cl1 rfl rfl ((k1123 (n:=n') H (r'.hx Y5) (by omega) (by omega) (f.on Y5)).mono ?_)
 rintro v h6 ⟨rfl,X6⟩
 refine WOL.bsl rfl u166 tp30 (by decide) (by decide) (by decide) (filled_ints3 _ _ _) fun h7 N7=>WOL.cl1 rfl rfl ((k71 H (l:=[_,_,_]) N7.at_.get (by simp)).mono ?_)
 rintro v h7 ⟨rfl,rfl⟩
 have Z:=((X4.trans X5).trans X6).trans N7.hx
 have Y:=X3.trans Z
 replace A3:=A3.hx Z;replace A4:=A4.hx Z;replace A5:=A5.hx Z
 have yn:=Z.next
 have fY:=f.hx Y
 refine WOL.as rfl<|WOL.nil<|keep [(3,_),(4,_),(5,_),(8,_)] ⟨rfl,rfl,rfl,rfl,trivial⟩ ?_
 unfold agnO
 generalize hE:qae [chordE a b,qbk n L S,qbk n' L' S']=E
 by_cases e0:E≠0
 ·rw [if_pos e0]
  exact WL.sr<|WOL.mv rfl<|WOL.bt rfl rfl rfl (bne_iff_ne.2 e0)<|WOL.nil<|WL.yes rfl<|WL.sr<|WOL.mv rfl<|WOL.as rfl<|WOL.as rfl<|WOL.nil<|WL.ret (WL.end_ rfl ⟨rfl,Y⟩)
 rw [if_neg e0]
 have e0:E=0:=Classical.not_not.1 e0
 subst e0
 have all:=qbb hE
 obtain ⟨⟨m1,m2⟩,m3,m4,m5,m6,m7⟩:=trace_ok (all (qbk n L S) (by simp))
 obtain ⟨⟨m1',m2'⟩,m3',m4',m5',m6',m7'⟩:=trace_ok (all (qbk n' L' S') (by simp))
 obtain ⟨p1,p2,p3,p4⟩:=chord_ok (all (chordE a b) (by simp))
 obtain ⟨p,rfl⟩:∃ p:Nat,a=p:=⟨a.toNat,by omega⟩
 obtain ⟨q,rfl⟩:∃ q:Nat,b=q:=⟨b.toNat,by omega⟩
 rw [Int.toNat_natCast,Int.toNat_natCast]
 refine WL.sr<|WOL.mv rfl<|WOL.bf rfl rfl rfl rfl<|WOL.nil<|WL.no rfl<|WL.skip<|keep [(3,_),(4,_),(5,_)] ⟨rfl,rfl,rfl,trivial⟩ ?_
 -- measured
 refine WL.sr<|WOL.ld rfl (qab tp1117 A4 rfl (Nat.le_of_ble_eq_true rfl))<|WOL.ld rfl (qab tp1128 A3 rfl (Nat.le_of_ble_eq_true rfl))<|WOL.al tp1117 fun h8 N8=>?_
 have q8:=N8.next
 have Y8:=Y.trans N8.hx
 refine WOL.lk1 rfl rfl fun M=>((k1194 H (a:=p) (b:=q) (by omega) (by omega) (by omega) (by omega) _).mono ?_)
 rintro v g1 ⟨Xg,c,rfl,hc,Ac⟩
 replace Xg:=Xg.relock
 replace Ac:=Ac.relock h8.lock
 replace hc:h8.next≤c:=hc
 generalize g1.withLock h8.lock=g1 at *
 rw [← vTapD] at Ac
 have Yg:=Y8.trans Xg
 have xg:=Xg.next
 refine WOL.lq2 [h7.next] rfl rfl rfl rfl fun M hM=>((k1193 (n:=n) (W:=p+q) (c:=-(p:Int)) H ((r.hx Yg).relock M) ((SlL.own eS Ac rfl).relock M) (vTaps (by omega) (by omega) (by omega) (by omega)) m3 m1 m2 (by omega) (by omega) (by omega) l1 (by omega) (qct m4) (by omega) ((f.on Yg).held hM (fun b hb=>by simp at hb;omega))).mono ?_)
 rintro v g2 ⟨X2,R⟩
 replace X2:=X2.relock
 rw [Int.sub_neg] at R
 have x2:=X2.next
 have Y2:=Yg.trans X2
 have B4:=((A4.hx N8.hx).hx Xg).hx X2
 have B5:=((A5.hx N8.hx).hx Xg).hx X2
 have B9:=(N8.at_.hx Xg).hx X2
 have l4:=B4.lt
 unfold agnR
 rcases R with ⟨he,rfl⟩ | ⟨he,hb,rfl⟩ | ⟨he,hb,bv,w,rfl,hv,to⟩
 ·have hc':L.length≤p+q:=by
   by_cases hh:L.length≤p+q
   ·exact hh
   ·rw [decide_eq_false hh] at he;exact absurd rfl he
  rw [decide_eq_true hc',if_pos hc']
  exact WOL.mv rfl<|WOL.ex rfl rfl<|WOL.ex rfl rfl<|WOL.sto (vs:=[zi 0,.slice none 0 0,.slice none 0 0]) rfl rfl tp1117 B9 rfl rfl (Nat.le_of_ble_eq_true rfl) rfl (f.hx Y2) (by omega) fun i1 M1=>WOL.as rfl<|WOL.nil<|WL.seq<|WL.sr<|WOL.mv rfl<|WOL.bt rfl rfl rfl rfl<|WOL.nil<|WL.yes rfl<|WL.sr<|WOL.mv rfl<|WOL.as rfl<|WOL.as rfl<|WOL.nil<|WL.ret (WL.end_ rfl ⟨rfl,M1.hx _ Y2 (by omega)⟩)
 ·have hc':¬ L.length≤p+q:=fun hh=>by
   rw [decide_eq_true hh] at he;exact absurd he (by decide)
  rw [if_neg hc',if_pos hb]
  exact WOL.mv rfl<|WOL.ex rfl rfl<|WOL.ex rfl rfl<|WOL.sto (vs:=[zi 0,.slice none 0 0,.slice none 0 0]) rfl rfl tp1117 B9 rfl rfl (Nat.le_of_ble_eq_true rfl) rfl (f.hx Y2) (by omega) fun i1 M1=>WOL.as rfl<|WOL.nil<|WL.seq<|WL.sr<|WOL.mv rfl<|WOL.bt rfl rfl rfl rfl<|WOL.nil<|WL.yes rfl<|WL.sr<|WOL.mv rfl<|WOL.as rfl<|WOL.as rfl<|WOL.nil<|WL.ret (WL.end_ rfl ⟨rfl,M1.hx _ Y2 (by omega)⟩)
 ·have hc':¬ L.length≤p+q:=fun hh=>by
   rw [decide_eq_true hh] at he;exact absurd he (by decide)
  rw [if_neg hc',if_neg (by rw [hb];decide)]
  replace to:TrcO g1.next (g2.withLock g1.lock) bv w _ _:=to.relock g1.lock
  replace hv:g1.next≤bv:=hv
  generalize g2.withLock g1.lock=g2 at *
  obtain ⟨b5,l5,k5,rfl⟩:=to.form
  have lC:(qbx L S (vTn p q) (L.length - (p+q))).length=L.length - (p+q):=qbh
  have lD:((qbx L S (vTn p q) (L.length - (p+q))).map fun c=>c.2).length=L.length - (p+q):=by rw [List.length_map,lC]
  have ho:=holes_ok ((qbx L S (vTn p q) (L.length - (p+q))).map fun c=>c.2)
  have kh:=known_holes ((qbx L S (vTn p q) (L.length - (p+q))).map fun c=>c.2)
  have lh:=qbu ((qbx L S (vTn p q) (L.length - (p+q))).map fun c=>c.2)
  have lV:(qcr (qbx L S (vTn p q) (L.length - (p+q)))).length=L.length - (p+q):=by unfold qcr;rw [List.length_map,lC]
  rw [lD] at ho kh lh
  rw [lC]
  generalize qbx L S (vTn p q) (L.length - (p+q))=C at *
  refine WOL.mv rfl<|WOL.ex rfl rfl<|WOL.ex rfl rfl<|WOL.sto (vs:=[zi (n+p),slA bv _,.slice b5 l5 k5]) rfl rfl tp1117 B9 rfl rfl (Nat.le_of_ble_eq_true rfl) rfl (f.hx Y2) (by omega) fun g3 P3=>WOL.as rfl<|WOL.nil<|keep [(4,_),(5,_),(9,_),(10,_)] ⟨rfl,rfl,rfl,rfl,trivial⟩ ?_
  have Y3:HX h g3:=P3.hx _ Y2 (by omega)
  have p3:=P3.next
  replace to:=to.put P3 (by omega) (by omega)
  have C9:=P3.at_
  have C5:=P3.oth _ _ (by omega) B5
  have ro:=to.trc
  rw [lV] at ro
  refine WL.seq<|WL.sr<|WOL.mv rfl<|WOL.bf rfl rfl rfl rfl<|WOL.nil<|WL.no rfl<|WL.skip<|keep [(4,_),(5,_),(9,_)] ⟨rfl,rfl,rfl,trivial⟩ ?_
  refine WL.seq<|WL.sr<|WOL.ld rfl (qab tp1117 C9 rfl (Nat.le_of_ble_eq_true rfl))<|WOL.ld rfl (qab tp1117 C5 rfl (Nat.le_of_ble_eq_true rfl))<|WOL.cl2 rfl rfl rfl ((k1176 (n:=n+p) (n':=n') H ro.l (r'.hx Y3).l).mono ?_)
  rintro v g4 ⟨rfl,X4'⟩
  rw [lV]
  have Y4':=Y3.trans X4'
  have x4:=X4'.next
  replace C9:=C9.hx X4';replace C5:=C5.hx X4';replace ro:=ro.hx X4'
  by_cases hs:n+p=n'∧L.length - (p+q)=L'.length
  ·rw [if_neg (fun c=>c hs),decide_eq_true hs]
   obtain ⟨rfl,hs⟩:=hs
   refine WOL.nt rfl<|WOL.nil<|WL.no rfl<|WL.skip<|keep [(4,_),(5,_),(9,_)] ⟨rfl,rfl,rfl,trivial⟩ ?_
   refine WL.sr<|WOL.ld rfl (qab tp1117 C9 rfl (Nat.le_of_ble_eq_true rfl))<|WOL.ld rfl (qab tp1117 C5 rfl (Nat.le_of_ble_eq_true rfl)) ?_
   refine WOL.lq1 [h2.next] rfl rfl rfl fun M hM=>((k1177 (n:=n+p) H (ro.relock M) (by omega) (by omega) (by rw [lV];exact qct ho) ((f.on Y4').held hM (fun b hb=>by simp at hb;omega))).mono ?_)
   rintro v g5 ⟨X5',av,ak,rfl,ha1,ha2,RA⟩
   replace X5':=X5'.relock
   replace RA:RowA (g5.withLock g4.lock) av ak _ _:=⟨RA.v.relock _,RA.k.relock _,RA.e,RA.n⟩
   generalize g5.withLock g4.lock=g5 at *
   have Y5':=Y4'.trans X5'
   refine WOL.cl1 rfl rfl ((k1177 (n:=n+p) H (r'.hx Y5') (by omega) (by omega) (qct m4') (f.on Y5')).mono ?_)
   rintro v g6 ⟨X6',cv,ck,rfl,hc1,hc2,RB⟩
   have Y6':=Y5'.trans X6'
   rw [lV,kh] at RA
   have kk:=k1201 (n:=n+p) H (RA.hx X6') RB (by omega) (by omega) (by omega) (by omega) (f.on Y6')
   rw [lV,hs] at kk
   rw [lV,hs]
   refine WOL.cl2 rfl rfl rfl (kk.mono ?_)
   rintro v g7 ⟨rfl,X7'⟩
   exact WOL.as rfl<|WOL.as rfl<|WOL.nil<|WL.ret (WL.end_ rfl ⟨rfl,Y6'.trans X7'⟩)
  ·rw [if_pos hs,decide_eq_false hs]
   exact WOL.nt rfl<|WOL.nil<|WL.yes rfl<|WL.sr<|WOL.as rfl<|WOL.as rfl<|WOL.nil<|WL.ret (WL.end_ rfl ⟨rfl,Y4'⟩)
end
end Go.Tidy
namespace Go.Tidy
open Go Go.Proofs Tab
variable {tp:TProg}
section
variable {h:TH} {n n':Int} {p q:Nat} {v1 v2 w1 w2:Value} {L L':List Int} {S S':List (Int × Int)}
theorem knownL_getD {S:List (Int × Int)} {m i:Nat} (hi:i < m):(qav S m).getD i false=qam S (i:Nat):=by
 rw [List.getD_eq_getElem?_getD,qea hi];rfl
end
end Go.Tidy
namespace Go.Tidy
open Go Go.Proofs Tab
variable {tp:TProg}
section
variable {h0 h:TH} {n:Int} {b1 b2:Option Addr} {k1 k2 cb:Nat} {L:List Int} {S:List (Int × Int)} {T:Int}
set_option maxHeartbeats 4000000 in
set_option maxRecDepth 10000 in
theorem k1117bw (H:Has tp) (r:TrcH h (.slice b1 L.length k1) (.slice b2 S.length k2) L S) (hL:L.length≤900000) (f:Free0 h.next h) (X0:HX h0 h) (A1:At h cb (.cells [zi n,.slice b1 L.length k1,.slice b2 S.length k2] true true 52)) (eT:T=cond (qay L.length (-1) S != 0) (qay L.length (-1) S) (formE L S)) :
    ∀ a,Kn [(1,ptr cb)] a→W Tryz.prog tp false cd1117b a h (Fin Tryz.prog [.tmp 2] fun v h'=>v=zi T∧HX h0 h'):=by
  have l1:=A1.lt
  unfold cd1117b
  refine WL.seq<|WL.sr<|WOL.as rfl<|WOL.nil<|keep [(1,_),(6,_)] ⟨rfl,rfl,trivial⟩ ?_
  refine WL.forz (α:=Int) S.length (fun j prev g=>HX h g∧qay L.length (-1) S=qay L.length prev (S.drop j)∧(((j:Nat):Int)≤prev+1∧prev≤(L.length:Nat))∧((j=0∧prev=-1)∨(0 < j∧∃ q,S[j - 1]?=some q∧q.2=prev))) (fun j _=>[(1,ptr cb),(6,zi (j:Nat))]) (fun j _=>[(1,ptr cb),(6,zi (j:Nat))]) (-1) ⟨HX.refl _,rfl,⟨by omega,by omega⟩,.inl ⟨rfl,rfl⟩⟩ ⟨rfl,rfl,trivial⟩ ?_ ?_ (fun _ _ _=>⟨rfl,rfl,trivial⟩) ?_ ?_
  · rintro j _ g hj ⟨X,_,_,_⟩
    exact WOL.mv rfl<|WOL.fa rfl (qaf qdk)<|WOL.ld rfl (qaa tp44 (A1.hx X) rfl)<|WOL.len rfl (r.s.hx X) u44<|WOL.bi rfl rfl rfl<|WOL.nil fun a q=>⟨rfl,q.sub ⟨rfl,rfl,rfl,trivial⟩⟩
  · rintro j pv g hj hH
    have hb:=hH.2.2.1
    exact WOL.mv rfl<|WOL.inc rfl (by omega)<|WOL.as rfl<|WOL.nil fun a q=>⟨hH,q.sub ⟨rfl,rfl,trivial⟩⟩
  · rintro j prev g hj ⟨X,hE,hbd,hprev⟩
    have hp:S[j]?=some S[j]:=List.getElem?_eq_getElem hj
    have hd:S.drop j=S[j]::S.drop (j+1):=List.drop_eq_getElem_cons hj
    generalize S[j]=p at hp hd
    obtain ⟨p1,p2⟩:=p
    rw [hd,qcz] at hE
    obtain ⟨b,o,cc,fix,wr,el,g1,g2,g3,g4,g5⟩:=(r.s.hx X).at eS u44 tp48 hp .i64
    have A1':=A1.hx X
    refine WL.sr<|WOL.fa rfl (qaf qdk)<|WOL.ld rfl (qaa tp44 A1' rfl)<|WOL.mv rfl<|WOL.ix rfl rfl g1<|WOL.ld rfl (qab tp48 g2 g4 g3)<|WOL.al tp48 fun i1 M1=>?_
    refine WOL.sto (vs:=encS (p1,p2)) rfl rfl tp48 M1.at_ rfl rfl (Nat.le_of_ble_eq_true rfl) rfl (f.hx (X.trans M1.hx)) X.next fun i2 M2=>?_
    have A7:At i2 g.next (.cells [zi p1,zi p2] true true 77):=M2.at_
    have XI:HX g i2:=M2.hx _ M1.hx (Nat.le_refl _)
    have r2:=r.hx (X.trans XI)
    replace A1':=A1'.hx XI
    have Z:=X0.trans (X.trans XI)
    refine WOL.nil<|keep [(1,_),(6,_),(7,_)] ⟨rfl,rfl,rfl,trivial⟩ ?_
    by_cases c1:p1 < 0
    · rw [show badS L.length (p1,p2)=true by unfold badS;rw [decide_eq_true c1];rfl] at hE
      replace hE:qay L.length (-1) S=14:=hE
      refine WL.seq<|WL.sr ?_
      repeat' (first
    | (refine WOL.fa rfl (qaf qcq) ?_)
    | (refine WOL.fa rfl (qaf qcl) ?_)
    | (refine WOL.fa rfl (qaf qcm) ?_)
    | (refine WOL.ld rfl (qaa tp3 A7 rfl) ?_)
    | (refine WOL.ld rfl (qaa tp29 A1' rfl) ?_)
    | (refine WOL.len rfl r2.l u29 ?_)
    | (refine WOL.bt rfl rfl rfl (by first | exact decide_eq_true (by omega) | exact beq_iff_eq.2 (by omega) | exact bne_iff_ne.2 (by omega)) ?_)
    | refine WOL.now (b:=true) rfl rfl ?_ | refine WOL.now (b:=false) rfl rfl ?_
    | refine WOL.skp (b:=true) rfl rfl ?_ | refine WOL.skp (b:=false) rfl rfl ?_ | refine WOL.gu rfl rfl ?_
    | refine WOL.mv rfl ?_ | refine WOL.as rfl ?_
    | refine WOL.bi rfl rfl rfl ?_ | refine WOL.nt rfl ?_
    | refine WOL.pkt rfl rfl ?_ | refine WOL.pkf rfl rfl ?_)
      refine WOL.nil<|keep [(74,_)] ⟨rfl,trivial⟩ ?_
      refine WL.yes rfl<|WL.sr<|WOL.as rfl<|WOL.nil ?_
      exact WL.ret (WL.end_ rfl ⟨by rw [eT,hE];rfl,Z⟩)
    by_cases c2:p2≤p1
    · rw [show badS L.length (p1,p2)=true by unfold badS;rw [decide_eq_false c1,decide_eq_true c2];rfl] at hE
      replace hE:qay L.length (-1) S=14:=hE
      refine WL.seq<|WL.sr ?_
      repeat' (first
    | (refine WOL.fa rfl (qaf qcq) ?_)
    | (refine WOL.fa rfl (qaf qcl) ?_)
    | (refine WOL.fa rfl (qaf qcm) ?_)
    | (refine WOL.ld rfl (qaa tp3 A7 rfl) ?_)
    | (refine WOL.ld rfl (qaa tp29 A1' rfl) ?_)
    | (refine WOL.len rfl r2.l u29 ?_)
    | (refine WOL.bf rfl rfl rfl (by first | exact decide_eq_false (by omega) | exact beq_eq_false_iff_ne.2 (by omega) | exact bne_eq_false_iff_eq.2 (by omega)) ?_)
    | (refine WOL.bt rfl rfl rfl (by first | exact decide_eq_true (by omega) | exact beq_iff_eq.2 (by omega) | exact bne_iff_ne.2 (by omega)) ?_)
    | refine WOL.now (b:=true) rfl rfl ?_ | refine WOL.now (b:=false) rfl rfl ?_
    | refine WOL.skp (b:=true) rfl rfl ?_ | refine WOL.skp (b:=false) rfl rfl ?_ | refine WOL.gu rfl rfl ?_
    | refine WOL.mv rfl ?_ | refine WOL.as rfl ?_
    | refine WOL.bi rfl rfl rfl ?_ | refine WOL.nt rfl ?_
    | refine WOL.pkt rfl rfl ?_ | refine WOL.pkf rfl rfl ?_)
      refine WOL.nil<|keep [(74,_)] ⟨rfl,trivial⟩ ?_
      refine WL.yes rfl<|WL.sr<|WOL.as rfl<|WOL.nil ?_
      exact WL.ret (WL.end_ rfl ⟨by rw [eT,hE];rfl,Z⟩)
    by_cases c3:(L.length:Int) < p2
    · rw [show badS L.length (p1,p2)=true by unfold badS;rw [decide_eq_false c1,decide_eq_false c2,decide_eq_true c3];rfl] at hE
      replace hE:qay L.length (-1) S=14:=hE
      refine WL.seq<|WL.sr ?_
      repeat' (first
    | (refine WOL.fa rfl (qaf qcq) ?_)
    | (refine WOL.fa rfl (qaf qcl) ?_)
    | (refine WOL.fa rfl (qaf qcm) ?_)
    | (refine WOL.ld rfl (qaa tp3 A7 rfl) ?_)
    | (refine WOL.ld rfl (qaa tp29 A1' rfl) ?_)
    | (refine WOL.len rfl r2.l u29 ?_)
    | (refine WOL.bf rfl rfl rfl (by first | exact decide_eq_false (by omega) | exact beq_eq_false_iff_ne.2 (by omega) | exact bne_eq_false_iff_eq.2 (by omega)) ?_)
    | (refine WOL.bt rfl rfl rfl (by first | exact decide_eq_true (by omega) | exact beq_iff_eq.2 (by omega) | exact bne_iff_ne.2 (by omega)) ?_)
    | refine WOL.now (b:=true) rfl rfl ?_ | refine WOL.now (b:=false) rfl rfl ?_
    | refine WOL.skp (b:=true) rfl rfl ?_ | refine WOL.skp (b:=false) rfl rfl ?_ | refine WOL.gu rfl rfl ?_
    | refine WOL.mv rfl ?_ | refine WOL.as rfl ?_
    | refine WOL.bi rfl rfl rfl ?_ | refine WOL.nt rfl ?_
    | refine WOL.pkt rfl rfl ?_ | refine WOL.pkf rfl rfl ?_)
      refine WOL.nil<|keep [(74,_)] ⟨rfl,trivial⟩ ?_
      refine WL.yes rfl<|WL.sr<|WOL.as rfl<|WOL.nil ?_
      exact WL.ret (WL.end_ rfl ⟨by rw [eT,hE];rfl,Z⟩)
    rw [show badS L.length (p1,p2)=false by unfold badS;rw [decide_eq_false c1,decide_eq_false c2,decide_eq_false c3];rfl] at hE
    replace hE:qay L.length (-1) S=cond (decide (p1≤prev)) 11 (qay L.length p2 (S.drop (j+1))):=hE
    refine WL.seq<|WL.sr ?_
    repeat' (first
    | (refine WOL.fa rfl (qaf qcq) ?_)
    | (refine WOL.fa rfl (qaf qcl) ?_)
    | (refine WOL.fa rfl (qaf qcm) ?_)
    | (refine WOL.ld rfl (qaa tp3 A7 rfl) ?_)
    | (refine WOL.ld rfl (qaa tp29 A1' rfl) ?_)
    | (refine WOL.len rfl r2.l u29 ?_)
    | (refine WOL.bf rfl rfl rfl (by first | exact decide_eq_false (by omega) | exact beq_eq_false_iff_ne.2 (by omega) | exact bne_eq_false_iff_eq.2 (by omega)) ?_)
    | refine WOL.now (b:=true) rfl rfl ?_ | refine WOL.now (b:=false) rfl rfl ?_
    | refine WOL.skp (b:=true) rfl rfl ?_ | refine WOL.skp (b:=false) rfl rfl ?_ | refine WOL.gu rfl rfl ?_
    | refine WOL.mv rfl ?_ | refine WOL.as rfl ?_
    | refine WOL.bi rfl rfl rfl ?_ | refine WOL.nt rfl ?_
    | refine WOL.pkt rfl rfl ?_ | refine WOL.pkf rfl rfl ?_)
    refine WOL.nil<|keep [(1,_),(6,_),(7,_),(74,_)] ⟨rfl,rfl,rfl,rfl,trivial⟩ ?_
    refine WL.no rfl<|WL.skip ?_
    have fin:p1 > prev→∀ a,Kn [(1,ptr cb),(6,zi (j:Nat))] a→∃ x,(HX h i2∧qay L.length (-1) S=qay L.length x (S.drop (j+1))∧(((j+1:Nat):Int)≤x+1∧x≤(L.length:Nat))∧((j+1=0∧x=-1)∨(0 < j+1∧∃ q,S[j+1 - 1]?=some q∧q.2=x)))∧Kn [(1,ptr cb),(6,zi (j:Nat))] a:=fun hp1 a q=>by
      rw [decide_eq_false (show ¬ p1≤prev by omega)] at hE
      exact ⟨p2,⟨X.trans XI,hE,⟨by omega,by omega⟩,.inr ⟨by omega,(p1,p2),by rw [Nat.add_sub_cancel];exact hp,rfl⟩⟩,q⟩
    rcases hprev with ⟨rfl,rfl⟩ | ⟨hj0,q,hq,rfl⟩
    · refine WL.sr<|WOL.mv rfl<|WOL.bf rfl rfl rfl rfl<|WOL.mv rfl ?_
      repeat' (first
    | (refine WOL.mv rfl ?_)
    | refine WOL.now (b:=true) rfl rfl ?_ | refine WOL.now (b:=false) rfl rfl ?_
    | refine WOL.skp (b:=true) rfl rfl ?_ | refine WOL.skp (b:=false) rfl rfl ?_ | refine WOL.gu rfl rfl ?_
    | refine WOL.mv rfl ?_ | refine WOL.as rfl ?_
    | refine WOL.bi rfl rfl rfl ?_ | refine WOL.nt rfl ?_
    | refine WOL.pkt rfl rfl ?_ | refine WOL.pkf rfl rfl ?_)
      refine WOL.nil<|keep [(1,_),(6,_),(88,_)] ⟨rfl,rfl,rfl,trivial⟩ ?_
      exact WL.no rfl<|WL.skip<|kto (fin (by omega)) ⟨rfl,rfl,trivial⟩
    · obtain ⟨b3,o3,cc3,fix3,wr3,el3,m1,m2,m3,m4,m5⟩:=r2.s.at eS u44 tp48 hq .i64
      have m6:=m5 1 (by decide)
      replace m6:cc3[o3+1]?=some (zi q.2):=m6
      refine WL.sr<|WOL.mv rfl<|WOL.bt rfl rfl rfl (by first | exact decide_eq_true (by omega) | exact beq_iff_eq.2 (by omega) | exact bne_iff_ne.2 (by omega))<|WOL.mv rfl<|WOL.now (b:=true) rfl rfl<|WOL.fa rfl (qaf qcq)<|WOL.now (b:=true) rfl rfl<|WOL.ld rfl (qaa tp3 A7 rfl)<|WOL.now (b:=true) rfl rfl<|WOL.fa rfl (qaf qdk)<|WOL.now (b:=true) rfl rfl<|WOL.ld rfl (qaa tp44 A1' rfl)<|WOL.now (b:=true) rfl rfl<|WOL.mv rfl<|WOL.now (b:=true) rfl rfl<|WOL.sub (m:=((j:Nat):Int)) (n:=1) rfl rfl (by omega) (by omega) ?_
      rw [show ((j:Nat):Int) - 1=((j - 1:Nat):Int) by omega]
      refine WOL.now (b:=true) rfl rfl<|WOL.ix rfl rfl m1<|WOL.now (b:=true) rfl rfl<|WOL.fa rfl (qaf qcl)<|WOL.now (b:=true) rfl rfl<|WOL.ld rfl (qaa tp3 m2 m6)<|WOL.now (b:=true) rfl rfl ?_
      by_cases c4:p1≤q.2
      · rw [decide_eq_true c4] at hE
        replace hE:qay L.length (-1) S=11:=hE
        refine WOL.bt rfl rfl rfl (by first | exact decide_eq_true (by omega) | exact beq_iff_eq.2 (by omega) | exact bne_iff_ne.2 (by omega))<|WOL.pkt rfl rfl<|WOL.nil<|keep [(88,_)] ⟨rfl,trivial⟩ ?_
        refine WL.yes rfl<|WL.sr<|WOL.as rfl<|WOL.nil ?_
        exact WL.ret (WL.end_ rfl ⟨by rw [eT,hE];rfl,Z⟩)
      · refine WOL.bf rfl rfl rfl (by first | exact decide_eq_false (by omega) | exact beq_eq_false_iff_ne.2 (by omega) | exact bne_eq_false_iff_eq.2 (by omega))<|WOL.pkt rfl rfl<|WOL.nil<|keep [(1,_),(6,_),(88,_)] ⟨rfl,rfl,rfl,trivial⟩ ?_
        exact WL.no rfl<|WL.skip<|kto (fin (by omega)) ⟨rfl,rfl,trivial⟩
  · rintro prev g ⟨X,hE,hbd,_⟩
    have hS:S.length≤1000001:=by omega
    rw [List.drop_length] at hE
    replace hE:qay L.length (-1) S=0:=hE
    rw [hE] at eT
    replace eT:T=formE L S:=eT
    have hin:=qct hE
    refine WL.seq<|WL.sr<|WOL.as rfl<|WOL.nil<|keep [(1,_),(8,_)] ⟨rfl,rfl,trivial⟩ ?_
    refine WL.forz (α:=Unit) L.length (fun j _ g=>HX h g∧∀ (i:Nat) x,i < j→L[i]?=some x→x≠0→qam S i=true) (fun j _=>[(1,ptr cb),(8,zi (j:Nat))]) (fun j _=>[(1,ptr cb),(8,zi (j:Nat))]) () ⟨X,fun i x hi=>absurd hi (by omega)⟩ ⟨rfl,rfl,trivial⟩ ?_ ?_ (fun _ _ _=>⟨rfl,rfl,trivial⟩) ?_ ?_
    · rintro j _ g hj ⟨X,_⟩
      exact WOL.mv rfl<|WOL.fa rfl (qaf qcm)<|WOL.ld rfl (qaa tp29 (A1.hx X) rfl)<|WOL.len rfl (r.l.hx X) u29<|WOL.bi rfl rfl rfl<|WOL.nil fun a q=>⟨rfl,q.sub ⟨rfl,rfl,rfl,trivial⟩⟩
    · rintro j _ g hj hH
      exact WOL.mv rfl<|WOL.inc rfl (by omega)<|WOL.as rfl<|WOL.nil fun a q=>⟨hH,q.sub ⟨rfl,rfl,trivial⟩⟩
    · rintro j _ g hj ⟨X,hz⟩
      have hp:L[j]?=some L[j]:=List.getElem?_eq_getElem hj
      generalize L[j]=x at hp
      obtain ⟨b,o,cc,fix,wr,el,g1,g2,g3,g4,g5⟩:=(r.l.hx X).at eI u29 tp3 hp .i64
      have A1':=A1.hx X
      refine WL.sr<|WOL.fa rfl (qaf qcm)<|WOL.ld rfl (qaa tp29 A1' rfl)<|WOL.mv rfl<|WOL.ix rfl rfl g1<|WOL.ld rfl (qaa tp3 g2 (by have:=g5 0 (by decide);rwa [Nat.add_zero] at this)) ?_
      by_cases c0:x=0
      · refine WOL.bf rfl rfl rfl (bne_eq_false_iff_eq.2 c0)<|WOL.mv rfl ?_
        refine WOL.skp (b:=false) rfl rfl<|WOL.skp (b:=false) rfl rfl<|WOL.skp (b:=false) rfl rfl<|WOL.skp (b:=false) rfl rfl<|WOL.pkf rfl rfl<|WOL.nil<|keep [(1,_),(8,_),(107,_)] ⟨rfl,rfl,rfl,trivial⟩ ?_
        refine WL.no rfl<|WL.skip fun a q=>⟨(),⟨X,fun i y hi hy hne=>?_⟩,q.sub ⟨rfl,rfl,trivial⟩⟩
        by_cases e:i=j
        · subst e
          rw [hp] at hy
          cases hy
          exact absurd c0 hne
        · exact hz i y (by omega) hy hne
      · refine WOL.bt rfl rfl rfl (bne_iff_ne.2 c0)<|WOL.mv rfl<|WOL.now (b:=true) rfl rfl<|WOL.ld rfl (qab tp1114 A1' rfl (Nat.le_of_ble_eq_true rfl))<|WOL.now (b:=true) rfl rfl<|WOL.mv rfl<|WOL.now (b:=true) rfl rfl ?_
        refine WOL.cl2 rfl rfl rfl ((k1154 H (r.s.hx X) (by omega)).mono ?_)
        rintro v g3 ⟨rfl,X3⟩
        refine WOL.now (b:=true) rfl rfl<|WOL.nt rfl<|WOL.pkt rfl rfl<|WOL.nil<|keep [(1,_),(8,_),(107,_)] ⟨rfl,rfl,rfl,trivial⟩ ?_
        cases hk:qam S ((j:Nat):Int) with
        | true =>
          refine WL.no rfl<|WL.skip fun a q=>⟨(),⟨X.trans X3,fun i y hi hy hne=>?_⟩,q.sub ⟨rfl,rfl,trivial⟩⟩
          by_cases e:i=j
          · subst e;exact hk
          · exact hz i y (by omega) hy hne
        | false =>
          refine WL.yes rfl<|WL.sr<|WOL.as rfl<|WOL.nil ?_
          refine WL.ret (WL.end_ rfl ⟨?_,X0.trans (X.trans X3)⟩)
          rw [eT]
          unfold formE
          rw [(form_iff hin).2 ⟨j,x,hp,c0,hk⟩]
          rfl
    · rintro _ g ⟨X,hz⟩
      refine WL.sr<|WOL.as rfl<|WOL.nil ?_
      refine WL.ret (WL.end_ rfl ⟨?_,X0.trans X⟩)
      rw [eT]
      unfold formE
      cases hf:S.any (qdo L) with
      | false=>rfl
      | true =>
        obtain ⟨j,x,q1,q2,q3⟩:=(form_iff hin).1 hf
        rw [hz j x (List.getElem?_eq_some_iff.1 q1).1 q1 q2] at q3
        cases q3
end
section
variable {h:TH} {n:Int} {v1 v2:Value} {L:List Int} {S:List (Int × Int)}
set_option maxHeartbeats 4000000 in
set_option maxRecDepth 10000 in
theorem k1117w (H:Has tp) (r:TrcH h v1 v2 L S) (f:Free0 h.next h):qad Tryz.prog tp (.func (.func 28) #[] #[]) #[trcV n v1 v2] h fun v h'=>v=zi (qbk n L S)∧HX h h':=by
  obtain ⟨b1,k1,e1,_⟩:=id r.l
  obtain ⟨b2,k2,e2,_⟩:=id r.s
  subst e1 e2
  refine qad.fnL (H.fn 28 f1117 rfl rfl) ?_
  refine WL.sr<|WOL.box rfl fun h1 N1=>WOL.as rfl<|WOL.nil<|keep [(1,_)] ⟨rfl,trivial⟩ ?_
  have A1:At h1 h.next (.cells [zi n,.slice b1 L.length k1,.slice b2 S.length k2] true true 52):=N1.at_
  have X1:=N1.hx
  replace r:=r.hx X1
  have n1:=N1.next
  refine WL.seq<|WL.sr<|WOL.fa rfl (qaf fo1114_0)<|WOL.ld rfl (qaa tp3 A1 rfl)<|WOL.fa rfl (qaf qcm)<|WOL.ld rfl (qaa tp29 A1 rfl)<|WOL.len rfl r.l u29<|WOL.bi (v:=.bool (decide ((L.length:Int) > 4096))) rfl rfl rfl ?_
  refine WOL.lk3 rfl rfl rfl rfl fun M=>((k14 H n 0 100000000 _).mono ?_)
  rintro v h2 ⟨rfl,rfl⟩
  rw [TH.relock]
  refine WOL.cl2 rfl rfl rfl ((k32 H _ _ _).mono ?_)
  rintro v h3 ⟨rfl,rfl⟩
  refine WOL.bsl rfl u29 tp3 (by decide) (by decide) (by decide) (qcn _ _) fun h4 N4=>?_
  refine WOL.cl1 rfl rfl ((k13 H (l:=[_,_]) N4.at_.get (by simp)).mono ?_)
  rintro v h5 ⟨rfl,rfl⟩
  replace A1:=A1.hx N4.hx
  replace r:=r.hx N4.hx
  have X4:=X1.trans N4.hx
  have x4:=X4.next
  refine WOL.as rfl<|WOL.nil<|keep [(1,_),(3,_)] ⟨rfl,rfl,trivial⟩ ?_
  have eT:qbk n L S=cond (qae [outB n 0 100000000,cond (decide ((L.length:Int) > 4096)) 5 0] != 0) (qae [outB n 0 100000000,cond (decide ((L.length:Int) > 4096)) 5 0]) (qae [cond (decide (n+(L.length:Int) > 100000000)) 4 0,qae (L.map readE),cond (qay L.length (-1) S != 0) (qay L.length (-1) S) (formE L S)]):=first_head
  by_cases e0:qae [outB n 0 100000000,cond (decide ((L.length:Int) > 4096)) 5 0]≠0
  · refine WL.sr<|WOL.mv rfl<|WOL.bt rfl rfl rfl (bne_iff_ne.2 e0)<|WOL.nil<|keep [(3,_),(20,_)] ⟨rfl,rfl,trivial⟩ ?_
    refine WL.yes rfl<|WL.sr<|WOL.mv rfl<|WOL.as rfl<|WOL.nil ?_
    exact WL.ret (WL.end_ rfl ⟨by rw [eT,bne_iff_ne.2 e0];rfl,X4⟩)
  have e0:qae [outB n 0 100000000,cond (decide ((L.length:Int) > 4096)) 5 0]=0:=Classical.not_not.1 e0
  have hL:L.length≤900000:=by
    have:=qbb e0 (cond (decide ((L.length:Int) > 4096)) 5 0) (by simp)
    by_cases c:(L.length:Int) > 4096
    · rw [decide_eq_true c] at this;cases this
    · omega
  rw [e0] at eT
  replace eT:qbk n L S=qae [cond (decide (n+(L.length:Int) > 100000000)) 4 0,qae (L.map readE),cond (qay L.length (-1) S != 0) (qay L.length (-1) S) (formE L S)]:=eT
  have z1:=fst_zero e0
  obtain ⟨n0,n2⟩:=out_in z1
  refine WL.sr<|WOL.mv rfl<|WOL.bf rfl rfl rfl (bne_eq_false_iff_eq.2 e0)<|WOL.nil<|keep [(1,_),(20,_)] ⟨rfl,rfl,trivial⟩ ?_
  refine WL.no rfl<|WL.skip ?_
  by_cases e4:n+(L.length:Int) > 100000000
  · rw [decide_eq_true e4] at eT
    replace eT:qbk n L S=4:=eT
    refine WL.seq<|WL.sr<|WOL.fa rfl (qaf fo1114_0)<|WOL.ld rfl (qaa tp3 A1 rfl)<|WOL.fa rfl (qaf qcm)<|WOL.ld rfl (qaa tp29 A1 rfl)<|WOL.len rfl r.l u29<|WOL.add (m:=n) (n:=((L.length:Nat):Int)) rfl rfl (by omega) (by omega)<|WOL.bt rfl rfl rfl (by first | exact decide_eq_true (by omega) | exact beq_iff_eq.2 (by omega) | exact bne_iff_ne.2 (by omega))<|WOL.nil<|keep [(28,_)] ⟨rfl,trivial⟩ ?_
    refine WL.yes rfl<|WL.sr<|WOL.as rfl<|WOL.nil ?_
    exact WL.ret (WL.end_ rfl ⟨by rw [eT];rfl,X4⟩)
  rw [decide_eq_false e4] at eT
  replace eT:qbk n L S=qae [qae (L.map readE),cond (qay L.length (-1) S != 0) (qay L.length (-1) S) (formE L S)]:=eT
  refine WL.seq<|WL.sr<|WOL.fa rfl (qaf fo1114_0)<|WOL.ld rfl (qaa tp3 A1 rfl)<|WOL.fa rfl (qaf qcm)<|WOL.ld rfl (qaa tp29 A1 rfl)<|WOL.len rfl r.l u29<|WOL.add (m:=n) (n:=((L.length:Nat):Int)) rfl rfl (by omega) (by omega)<|WOL.bf rfl rfl rfl (by first | exact decide_eq_false (by omega) | exact beq_eq_false_iff_ne.2 (by omega) | exact bne_eq_false_iff_eq.2 (by omega))<|WOL.nil<|keep [(1,_),(28,_)] ⟨rfl,rfl,trivial⟩ ?_
  refine WL.no rfl<|WL.skip ?_
  -- the readings
  refine WL.seq<|WL.sr<|WOL.as rfl<|WOL.nil<|keep [(1,_),(4,_)] ⟨rfl,rfl,trivial⟩ ?_
  refine WL.forz (α:=Unit) L.length (fun j _ g=>g=h5∧∀ i,i < j→(L.map readE).getD i 0=0) (fun j _=>[(1,ptr h.next),(4,zi (j:Nat))]) (fun j _=>[(1,ptr h.next),(4,zi (j:Nat))]) () ⟨rfl,fun i hi=>absurd hi (by omega)⟩ ⟨rfl,rfl,trivial⟩ ?_ ?_ (fun _ _ _=>⟨rfl,rfl,trivial⟩) ?_ ?_
  · rintro j _ g hj ⟨rfl,hz⟩
    exact WOL.mv rfl<|WOL.fa rfl (qaf qcm)<|WOL.ld rfl (qaa tp29 A1 rfl)<|WOL.len rfl r.l u29<|WOL.bi rfl rfl rfl<|WOL.nil fun a q=>⟨rfl,q.sub ⟨rfl,rfl,rfl,trivial⟩⟩
  · rintro j _ g hj hH
    exact WOL.mv rfl<|WOL.inc rfl (by omega)<|WOL.as rfl<|WOL.nil fun a q=>⟨hH,q.sub ⟨rfl,rfl,trivial⟩⟩
  · rintro j _ g hj ⟨rfl,hz⟩
    have hp:L[j]?=some L[j]:=List.getElem?_eq_getElem hj
    generalize L[j]=x at hp
    obtain ⟨b,o,cc,fix,wr,el,g1,g2,g3,g4,g5⟩:=r.l.at eI u29 tp3 hp .i64
    have he:(L.map readE)[j]?=some (readE x):=by rw [List.getElem?_map,hp];rfl
    refine WL.sr<|WOL.fa rfl (qaf qcm)<|WOL.ld rfl (qaa tp29 A1 rfl)<|WOL.mv rfl<|WOL.ix rfl rfl g1<|WOL.ld rfl (qaa tp3 g2 (by have:=g5 0 (by decide);rwa [Nat.add_zero] at this))<|WOL.cl1 rfl rfl ((k1187 H x _).mono ?_)
    rintro w g' ⟨rfl,rfl⟩
    refine WOL.as rfl<|WOL.nil<|keep [(1,_),(4,_),(5,_)] ⟨rfl,rfl,rfl,trivial⟩ ?_
    by_cases h0:readE x=0
    · refine WL.sr<|WOL.mv rfl<|WOL.bf rfl rfl rfl (bne_eq_false_iff_eq.2 h0)<|WOL.nil<|keep [(1,_),(4,_),(43,_)] ⟨rfl,rfl,rfl,trivial⟩ ?_
      refine WL.no rfl<|WL.skip fun a q=>⟨(),⟨rfl,fun i hi=>?_⟩,q.sub ⟨rfl,rfl,trivial⟩⟩
      by_cases e:i=j
      · subst e
        rw [List.getD_eq_getElem?_getD,he]
        exact h0
      · exact hz i (by omega)
    · refine WL.sr<|WOL.mv rfl<|WOL.bt rfl rfl rfl (bne_iff_ne.2 h0)<|WOL.nil<|keep [(5,_),(43,_)] ⟨rfl,rfl,trivial⟩ ?_
      refine WL.yes rfl<|WL.sr<|WOL.mv rfl<|WOL.as rfl<|WOL.nil ?_
      refine WL.ret (WL.end_ rfl ⟨?_,X4⟩)
      rw [eT,fNZ_at hz he h0]
      show zi _=zi (cond (readE x != 0) (readE x) _)
      rw [bne_iff_ne.2 h0];rfl
  rintro _ g ⟨rfl,hz⟩
  rw [fNZ_all (fun i hi=>hz i (by rw [List.length_map] at hi;exact hi))] at eT
  replace eT:qbk n L S=qae [cond (qay L.length (-1) S != 0) (qay L.length (-1) S) (formE L S)]:=eT
  rw [first_one] at eT
  exact kto (M:=[(1,ptr h.next)]) (k1117bw H r (by omega) (f.on X4) X4 A1 eT) ⟨rfl,trivial⟩
end
end Go.Tidy
namespace Go.Tidy
open Go Go.Proofs Tab
variable {tp:TProg}
section
variable {P:Program} {h:TH} {K:qan→TH→Prop} {rest:List TOper} {d:Option Tmp} {ty:TypeId} {i:Nat} {x:Operand} {t:TypeId} {L:Rg}
theorem WOL.negP {vx v:Value} (hx:qbi L x=some vx) (hp:plain vx=true) (hv:pv P (Op.unary .neg vx)=some v) (hq:plain v=true) (w:∀ a,Kn (qdh L d v) a→WO P tp rest a h K):∀ a,Kn L a→WO P tp (⟨d,.unOp .neg t x,ty,none,[],i⟩::rest) a h K:=fun a k=>by
 have ex:=qac (k.o hx)
 refine WO.plainly rfl rfl rfl rfl rfl (qca rfl (fun q hq=>?_) ?_ hq) (w _ (k.put d _))
 ·simp only [Op.operands] at hq
  simp at hq
  rw [hq,ex];exact hp
 ·simp [toOper,execOp,pv_map,qcs,ex,hv]
end
theorem smp400:Samp 1137180672 6400:=by
 have e:smp 6400=1137180672:=by kernel_rfl
 have:=(smp_ok (n:=6400) (by decide)).2.2
 rwa [e] at this
theorem smpm400:Samp 3284664320 (-6400):=by
 have e:smp (-6400)=3284664320:=by kernel_rfl
 have:=(smp_ok (n:=-6400) (by decide)).2.2
 rwa [e] at this
section
variable {h:TH} {s:ByteArray} {n:Int} {v1 v2:Value} {F:List Nat} {S:List (Int × Int)} {es L:List Int}
set_option maxHeartbeats 4000000 in
set_option maxRecDepth 10000 in
theorem k1165 (H:Has tp) (r:RunH h v1 v2 F S) (hE:SErr F es) (hL:qae es=0→Lev F L) :
    qad Tryz.prog tp (.func (.func 44) #[] #[]) #[runV s n v1 v2,.float .f32 1137180672] h fun v h'=>HX h h'∧∃ ok,v=.bool ok∧(ok=true→shortB s F.length S.length=true∧runE s n F.length S es L=0∧F.length≤40∧∀ j,-6400≤L.getD j 0∧L.getD j 0≤6400):=by
  refine qad.fnL (H.fn 44 f1165 rfl rfl) ?_
  obtain ⟨b1,k1,rfl⟩:=r.f.form
  obtain ⟨b2,k2,rfl⟩:=r.s.form
  have no:∀ (Q:Prop) g,HX h g→HX h g∧∃ ok,Value.bool false=.bool ok∧(ok=true→Q):=fun _ g X=>⟨X,false,rfl,fun c=>by cases c⟩
  refine WL.sr<|WOL.box rfl fun h1 N1=>WOL.as rfl<|WOL.nil<|keep [(1,_),(2,_)] ⟨rfl,rfl,trivial⟩ ?_
  have A2:At h1 h.next (.cells [.string s,zi n,.slice b1 F.length k1,.slice b2 S.length k2] true true 88):=N1.at_
  have X1:=N1.hx
  refine WL.seq<|WL.sr<|WOL.ld rfl (qab tp46 A2 rfl (Nat.le_of_ble_eq_true rfl))<|WOL.cl1 rfl rfl ((k23 (s:=s) (n:=n) H (r.f.hx X1) (r.s.hx X1)).mono ?_)
  rintro v h2 ⟨rfl,X2⟩
  have Y2:=X1.trans X2
  replace A2:=A2.hx X2
  cases hb:shortB s F.length S.length with
  | false =>
    exact WOL.nt rfl<|WOL.mv rfl<|WOL.skp (b:=true) rfl rfl<|WOL.skp (b:=true) rfl rfl<|WOL.skp (b:=true) rfl rfl<|WOL.pkt rfl rfl<|WOL.mv rfl<|WOL.skp (b:=true) rfl rfl<|WOL.skp (b:=true) rfl rfl<|WOL.skp (b:=true) rfl rfl<|WOL.skp (b:=true) rfl rfl<|WOL.pkt rfl rfl<|WOL.nil<|WL.yes rfl<|WL.sr<|WOL.as rfl<|WOL.nil<|WL.ret (WL.end_ rfl (no _ _ Y2))
  | true =>
    obtain ⟨hF,hS⟩:=short_small hb
    refine WOL.nt rfl<|WOL.mv rfl<|WOL.now (b:=false) rfl rfl<|WOL.ld rfl (qab tp46 A2 rfl (Nat.le_of_ble_eq_true rfl))<|WOL.now (b:=false) rfl rfl<|WOL.cl1 rfl rfl ((k31 (s:=s) (n:=n) (es:=es) (L:=L) H (r.hx Y2) hE hL (by omega) (by omega)).mono ?_)
    rintro v h3 ⟨rfl,X3⟩
    have Y3:=Y2.trans X3
    replace A2:=A2.hx X3
    refine WOL.now (b:=false) rfl rfl ?_
    by_cases e0:runE s n F.length S es L=0
    · have vd:=valid_of hL e0
      have lE:L.length=F.length:=vd.lev.1.symm
      refine WOL.bf rfl rfl rfl (bne_eq_false_iff_eq.2 e0)<|WOL.pkf rfl rfl<|WOL.mv rfl<|WOL.now (b:=false) rfl rfl<|WOL.fa rfl (qaf fo46_2)<|WOL.now (b:=false) rfl rfl<|WOL.ld rfl (qaa tp43 A2 rfl)<|WOL.now (b:=false) rfl rfl<|WOL.len rfl (r.f.hx Y3) u43<|WOL.now (b:=false) rfl rfl ?_
      by_cases c1:((F.length:Nat):Int) > 40
      · exact WOL.bt rfl rfl rfl (decide_eq_true c1)<|WOL.pkf rfl rfl<|WOL.nil<|WL.yes rfl<|WL.sr<|WOL.as rfl<|WOL.nil<|WL.ret (WL.end_ rfl (no _ _ Y3))
      refine WOL.bf rfl rfl rfl (decide_eq_false c1)<|WOL.pkf rfl rfl<|WOL.nil<|WL.no rfl<|WL.skip<|keep [(1,_),(2,_)] ⟨rfl,rfl,trivial⟩ ?_
      refine WL.seq<|WL.sr<|WOL.fa rfl (qaf fo46_2)<|WOL.ld rfl (qaa tp43 A2 rfl)<|WOL.len rfl (r.f.hx Y3) u43<|WOL.mv rfl<|WOL.nil<|keep [(1,_),(22,_),(23,_),(24,_)] ⟨rfl,rfl,rfl,rfl,trivial⟩ ?_
      refine WL.upto (α:=Unit) F.length (fun j _ g=>g=h3∧∀ i,i < j→-6400≤L.getD i 0∧L.getD i 0≤6400) (fun _ _=>[(1,.float .f32 1137180672),(22,.slice b1 F.length k1),(23,zi (F.length:Nat))]) () rfl rfl (by omega) ⟨rfl,fun i hi=>absurd hi (by omega)⟩ ⟨rfl,rfl,rfl,rfl,trivial⟩ (fun _ _=>rfl) (fun _ _ _=>⟨rfl,rfl,rfl,rfl,trivial⟩) (fun _ _ _=>⟨rfl,rfl,rfl,rfl,trivial⟩) ?_ ?_
      · rintro j _ g hj ⟨rfl,hz⟩
        have hp:F[j]?=some F[j]:=List.getElem?_eq_getElem hj
        have hj':j < L.length:=by omega
        have eL:L.getD j 0=L[j]:=by rw [List.getD_eq_getElem?_getD,List.getElem?_eq_getElem hj'];rfl
        have sm:Samp F[j] (L.getD j 0):=by rw [eL];exact vd.lev.2 j _ _ hp (List.getElem?_eq_getElem hj')
        obtain ⟨_,_,cc,fix,wr,el,g1,g2,g3,g4,g5⟩:=(r.f.hx Y3).at eF u43 tp25 hp .i64
        have gx:=g5 0 (by decide)
        rw [Nat.add_zero] at gx
        refine WL.sr<|WOL.ix rfl rfl g1<|WOL.ld rfl (qaa tp25 g2 gx)<|WOL.as rfl<|WOL.nil<|keep [(1,_),(6,_),(22,_),(23,_),(24,_)] ⟨rfl,rfl,rfl,rfl,rfl,trivial⟩ ?_
        refine WL.sr<|WOL.mv rfl<|WOL.mv rfl<|WOL.fgt sm smp400 rfl rfl ?_
        by_cases c2:6400 < L.getD j 0
        · rw [decide_eq_true c2]
          exact WOL.mv rfl<|WOL.skp (b:=true) rfl rfl<|WOL.skp (b:=true) rfl rfl<|WOL.skp (b:=true) rfl rfl<|WOL.skp (b:=true) rfl rfl<|WOL.pkt rfl rfl<|WOL.nil<|WL.yes rfl<|WL.sr<|WOL.as rfl<|WOL.nil<|WL.ret (WL.end_ rfl (no _ _ Y3))
        rw [decide_eq_false c2]
        refine WOL.mv rfl<|WOL.now (b:=false) rfl rfl<|WOL.mv rfl<|WOL.now (b:=false) rfl rfl<|WOL.mv rfl<|WOL.now (b:=false) rfl rfl<|WOL.negP (v:=.float .f32 3284664320) rfl (by decide) (by kernel_rfl) (by decide)<|WOL.now (b:=false) rfl rfl<|WOL.flt sm smpm400 rfl rfl ?_
        by_cases c3:L.getD j 0 < -6400
        · rw [decide_eq_true c3]
          exact WOL.pkf rfl rfl<|WOL.nil<|WL.yes rfl<|WL.sr<|WOL.as rfl<|WOL.nil<|WL.ret (WL.end_ rfl (no _ _ Y3))
        rw [decide_eq_false c3]
        refine WOL.pkf rfl rfl<|WOL.nil<|WL.no rfl<|WL.skip fun y k=>⟨(),⟨rfl,fun i hi=>?_⟩,k.sub ⟨rfl,rfl,rfl,rfl,trivial⟩⟩
        by_cases e:i=j
        · subst e;omega
        · exact hz i (by omega)
      · rintro _ g ⟨rfl,hz⟩
        refine WL.sr<|WOL.as rfl<|WOL.nil<|WL.ret (WL.end_ rfl ⟨Y3,true,rfl,fun _=>⟨rfl,e0,by omega,fun j=>?_⟩⟩)
        by_cases hj:j < F.length
        · exact hz j hj
        · rw [List.getD_eq_getElem?_getD,List.getElem?_eq_none (by omega)];decide
    · exact WOL.bt rfl rfl rfl (bne_iff_ne.2 e0)<|WOL.pkf rfl rfl<|WOL.mv rfl<|WOL.skp (b:=true) rfl rfl<|WOL.skp (b:=true) rfl rfl<|WOL.skp (b:=true) rfl rfl<|WOL.skp (b:=true) rfl rfl<|WOL.pkt rfl rfl<|WOL.nil<|WL.yes rfl<|WL.sr<|WOL.as rfl<|WOL.nil<|WL.ret (WL.end_ rfl (no _ _ Y3))
theorem k1167 (H:Has tp) (r:RunH h v1 v2 F S) (hF:F.length≤900000) (hS:S.length≤900000) (f:Free0 h.next h) :
  qad Tryz.prog tp (.func (.func 47) #[] #[]) #[runV s n v1 v2] h fun v h'=>∃ w1 w2,v=runV s n w1 w2∧HX h h'∧RunO h.next h' w1 w2 F S:=by
 refine qad.fnL (H.fn 47 f1167 rfl rfl) ?_
 obtain ⟨b1,k1,rfl⟩:=r.f.form
 obtain ⟨b2,k2,rfl⟩:=r.s.form
 refine WL.sr<|WOL.box rfl fun h1 N1=>WOL.al tp52 fun h2 N2=>WOL.nil<|keep [(1,_),(2,_)] ⟨rfl,rfl,trivial⟩ ?_
 have n1:=N1.next
 have n2:=N2.next
 have A1:At h2 h.next (.cells [.string s,zi n,.slice b1 F.length k1,.slice b2 S.length k2] true true 88):=N1.at_.hx N2.hx
 have A2:=N2.at_
 have X2:=N1.hx.trans N2.hx
 refine WL.sr<|WOL.ld rfl (qab tp46 A1 rfl (Nat.le_of_ble_eq_true rfl))<|WOL.cl1 rfl rfl ((k87 (s:=s) (n:=n) H (r.hx X2) (by omega) (by omega) (f.on X2)).mono ?_)
 rintro v h3 ⟨w1,w2,rfl,X3,ro⟩
 obtain ⟨b3,k3,rfl⟩:=ro.r.f.form
 obtain ⟨b4,k4,rfl⟩:=ro.r.s.form
 refine WOL.sto (vs:=[.string s,zi n,.slice b3 F.length k3,.slice b4 S.length k4]) rfl rfl tp52 (A2.hx X3) rfl rfl (Nat.le_of_ble_eq_true rfl) rfl (f.hx (X2.trans X3)) (by omega) fun h4 P4=>WOL.nil ?_
 exact WL.ret (WL.endC rfl (qab tp52 P4.at_ rfl (Nat.le_of_ble_eq_true rfl)) ⟨_,_,rfl,P4.hx _ (X2.trans X3) (by omega),(ro.away P4 (by omega)).le (by omega)⟩)
end
theorem k1168 {h:TH} {n:Int} {v1 v2:Value} {L:List Int} {S:List (Int × Int)} (H:Has tp) (r:TrcH h v1 v2 L S) (hL:L.length≤1000000) (hS:S.length≤1000000) (f:Free0 h.next h):qad Tryz.prog tp (.func (.func 48) #[] #[]) #[trcV n v1 v2] h fun v h'=>HX h h'∧∃ u1 u2,v=trcV n u1 u2∧TrcH h' u1 u2 L S∧(∀ z,bl u1=some z→h.next≤z)∧∀ z,bl u2=some z→h.next≤z:=by
 refine qad.fnL (H.fn 48 f1168 rfl rfl) ?_
 obtain ⟨b3,k3,e3,_⟩:=id r.l
 obtain ⟨b4,k4,e4,_⟩:=id r.s
 subst e3 e4
 refine WL.sr<|WOL.box rfl fun h1 N1=>WOL.al tp1117 fun h2 N2=>WOL.nil<|keep [(1,_),(2,_)] ⟨rfl,rfl,trivial⟩ ?_
 have n1:=N1.next
 have n2:=N2.next
 have A1:At h2 h.next (.cells [zi n,.slice b3 L.length k3,.slice b4 S.length k4] true true 55):=N1.at_.hx N2.hx
 have A2:=N2.at_
 have X2:=N1.hx.trans N2.hx
 refine WL.sr<|WOL.ld rfl (qab tp1117 A1 rfl (Nat.le_of_ble_eq_true rfl))<|WOL.cl1 rfl rfl ((k1153 H (r.hx X2) hL hS (f.on X2)).mono ?_)
 rintro v h3 ⟨X3,u1,u2,rfl,t3,l1,l2⟩
 obtain ⟨b1,k1,e1,_⟩:=id t3.l
 obtain ⟨b2,k2,e2,_⟩:=id t3.s
 subst e1 e2
 refine WOL.sto (vs:=[zi n,.slice b1 L.length k1,.slice b2 S.length k2]) rfl rfl tp1117 (A2.hx X3) rfl rfl (Nat.le_of_ble_eq_true rfl) rfl (f.hx (X2.trans X3)) (by omega) fun h4 P4=>WOL.nil ?_
 refine WL.ret (WL.endC rfl (qab tp1117 P4.at_ rfl (Nat.le_of_ble_eq_true rfl)) ⟨P4.hx _ (X2.trans X3) (by omega),_,_,rfl,⟨?_,?_,?_⟩,fun z hz=>(by have:=l1 z hz;omega),fun z hz=>(by have:=l2 z hz;omega)⟩)
 ·exact slC_keep t3.l fun z y hz a=>P4.oth _ _ (by have:=l1 z hz;omega) a
 ·exact slC_keep t3.s fun z y hz a=>P4.oth _ _ (by have:=l2 z hz;omega) a
 ·exact fun b off m cap e=>by
   obtain ⟨cc,fix,wr,el,r1,r2⟩:=t3.g b off m cap e
   refine ⟨cc,fix,wr,el,P4.oth _ _ ?_ r1,r2⟩
   have:=l1 b (by rw [e];rfl)
   omega
end Go.Tidy
namespace Go.Tidy
open Go Go.Proofs Tab
section
variable {C:List (Int × Bool)} {n:Int}
theorem qck:(qcr C).length=C.length:=by unfold qcr;rw [List.length_map]
theorem valC_getD {i:Nat}:(qcr C).getD i 0=cond (C.getD i (0,false)).2 (C.getD i (0,false)).1 0:=by
 unfold qcr
 rw [List.getD_eq_getElem?_getD,List.getD_eq_getElem?_getD,List.getElem?_map]
 cases C[i]? <;> rfl
theorem qeb {i:Nat} (hi:i < C.length):qam (qah (C.map fun c=>c.2)) (i:Nat)=(C.getD i (0,false)).2:=by
 have k:=known_holes (C.map fun c=>c.2)
 rw [List.length_map] at k
 rw [← knownL_getD hi,k,List.getD_eq_getElem?_getD,List.getD_eq_getElem?_getD,List.getElem?_map]
 cases C[i]? <;> rfl
theorem traceE_made (hb:bigC C=false) (h0:0≤n) (hl:C.length≤4096) (h1:n+(C.length:Nat)≤100000000):qbk n (qcr C) (qah (C.map fun c=>c.2))=0:=by
 have ho:=holes_ok (C.map fun c=>c.2)
 rw [List.length_map] at ho
 have hr:qae ((qcr C).map readE)=0:=by
  refine firstNZ_all fun x hx=>?_
  obtain ⟨y,hy,rfl⟩:=List.mem_map.1 hx
  rw [bigC_val,List.any_eq_false] at hb
  have:=hb y hy
  unfold qcd at this
  exact bne_eq_false_iff_eq.1 (by cases h:(readE y != 0) with
   | false=>rfl
   | true=>exact absurd h this)
 have hf:formE (qcr C) (qah (C.map fun c=>c.2))=0:=by
  unfold formE
  cases hb:(qah (C.map fun c=>c.2)).any (qdo (qcr C)) with
  | false=>rfl
  | true =>
   obtain ⟨j,x,hj,hx,hk⟩:=(form_iff (qct ho)).1 hb
   have hj':j < C.length:=by have:=(List.getElem?_eq_some_iff.1 hj).1;rwa [qck] at this
   rw [qeb hj'] at hk
   have e:(qcr C).getD j 0=x:=by rw [List.getD_eq_getElem?_getD,hj];rfl
   rw [valC_getD,hk] at e
   exact absurd e.symm hx
 unfold qbk
 rw [qck,hr,ho,hf]
 unfold outB
 rw [decide_eq_false (by omega:¬ n < 0),decide_eq_false (by omega:¬ n > 100000000),decide_eq_false (by omega:¬ (C.length:Int) > 4096),decide_eq_false (by omega:¬ n+(C.length:Int) > 100000000)]
 rfl
end
section
variable {L:List Int} {S:List (Int × Int)} {M c p q j:Nat}
theorem tapC_getD {T:List (Nat × Int)} {i:Nat} (h:i < M):(qbx L S T M).getD i (0,false)=(tapN L i T 0,tapK S i T):=by
 rw [List.getD_eq_getElem?_getD,tapC_get h];rfl
theorem vTn_val {p q:Nat}:tapN L j (vTn p q) 0=-(q:Int)*L.getD j 0+((p:Int)+q)*L.getD (j+p) 0 - (p:Int)*L.getD (j+(p+q)) 0:=by
 show 0+-(q:Int)*L.getD (j+0) 0+((p:Int)+q)*L.getD (j+p) 0+-(p:Int)*L.getD (j+(p+q)) 0=_
 rw [Int.neg_mul (p:Int),Nat.add_zero]
 omega
theorem mulb {w x:Int} {a b:Nat} (h1:w.natAbs≤a) (h2:x.natAbs≤b):(w*x).natAbs≤a*b:=by
 rw [Int.natAbs_mul]
 exact Nat.mul_le_mul h1 h2
theorem big_not {T:List (Nat × Int)} (h:∀ i,i < M→tapK S i T=true→qcd (tapN L i T 0)=false):bigC (qbx L S T M)=false:=by
 unfold bigC
 rw [List.any_eq_false]
 intro c hc
 obtain ⟨i,hi,rfl⟩:=List.mem_map.1 hc
 have hi:=List.mem_range.1 hi
 show ¬ (tapK S i T && qcd (tapN L i T 0))=true
 cases k:tapK S i T with
 | false=>exact Bool.false_ne_true
 | true=>rw [h i hi k];decide
end
end Go.Tidy
namespace Go.Tidy
open Go Go.Proofs Tab
attribute [local irreducible] Ty valOf
section
variable {h:TH} {n:Nat} {ps:List Value}
abbrev B8:={b:Nat // b < 256}
end
end Go.Tidy
namespace Go.Tidy
open Go Go.Proofs Tab
variable {tp:TProg}
theorem ProgR.ok {n e:Int} {C:List (Int × Bool)} {n0:Nat} {g:TH} {v:Value} (r:ProgR n e C n0 g v) (he:e=0) (hb:bigC C=false):∃ bv b2 m2 k2,v=.tuple #[trcV n (slA bv C.length) (.slice b2 m2 k2),zi 0]∧n0≤bv∧TrcO n0 g bv (.slice b2 m2 k2) (qcr C) (qah (C.map fun c=>c.2)):=by
 rcases r with ⟨h1,_⟩ | ⟨_,h1,_⟩ | ⟨_,_,bv,w,h2,h3,h4⟩
 ·exact absurd he h1
 ·rw [hb] at h1;cases h1
 ·obtain ⟨b2,m2,k2,rfl⟩:=h4.form
  exact ⟨bv,b2,m2,k2,h2,h3,h4⟩
theorem chordE_in {a b:Int} (h1:1≤a) (h2:a≤32) (h3:1≤b) (h4:b≤32):chordE a b=0:=by
 unfold chordE outB
 rw [decide_eq_false (by omega:¬ a < 1),decide_eq_false (by omega:¬ a > 32),decide_eq_false (by omega:¬ b < 1),decide_eq_false (by omega:¬ b > 32)]
 rfl
theorem errV_in {E:Int} {m w:Nat} (h:E=0) (h2:w < m):errV E m w=0:=by
 rw [h,errV_ok,decide_eq_false (by omega)];rfl
section
variable {h h0:TH} {n:Int} {v1 v2:Value} {L:List Int} {S:List (Int × Int)} {c3 c4 p q z:Nat}
end
end Go.Tidy
namespace Go.Tidy
open Go Go.Proofs Tab
section
variable {L L1 L2:List Int} {S S1 S2:List (Int × Int)} {T:List (Nat × Int)} {M p q m i:Nat}
theorem rev_getD {l:List Int} (h:i < l.length):l.reverse.getD i 0=l.getD (l.length - 1 - i) 0:=by
 rw [List.getD_eq_getElem?_getD,List.getD_eq_getElem?_getD,List.getElem?_reverse h]
theorem holes_knownB {K:List Bool} (h:i < K.length):qam (qah K) (i:Nat)=K.getD i false:=by
 rw [List.getD_eq_getElem?_getD,holesOf_get h];rfl
theorem rev_knownB (h:i < m):qam (qah (qav S m).reverse) (i:Nat)=qam S ((m - 1 - i:Nat):Int):=by
 rw [holes_knownB (by rw [List.length_reverse,qcb];exact h),List.getD_eq_getElem?_getD,List.getElem?_reverse (by rw [qcb];exact h),qcb,← List.getD_eq_getElem?_getD,knownL_getD (by omega)]
theorem rev_cells (h:M+(p+q)=L.length):qbx L.reverse (qah (qav S L.length).reverse) (vTn q p) M=(qbx L S (vTn p q) M).reverse:=by
 refine List.ext_getElem? fun i=>?_
 by_cases hi:i < M
 ·rw [tapC_get hi,List.getElem?_reverse (by rw [qbh];exact hi),qbh,tapC_get (by omega)]
  have e1:tapN L.reverse i (vTn q p) 0=tapN L (M - 1 - i) (vTn p q) 0:=by
   rw [vTn_val,vTn_val,rev_getD (by omega),rev_getD (by omega),rev_getD (by omega),show L.length - 1 - i=M - 1 - i+(p+q) by omega,show L.length - 1 - (i+q)=M - 1 - i+p by omega,show L.length - 1 - (i+(q+p))=M - 1 - i by omega,Int.add_comm (q:Int) p,Int.neg_mul,Int.neg_mul]
   omega
  have e2:tapK (qah (qav S L.length).reverse) i (vTn q p)=tapK S (M - 1 - i) (vTn p q):=by
   show (qam _ ((i+0:Nat):Int) && (qam _ ((i+q:Nat):Int) && (qam _ ((i+(q+p):Nat):Int) && true)))=(qam _ ((M - 1 - i+0:Nat):Int) && (qam _ ((M - 1 - i+p:Nat):Int) && (qam _ ((M - 1 - i+(p+q):Nat):Int) && true)))
   rw [rev_knownB (by omega),rev_knownB (by omega),rev_knownB (by omega),show L.length - 1 - (i+0)=M - 1 - i+(p+q) by omega,show L.length - 1 - (i+q)=M - 1 - i+p by omega,show L.length - 1 - (i+(q+p))=M - 1 - i+0 by omega]
   cases qam S ((M - 1 - i+0:Nat):Int) <;> cases qam S ((M - 1 - i+p:Nat):Int) <;> cases qam S ((M - 1 - i+(p+q):Nat):Int) <;> rfl
  rw [e1,e2]
 ·rw [List.getElem?_eq_none (by rw [qbh];omega),List.getElem?_eq_none (by rw [List.length_reverse,qbh];omega)]
theorem tapN_small {B:Nat} (hL:∀ j,(L.getD j 0).natAbs≤B):∀ {T:List (Nat × Int)} {s:Int},(∀ t,t ∈ T→t.2.natAbs≤65)→(tapN L i T s).natAbs≤s.natAbs+T.length*(65*B)
 | [],s,_=>by show s.natAbs≤_;omega
 | t::T,s,h=>by
  have b:=mulb (h t (List.mem_cons_self ..)) (hL (i+t.1))
  have ih:=tapN_small hL (T:=T) (s:=s+t.2*L.getD (i+t.1) 0) fun t ht=>h t (List.mem_cons_of_mem _ ht)
  show (tapN L i T (s+t.2*L.getD (i+t.1) 0)).natAbs≤s.natAbs+(T.length+1)*(65*B)
  rw [Nat.add_mul,Nat.one_mul]
  omega
theorem taps_small {B:Nat} (hB:B≤40000) (hL:∀ j,(L.getD j 0).natAbs≤B) (hT:∀ t,t ∈ T→t.2.natAbs≤65) (lT:T.length≤65):bigC (qbx L S T M)=false:=big_not fun i _ _=>by
 have b:=tapN_small (i:=i) hL (s:=0) hT
 have:T.length*(65*B)≤65*(65*40000):=Nat.mul_le_mul lT (Nat.mul_le_mul (Nat.le_refl _) hB)
 have:(tapN L i T 0).natAbs≤169000000:=by omega
 generalize tapN L i T 0=x at *
 unfold qcd readE outB
 rw [decide_eq_false (by omega),decide_eq_false (by omega)]
 rfl
end
end Go.Tidy
namespace Go.Tidy
open Go Go.Proofs Tab
variable {tp:TProg}
theorem RevR.ok {n p e:Int} {L:List Int} {S:List (Int × Int)} {n0:Nat} {g:TH} {v:Value} (r:RevR n p e L S n0 g v) (he:e=0) (h0:0≤2*p+1 - (n+L.length)) (h1:2*p+1 - (n+L.length)+L.length≤100000000):∃ bv b2 m2 k2,v=.tuple #[trcV (2*p+1 - (n+L.length)) (slA bv L.length) (.slice b2 m2 k2),zi 0]∧n0≤bv∧TrcO n0 g bv (.slice b2 m2 k2) L.reverse (qah (qav S L.length).reverse):=by
 rcases r with ⟨q,_⟩ | ⟨_,q,_⟩ | ⟨_,_,_,bv,w,q2,q3,q4⟩
 ·exact absurd he q
 ·omega
 ·obtain ⟨b2,m2,k2,rfl⟩:=q4.form
  exact ⟨bv,b2,m2,k2,q2,q3,q4⟩
theorem traceE_rev {n n':Int} {L:List Int} {S:List (Int × Int)} (te:qbk n L S=0) (h0:0≤n') (h1:n'+(L.length:Nat)≤100000000):qbk n' L.reverse (qah (qav S L.length).reverse)=0:=by
 obtain ⟨_,m3,_,m5,m6,_⟩:=trace_ok te
 have lz:(zipK L S L.length).reverse.length=L.length:=by unfold zipK;rw [List.length_reverse,List.length_map,List.length_range]
 have:=traceE_made (C:=(zipK L S L.length).reverse) (n:=n') (rev_big m3) h0 (by rw [lz];omega) (by rw [lz];omega)
 rw [rev_val m5,rev_known] at this
 exact this
theorem vTn_w {p q:Nat} (hp:p≤32) (hq:q≤32) (t:Nat × Int) (ht:t ∈ vTn p q):t.2.natAbs≤65:=by
 simp only [vTn,List.mem_cons,List.not_mem_nil,or_false] at ht
 rcases ht with rfl | rfl | rfl
 ·show (-(q:Int)).natAbs≤65;omega
 ·show ((p:Int)+q).natAbs≤65;omega
 ·show (-(p:Int)).natAbs≤65;omega
section
variable {h h0:TH} {x y n:Int} {p q c3 c4 c5:Nat} {v1 v2 w1 w2:Value} {L1 L2:List Int} {S1 S2:List (Int × Int)}
end
end Go.Tidy
namespace Go.Tidy
open Go Go.Proofs Tab
variable {tp:TProg}
section
variable {h h0:TH} {x y n n1 n2 a b:Int} {p q c3 c4 c5:Nat} {v1 v2 w1 w2:Value} {L1 L2:List Int} {S1 S2:List (Int × Int)}
end
theorem i8_inT {z:Int} (h:(Lit.int .i8 z).wf=true):-128≤z∧z≤127:=by
 have h:(decide (IntKind.i8.min≤z) && decide (z≤IntKind.i8.max))=true:=h
 have e1:IntKind.i8.min=-128:=by decide
 have e2:IntKind.i8.max=127:=by decide
 rw [e1,e2,Bool.and_eq_true] at h
 exact ⟨of_decide_eq_true h.1,of_decide_eq_true h.2⟩
end Go.Tidy
namespace Go.Tidy
open Go Go.Proofs Tab
section
variable {L:List Int} {p q m M j:Nat}
theorem res_step (hp:1≤p) (x:Int):resE1 p ((p:Int)*x)=cond (qcd x) 4 0∧((p:Int)*x).tdiv p=x:=by
 have h0:(p:Int)≠0:=by omega
 have h1:((p:Int)*x).tdiv p=x:=Int.mul_tdiv_cancel_left x h0
 have h2:((p:Int)*x).tmod p=0:=Int.mul_tmod_right _ _
 refine ⟨?_,h1⟩
 unfold resE1
 rw [h1,h2];rfl
end
end Go.Tidy
namespace Go.Tidy
open Go Go.Proofs Tab
section
variable {L V X:List Int} {S:List (Int × Int)} {p q m M j k:Nat} {n:Int}
theorem small_read {x:Int} (h:-20000≤x∧x≤20000):readE x=0:=by
 unfold readE outB
 rw [decide_eq_false (by omega),decide_eq_false (by omega)];rfl
theorem small_big {x:Int} (h:-20000≤x∧x≤20000):qcd x=false:=by
 unfold qcd
 rw [small_read h];rfl
theorem lim_mem (hL:∀ j,-20000≤L.getD j 0∧L.getD j 0≤20000) {x:Int} (hx:x ∈ L):-20000≤x∧x≤20000:=by
 obtain ⟨i,hi,e⟩:=List.getElem_of_mem hx
 have:=hL i
 rw [List.getD_eq_getElem?_getD,List.getElem?_eq_getElem hi] at this
 rw [← e]
 exact this
theorem endE_take (h:p+q≤L.length) (hL:∀ j,-20000≤L.getD j 0∧L.getD j 0≤20000):endE (p:Int) (q:Int) (L.take (p+q))=0:=by
 unfold endE
 rw [show (((L.take (p+q)).length:Int) != (p:Int)+q)=false from bne_eq_false_iff_eq.2 (by rw [List.length_take];omega)]
 refine firstNZ_all fun x hx=>?_
 obtain ⟨y,hy,rfl⟩:=List.mem_map.1 hx
 exact small_read (lim_mem hL (List.mem_of_mem_take hy))
theorem res_tot (hp:1≤p) (hp':p≤32) (hq:1≤q) (hq':q≤32) (t1:qbk n V S=0) (hX:endE (p:Int) (q:Int) X=0) (h1:V.length+(p+q)≤4096) (h2:(p:Int)≤n) (h3:n+(V.length:Nat)+q≤100000000):resTot n p q V S X=(resJ p q X (zipK V S V.length) V.length).1:=by
 unfold resTot
 have e1:qae [chordE p q,qbk n V S]=0:=by rw [chordE_in (by omega) (by omega) (by omega) (by omega),t1];rfl
 have e2:rngE n p q V.length=0:=by
  unfold rngE
  rw [decide_eq_false (by omega),decide_eq_false (by omega),decide_eq_false (by omega)];rfl
 rw [if_neg (fun c=>c e1),if_neg (fun c=>c hX),if_neg (fun c=>c e2),Int.toNat_natCast,Int.toNat_natCast]
end
end Go.Tidy
namespace Go.Tidy
open Go Go.Proofs Tab
variable {tp:TProg}
structure Sx (b:Nat) (n:Int):Prop where
 ok:∃ neg q,V32 b neg q∧(∀ D,2 ^ 149=D→q*16=n.natAbs*D)∧sg neg n.natAbs=n
theorem Samp.x {b:Nat} {n:Int} (s:Samp b n):Sx b n:=⟨s.ok⟩
theorem Sx.nan {b:Nat} {n:Int} (s:Sx b n):qcy .f32 b=false:=by
 obtain ⟨neg,q,h,_⟩:=s.ok
 exact h.nan
theorem Sx.order {b c:Nat} {n m:Int} (s:Sx b n) (t:Sx c m):Ieee.single.order b c=some (compare n m):=by
 obtain ⟨neg,q,h1,h2,h3⟩:=s.ok
 obtain ⟨neg',q',g1,g2,g3⟩:=t.ok
 obtain ⟨D,hD⟩:∃ D:Nat,2 ^ 149=D:=⟨_,rfl⟩
 have hDp:0 < D:=by rw [← hD];exact qar 149
 have e1:=h2 D hD
 have e2:=g2 D hD
 have a1:sg neg q*(16:Nat)=n*(D:Nat):=by rw [← qdz,e1,qdz,h3]
 have a2:sg neg' q'*(16:Nat)=m*(D:Nat):=by rw [← qdz,e2,qdz,g3]
 rw [h1.order g1]
 generalize sg neg q=x at *
 generalize sg neg' q'=y at *
 have hDi:(0:Int) < (D:Int):=by omega
 have hlt:x < y ↔ n < m:=by
  constructor
  ·intro hq
   have:n*(D:Int) < m*(D:Int):=by rw [← a1,← a2];omega
   exact Int.lt_of_mul_lt_mul_right this (by omega)
  ·intro hq
   have:n*(D:Int) < m*(D:Int):=Int.mul_lt_mul_of_pos_right hq hDi
   rw [← a1,← a2] at this
   omega
 have heq:x=y ↔ n=m:=by
  constructor
  ·intro hq
   rw [hq,a2] at a1
   exact (Int.eq_of_mul_eq_mul_right (by omega) a1).symm
  ·intro hq
   rw [hq,← a2] at a1
   omega
 congr 1
 show compareOfLessAndEq _ _=compareOfLessAndEq _ _
 unfold compareOfLessAndEq
 simp only [hlt,heq]
theorem sg_not (s:Bool) (q:Nat):sg (!s) q=-sg s q:=by
 unfold sg
 cases s <;> simp
theorem sg_sign {z:Int} {P:Nat} {w:Int} {s t:Bool} (hP:0 < P) (h:w=z*(P:Int)∨z=w*(P:Int)):sg (if z=0 then s && t else decide (z < 0)) w.natAbs=w:=by
  by_cases hz:z=0
  · have hw:w=0:=by
      rcases h with h | h
      · rw [h,hz,Int.zero_mul]
      · rw [hz] at h
        rcases Int.mul_eq_zero.1 h.symm with h | h
        · exact h
        · omega
    rw [if_pos hz,hw]
    cases s && t <;> rfl
  · rw [if_neg hz]
    have hPi:(0:Int) < (P:Int):=by omega
    have key:z < 0 ↔ w < 0:=by
      rcases h with h | h
      · rw [h]
        constructor
        · intro hl
          have:=Int.mul_lt_mul_of_pos_right hl hPi
          omega
        · intro hl
          have:z*(P:Int) < 0*(P:Int):=by omega
          exact Int.lt_of_mul_lt_mul_right this (by omega)
      · rw [h]
        constructor
        · intro hl
          have:w*(P:Int) < 0*(P:Int):=by omega
          exact Int.lt_of_mul_lt_mul_right this (by omega)
        · intro hl
          have:=Int.mul_lt_mul_of_pos_right hl hPi
          omega
    unfold sg
    by_cases hl:w < 0
    · rw [decide_eq_true (key.2 hl),if_pos rfl];omega
    · rw [decide_eq_false (fun q=>hl (key.1 q)),if_neg (by decide)];omega
theorem arr1 {z w:Int} {P Q D:Nat} (hP:0 < P) (h:z*(P:Int)*16=w*(D:Int)) (hq:Q*P*16=D):z=w*(Q:Int):=by
 subst hq
 refine Int.eq_of_mul_eq_mul_right (a:=(P:Int)*16) (by omega) ?_
 rw [← Int.mul_assoc,h,Int.natCast_mul,Int.natCast_mul,Int.mul_assoc,Int.mul_assoc]
 rfl
theorem arr2 {z w:Int} {P Q D:Nat} (hD:0 < D) (h:z*(P:Int)*16=w*(D:Int)) (hq:D*Q=P*16):w=z*(Q:Int):=by
 refine Int.eq_of_mul_eq_mul_right (a:=(D:Int)) (by omega) ?_
 rw [← h,Int.mul_assoc,Int.mul_assoc]
 have e:(P:Int)*16=((P*16:Nat):Int):=by rw [Int.natCast_mul];rfl
 rw [e,← hq,Int.natCast_mul,Int.mul_comm (D:Int)]
theorem arr3 {Z P Q D:Nat} (hq:D*Q=P*16):Z*P*16=Z*Q*D:=by
 rw [Nat.mul_assoc,← hq,Nat.mul_assoc,Nat.mul_comm D]
theorem Sx.sub {b c:Nat} {n m:Int} (s:Sx b n) (t:Sx c m) (hn:n.natAbs≤100000) (hm:m.natAbs≤100000):∃ r,Ieee.single.sub b c=some r∧Sx r (n - m):=by
 obtain ⟨s1,q1,⟨m1,k1,r1,p1,l1⟩,h2,h3⟩:=s.ok
 obtain ⟨s2,q2,⟨m2,k2,r2,p2,l2⟩,g2,g3⟩:=t.ok
 obtain ⟨D,hD⟩:∃ D:Nat,2 ^ 149=D:=⟨_,rfl⟩
 have hDp:0 < D:=by rw [← hD];exact qar 149
 have e1:=h2 D hD
 have e2:=g2 D hD
 have a1:sg s1 q1*(16:Nat)=n*(D:Nat):=by rw [← qdz,e1,qdz,h3]
 have a2:sg s2 q2*(16:Nat)=m*(D:Nat):=by rw [← qdz,e2,qdz,g3]
 obtain ⟨K,hK⟩:∃ K,min k1 k2=K:=⟨_,rfl⟩
 have hmin:min ((-149:Int)+(k1:Int)) (-149+(k2:Int))=-149+(K:Int):=by omega
 obtain ⟨z,hz⟩:∃ z:Int,sg s1 (m1*2 ^ (k1 - K))+sg (!s2) (m2*2 ^ (k2 - K))=z:=⟨_,rfl⟩
 have hsub:Ieee.single.sub b c=some (Ieee.single.nearest (if z=0 then s1 && !s2 else decide (z < 0)) z.natAbs (-149+(K:Int))):=by
  unfold Ieee.Format.sub
  rw [r1,r2]
  show (Ieee.Datum.sum (.number s1 m1 (-149+(k1:Int))) (.number (!s2) m2 (-149+(k2:Int)))).map _=_
  unfold Ieee.Datum.sum
  simp only [hmin,signed_sg]
  rw [show ((-149:Int)+(k1:Int) - (-149+(K:Int))).toNat=k1 - K by omega,show ((-149:Int)+(k2:Int) - (-149+(K:Int))).toNat=k2 - K by omega,hz]
  rfl
 have pk1:m1*2 ^ (k1 - K)*2 ^ K=q1:=by rw [Nat.mul_assoc,← Nat.pow_add,show k1 - K+K=k1 by omega,p1]
 have pk2:m2*2 ^ (k2 - K)*2 ^ K=q2:=by rw [Nat.mul_assoc,← Nat.pow_add,show k2 - K+K=k2 by omega,p2]
 have hzP:z*((2 ^ K:Nat):Int)*16=(n - m)*(D:Int):=by
  rw [← hz,Int.add_mul,← qdz,← qdz,pk1,pk2,sg_not,Int.sub_mul,← a1,← a2]
  omega
 by_cases hK2:K≤145
 ·have hpw:2 ^ (145 - K)*2 ^ K*16=D:=by
   rw [← Nat.pow_add,show 145 - K+K=145 by omega,← hD]
  have hzz:z=(n - m)*((2 ^ (145 - K):Nat):Int):=arr1 (qar K) hzP hpw
  have hab:z.natAbs=(n - m).natAbs*2 ^ (145 - K):=by rw [hzz,Int.natAbs_mul,Int.natAbs_natCast]
  refine ⟨_,hsub,⟨⟨(if z=0 then s1 && !s2 else decide (z < 0)),(n - m).natAbs*2 ^ 145,?_,?_,sg_sign (s:=s1) (t:=!s2) (P:=2 ^ (145 - K)) (qar _) (.inr hzz)⟩⟩⟩
  ·rw [hab,nearest_shift Ieee.single _ (n - m).natAbs (145 - K) _ (by show _ < 2 ^ 24;omega) (by rw [lp32];omega)]
   exact near32 (by omega) _ (by omega) (by decide)
  ·intro D' hD'
   rw [Nat.mul_assoc,← hD']
 ·have hpw:D*2 ^ (K - 145)=2 ^ K*16:=by
   rw [← hD]
   exact (Nat.pow_add 2 149 (K - 145)).symm.trans ((congrArg (fun x=>2 ^ x) (show 149+(K - 145)=K+4 by omega)).trans (Nat.pow_add 2 K 4))
  have hzz:n - m=z*((2 ^ (K - 145):Nat):Int):=arr2 hDp hzP hpw
  have hab:(n - m).natAbs=z.natAbs*2 ^ (K - 145):=by rw [hzz,Int.natAbs_mul,Int.natAbs_natCast]
  have hle:z.natAbs≤(n - m).natAbs:=by rw [hab];exact Nat.le_mul_of_pos_right _ (qar _)
  refine ⟨_,hsub,⟨⟨(if z=0 then s1 && !s2 else decide (z < 0)),_,near32 (m:=z.natAbs) (k:=K) (by omega) _ rfl (by omega),?_,sg_sign (s:=s1) (t:=!s2) (P:=2 ^ (K - 145)) (qar _) (.inl hzz)⟩⟩⟩
  intro D' hD'
  rw [hab,← hD',hD]
  exact arr3 hpw
end Go.Tidy
namespace Go.Tidy
open Go Go.Proofs Tab
variable {tp:TProg}
theorem RunC.forms {s:ByteArray} {n:Int} {h:TH} {v1 v2:Value} {C:List (Int × Bool)} (r:RunC s n h v1 v2 C):∃ b1 l1 k1 b2 l2 k2,v1=.slice b1 l1 k1∧v2=.slice b2 l2 k2:=by
 obtain ⟨F,es,r,_⟩:=r
 obtain ⟨b1,k1,e1⟩:=r.f.form
 obtain ⟨b2,k2,e2⟩:=r.s.form
 exact ⟨_,_,_,_,_,_,e1,e2⟩
theorem shapeB_same (n:Int) (m:Nat):shapeB n m n m=true:=by unfold shapeB;simp
section
variable {s0 s1 s2:ByteArray} {n:Int} {x0 y0 x1 y1 x2 y2:Value} {C0 C1 C2:List (Int × Bool)} {N lb c2:Nat} {m:Int} {h g:TH} {rest:TCode} {Q:Exit→qan→TH→Prop}
end
end Go.Tidy
namespace Go.Tidy
open Go Go.Proofs Tab
variable {tp:TProg}
def lane (s:Nat→ByteArray) (n:Int) (h:TH) (v1 v2:Nat→Value) (C:Nat→List (Int × Bool)) (N:Nat):Prop:=∀ k,RunC (s k) n h (v1 k) (v2 k) (C k)∧(C k).length=N
theorem lane.hx {s:Nat→ByteArray} {n:Int} {h h':TH} {v1 v2:Nat→Value} {C:Nat→List (Int × Bool)} {N:Nat} (l:lane s n h v1 v2 C N) (x:HX h h'):lane s n h' v1 v2 C N:=fun k=>⟨(l k).1.hx x,(l k).2⟩
section
variable {s:Nat→ByteArray} {n:Int} {v1 v2:Nat→Value} {C:Nat→List (Int × Bool)} {N lb c2 c7:Nat} {m:Int} {hb g:TH} {Q:Exit→qan→TH→Prop} {gx:Nat} {p126 p127 p128:Value}
end
end Go.Tidy
namespace Go.Tidy
open Go Go.Proofs Tab
variable {tp:TProg}
section
variable {m:Int} {C D:Nat→List (Int × Bool)} {N:Nat}
end
section
variable {s:ByteArray} {n:Int} {h:TH} {v1 v2 w1 w2:Value} {C D:List (Int × Bool)}
theorem sumC_dark:DarkC (sumC C D):=by
 intro c hc hk
 unfold sumC at hc
 obtain ⟨i,hi⟩:=List.getElem?_of_mem hc
 rw [List.getElem?_zipWith] at hi
 split at hi
 ·rename_i a b _ _
  cases hi
  unfold sumCell at *
  cases h:(a.2 && b.2) with
  | true=>rw [h] at hk;cases hk
  | false=>rfl
 ·cases hi
theorem c50 (H:Has tp) (X:HasX tp) {s':ByteArray} (r:RunC s n h v1 v2 C) (r':RunC s' n h w1 w2 D) (hl:D.length=C.length) (ok:allOk (sumC C D)=true) (f:Free0 h.next h):qad Tryz.prog tp (.func (.func 50) #[] #[]) #[runV s n v1 v2,runV s' n w1 w2] h fun v h'=>NewC s n (sumC C D) h v h':=by
 obtain ⟨F,es,r,c⟩:=r
 obtain ⟨F',es',r',c'⟩:=r'
 have m:=c.m
 have l:=c.len
 have q:=c.holes
 have l':=c'.len
 have q':=c'.holes
 have hs:(sumC C D).length=C.length:=by unfold sumC;rw [List.length_zipWith];omega
 refine (k50 H X r r' c.e (fun _=>c.lev) c'.e (fun _=>c'.lev) (by omega) (by omega) (by omega) (by omega) f).mono ?_
 intro v h' R
 have he:sumErr (twoE 0 0 n F.length n F'.length) C D=0:=by
  unfold sumErr twoE
  rw [show F'.length=F.length by omega,shapeB_same,ok]
  rfl
 rw [c.r,c'.r,c.c,c'.c,he] at R
 exact R.new (by rw [hs];exact c.head) (by rw [hs];exact c.top) (allOk_iff.1 ok) sumC_dark
end
end Go.Tidy
namespace Go.Tidy
open Go Go.Proofs Tab
section
variable {L:List Int} {S:List (Int × Int)} {p q m M j i:Nat} {K kn:Nat→Bool} {n:Int}
def knG (K:Nat→Bool) (p q:Nat) (i:Nat):Bool:=if h:i < p+q∨q=0 then true else K (i - (p+q)) && (knG K p q (i - (p+q)) && knG K p q (i - q))
termination_by i
decreasing_by
 all_goals omega
theorem knG_end (h:i < p+q):knG K p q i=true:=by
 unfold knG
 rw [dif_pos (.inl h)]
theorem knG_step (hq:1≤q):knG K p q (p+q+j)=(K j && (knG K p q j && knG K p q (j+p))):=by
 conv=>lhs;unfold knG
 rw [dif_neg (by omega),show p+q+j - (p+q)=j by omega,show p+q+j - q=j+p by omega]
def grpK (L:List Int) (kn:Nat→Bool) (k:Nat):List (Int × Bool):=(List.range k).map fun i=>(cond (kn i) (L.getD i 0) 0,kn i)
theorem grpK_get (h:i < m):(grpK L kn m).getD i (0,false)=(cond (kn i) (L.getD i 0) 0,kn i):=by
 unfold grpK
 rw [List.getD_eq_getElem?_getD,List.getElem?_map,List.getElem?_range h];rfl
theorem grpK_succ:grpK L kn (m+1)=grpK L kn m ++ [(cond (kn m) (L.getD m 0) 0,kn m)]:=by
 unfold grpK
 rw [List.range_succ,List.map_append];rfl
theorem grpK_len:(grpK L kn m).length=m:=by unfold grpK;rw [List.length_map,List.length_range]
theorem grpK_big (hL:∀ j,qcd (L.getD j 0)=false):bigC (grpK L kn m)=false:=by
 unfold bigC
 rw [List.any_eq_false]
 intro c hc
 obtain ⟨i,hi,rfl⟩:=List.mem_map.1 hc
 show ¬ (kn i && qcd (cond (kn i) (L.getD i 0) 0))=true
 cases kn i with
 | false=>exact Bool.false_ne_true
 | true=>rw [show qcd (cond true (L.getD i 0) 0)=false from hL i];decide
theorem grpK_val (h:i < m) (hk:kn i=true):(qcr (grpK L kn m)).getD i 0=L.getD i 0:=by
 rw [valC_getD,grpK_get h,hk];rfl
theorem grpK_lim {B:Nat} (hL:∀ j,(L.getD j 0).natAbs≤B) (i:Nat):((qcr (grpK L kn m)).getD i 0).natAbs≤B:=by
 rw [valC_getD]
 by_cases h:i < m
 ·rw [grpK_get h]
  show (cond (kn i) (cond (kn i) (L.getD i 0) 0) 0).natAbs≤B
  cases kn i with
  | false=>exact Nat.zero_le _
  | true=>exact hL i
 ·rw [List.getD_eq_getElem?_getD,List.getElem?_eq_none (by rw [grpK_len];omega)]
  exact Nat.zero_le _
theorem grpK_known (h:i < m):qam (qah ((grpK L kn m).map fun c=>c.2)) (i:Nat)=kn i:=by
 rw [qeb (by rw [grpK_len];exact h),grpK_get h]
theorem tapK_v:tapK S j (vTn p q)=(qam S (j:Nat) && (qam S ((j+p:Nat):Int) && qam S ((j+(p+q):Nat):Int))):=by
 unfold tapK vTn
 simp only [List.all_cons,List.all_nil,Bool.and_true,Nat.add_zero]
theorem vers_get (h:j < M):(qcr (qbx L S (vTn p q) M)).getD j 0=cond (tapK S j (vTn p q)) (tapN L j (vTn p q) 0) 0:=by
 rw [valC_getD,tapC_getD h]
theorem vers_known (h:j < M):qam (qah ((qbx L S (vTn p q) M).map fun c=>c.2)) (j:Nat)=tapK S j (vTn p q):=by
 rw [qeb (by rw [qbh];exact h),tapC_getD h]
theorem resJ_hole (hp:1≤p) (hq:1≤q) (hL:∀ i,qcd (L.getD i 0)=false) (hM:M+(p+q)=L.length):∀ j,j≤M→resJ p q (L.take (p+q)) (zipK (qcr (qbx L S (vTn p q) M)) (qah ((qbx L S (vTn p q) M).map fun c=>c.2)) M) j=(0,grpK L (knG (fun i=>tapK S i (vTn p q)) p q) (p+q+j))
  | 0,_=>by
    show (0,(L.take (p+q)).map fun x=>(x,true))=_
    congr 1
    refine List.ext_getElem? fun i=>?_
    unfold grpK
    by_cases h:i < p+q
    · rw [List.getElem?_map,List.getElem?_take_of_lt h,List.getElem?_map,List.getElem?_range (by omega),List.getElem?_eq_getElem (by omega)]
      show some (L[i],true)=some (cond (knG (fun i=>tapK S i (vTn p q)) p q i) (L.getD i 0) 0,knG (fun i=>tapK S i (vTn p q)) p q i)
      rw [knG_end h,List.getD_eq_getElem?_getD,List.getElem?_eq_getElem (by omega)];rfl
    · rw [List.getElem?_eq_none (by rw [List.length_map,List.length_take];omega),List.getElem?_eq_none (by rw [List.length_map,List.length_range];omega)]
  | j + 1, hj => by
    have ih:=resJ_hole hp hq hL hM j (by omega)
    have hc:(zipK (qcr (qbx L S (vTn p q) M)) (qah ((qbx L S (vTn p q) M).map fun c=>c.2)) M).getD j (0,false)=(cond (tapK S j (vTn p q)) (tapN L j (vTn p q) 0) 0,tapK S j (vTn p q)):=by
      rw [List.getD_eq_getElem?_getD,zipK_get (by omega),vers_get (by omega),vers_known (by omega)];rfl
    rw [show p+q+(j+1)=p+q+j+1 by omega,grpK_succ]
    have hs:=knG_step (K:=fun i=>tapK S i (vTn p q)) (p:=p) (j:=j) hq
    have hk:resK p (grpK L (knG (fun i=>tapK S i (vTn p q)) p q) (p+q+j)) j ((zipK (qcr (qbx L S (vTn p q) M)) (qah ((qbx L S (vTn p q) M).map fun c=>c.2)) M).getD j (0,false)).2=knG (fun i=>tapK S i (vTn p q)) p q (p+q+j):=by
      unfold resK
      rw [hc,grpK_get (by omega),grpK_get (by omega),hs]
      cases knG (fun i=>tapK S i (vTn p q)) p q (j+p) <;> cases knG (fun i=>tapK S i (vTn p q)) p q j <;> rfl
    cases hb:knG (fun i=>tapK S i (vTn p q)) p q (p+q+j) with
    | false =>
      rw [hb] at hk
      exact resJ_dark ih hk
    | true =>
      rw [hb] at hk hs
      have hs':=hs.symm
      rw [Bool.and_eq_true,Bool.and_eq_true] at hs'
      obtain ⟨kt,k1,k2⟩:=hs'
      replace kt:tapK S j (vTn p q)=true:=kt
      have hn:resN p q (grpK L (knG (fun i=>tapK S i (vTn p q)) p q) (p+q+j)) j (tapN L j (vTn p q) 0)=(p:Int)*L.getD (p+q+j) 0:=by
        unfold resN
        rw [grpK_get (by omega),grpK_get (by omega),k1,k2,vTn_val,Int.neg_mul,show j+(p+q)=p+q+j by omega]
        show ((p:Int)+q)*L.getD (j+p) 0 - (q:Int)*L.getD j 0 - (-((q:Int)*L.getD j 0)+((p:Int)+q)*L.getD (j+p) 0 - (p:Int)*L.getD (p+q+j) 0)=_
        omega
      obtain ⟨r1,r2⟩:=res_step hp (L.getD (p+q+j) 0)
      rw [kt] at hc
      rw [resJ_put ih hk (by rw [hc];show resE1 p (resN p q _ j (tapN L j (vTn p q) 0))=0;rw [hn,r1,hL];rfl),hc]
      show (0,grpK L _ (p+q+j) ++ [((resN p q (grpK L (knG (fun i=>tapK S i (vTn p q)) p q) (p+q+j)) j (tapN L j (vTn p q) 0)).tdiv p,true)])=_
      rw [hn,r2];rfl
theorem knG_known (hp:1≤p) (hq:1≤q) (h0:∀ i,i < p+q→qam S (i:Nat)=true) (hk:knG (fun i=>tapK S i (vTn p q)) p q i=true):qam S (i:Nat)=true:=by
 by_cases h:i < p+q
 ·exact h0 i h
 ·obtain ⟨j,rfl⟩:∃ j,i=p+q+j:=⟨i - (p+q),by omega⟩
  rw [knG_step hq] at hk
  rw [Bool.and_eq_true] at hk
  have h1:tapK S j (vTn p q)=true:=hk.1
  rw [tapK_v,Bool.and_eq_true,Bool.and_eq_true] at h1
  rw [show p+q+j=j+(p+q) by omega]
  exact h1.2.2
theorem tapN_like {L':List Int} (h0:L'.getD j 0=L.getD j 0) (h1:L'.getD (j+p) 0=L.getD (j+p) 0) (h2:L'.getD (j+(p+q)) 0=L.getD (j+(p+q)) 0):tapN L' j (vTn p q) 0=tapN L j (vTn p q) 0:=by
 rw [vTn_val,vTn_val,h0,h1,h2]
theorem agn_grp (hp:1≤p) (hp':p≤32) (hq:1≤q) (hq':q≤32) (hM:M+(p+q)=L.length) (h0:0 < M)
  (t1:qbk n (qcr (grpK L kn L.length)) (qah ((grpK L kn L.length).map fun c=>c.2))=0) (t2:qbk (n+p) (qcr (qbx L S (vTn p q) M)) (qah ((qbx L S (vTn p q) M).map fun c=>c.2))=0)
  (hb:bigC (qbx (qcr (grpK L kn L.length)) (qah ((grpK L kn L.length).map fun c=>c.2)) (vTn p q) M)=false) :
  agnO n p q (qcr (grpK L kn L.length)) (qah ((grpK L kn L.length).map fun c=>c.2)) (n+p) (qcr (qbx L S (vTn p q) M)) (qah ((qbx L S (vTn p q) M).map fun c=>c.2))=(true,0):=by
 have lD:(qcr (grpK L kn L.length)).length=L.length:=by rw [qck,grpK_len]
 have lV:(qcr (qbx L S (vTn p q) M)).length=M:=by rw [qck,qbh]
 unfold agnO
 have e1:qae [chordE p q,qbk n (qcr (grpK L kn L.length)) (qah ((grpK L kn L.length).map fun c=>c.2)),qbk (n+p) (qcr (qbx L S (vTn p q) M)) (qah ((qbx L S (vTn p q) M).map fun c=>c.2))]=0:=by rw [chordE_in (by omega) (by omega) (by omega) (by omega),t1,t2];rfl
 rw [if_neg (fun c=>c e1),Int.toNat_natCast,Int.toNat_natCast]
 unfold agnR
 rw [lD,show L.length - (p+q)=M by omega,if_neg (by omega),if_neg (by rw [hb];exact Bool.false_ne_true),if_neg (fun c=>c ⟨rfl,lV.symm⟩)]
 congr 1
 unfold agreeB
 refine List.all_eq_true.2 fun i hi=>?_
 rw [List.mem_range,lV] at hi
 rw [lV,knownL_getD hi,vers_known hi,vers_get hi,vers_get hi]
 have e2:((qbx (qcr (grpK L kn L.length)) (qah ((grpK L kn L.length).map fun c=>c.2)) (vTn p q) M).map fun c=>c.2).getD i false=tapK (qah ((grpK L kn L.length).map fun c=>c.2)) i (vTn p q):=by
  rw [List.getD_eq_getElem?_getD,List.getElem?_map,tapC_get hi];rfl
 rw [e2]
 cases k1:tapK (qah ((grpK L kn L.length).map fun c=>c.2)) i (vTn p q) with
 | false=>rfl
 | true =>
  cases k2:tapK S i (vTn p q) with
  | false=>rfl
  | true =>
   rw [tapK_v,Bool.and_eq_true,Bool.and_eq_true,grpK_known (by omega),grpK_known (by omega),grpK_known (by omega)] at k1
   show (!(true && true && (tapN (qcr (grpK L kn L.length)) i (vTn p q) 0 != tapN L i (vTn p q) 0)))=true
   rw [tapN_like (grpK_val (by omega) k1.1) (grpK_val (by omega) k1.2.1) (grpK_val (by omega) k1.2.2),bne_self_eq_false];rfl
theorem vers_wave {L':List Int} {w:Nat→Int} {g:Nat} (hg:g ∣ p) (hg':g ∣ q) (hM:M+(p+q)=m) (hl:∀ i,i < m→qam S (i:Nat)=true→L'.getD i 0=L.getD i 0+w (i % g)):qcr (qbx L' S (vTn p q) M)=qcr (qbx L S (vTn p q) M)∧((qbx L' S (vTn p q) M).map fun c=>c.2)=(qbx L S (vTn p q) M).map fun c=>c.2:=by
  constructor
  · refine List.ext_getElem? fun j=>?_
    by_cases h:j < M
    · have a1:=vers_get (L:=L') (S:=S) (p:=p) (q:=q) h
      have a2:=vers_get (L:=L) (S:=S) (p:=p) (q:=q) h
      rw [List.getElem?_eq_getElem (by rw [qck,qbh];exact h),List.getElem?_eq_getElem (by rw [qck,qbh];exact h)]
      rw [List.getD_eq_getElem?_getD,List.getElem?_eq_getElem (by rw [qck,qbh];exact h)] at a1 a2
      congr 1
      refine a1.trans (Eq.trans ?_ a2.symm)
      cases k:tapK S j (vTn p q) with
      | false=>rfl
      | true =>
        rw [tapK_v,Bool.and_eq_true,Bool.and_eq_true] at k
        show tapN L' j (vTn p q) 0=tapN L j (vTn p q) 0
        obtain ⟨k1,e1⟩:=hg
        obtain ⟨k2,e2⟩:=hg'
        have m1:(j+p) % g=j % g:=by rw [e1,Nat.add_mul_mod_self_left]
        have m2:(j+(p+q)) % g=j % g:=by rw [e1,e2,← Nat.mul_add,Nat.add_mul_mod_self_left]
        rw [vTn_val,vTn_val,hl j (by omega) k.1,hl (j+p) (by omega) k.2.1,hl (j+(p+q)) (by omega) k.2.2,m1,m2]
        generalize w (j % g)=u
        generalize L.getD j 0=x1
        generalize L.getD (j+p) 0=x2
        generalize L.getD (j+(p+q)) 0=x3
        generalize (p:Int)=P
        generalize (q:Int)=Q
        grind
    · rw [List.getElem?_eq_none (by rw [qck,qbh];omega),List.getElem?_eq_none (by rw [qck,qbh];omega)]
  · refine List.ext_getElem? fun j=>?_
    by_cases h:j < M
    · rw [List.getElem?_map,List.getElem?_map,tapC_get h,tapC_get h];rfl
    · rw [List.getElem?_eq_none (by rw [List.length_map,qbh];omega),List.getElem?_eq_none (by rw [List.length_map,qbh];omega)]
end
end Go.Tidy
namespace Go.Tidy
open Go Go.Proofs Tab
variable {tp:TProg}
abbrev lvC (C:List (Int × Bool)):List Int:=C.map fun c=>c.1
abbrev hoC (C:List (Int × Bool)):List (Int × Int):=qah (C.map fun c=>c.2)
section
variable {h:TH} {s:ByteArray} {n:Int} {v1 v2:Value} {C:List (Int × Bool)}
theorem lvC_len:(lvC C).length=C.length:=List.length_map ..
theorem hoC_known:qav (hoC C) (lvC C).length=C.map fun c=>c.2:=by
 have k:=known_holes (C.map fun c=>c.2)
 rw [List.length_map] at k
 rw [lvC_len];exact k
theorem lvC_rev:lvC C.reverse=(lvC C).reverse:=List.map_reverse
theorem hoC_rev:hoC C.reverse=qah (qav (hoC C) (lvC C).length).reverse:=by
 rw [hoC_known]
 show qah (C.reverse.map fun c=>c.2)=_
 rw [List.map_reverse]
set_option maxHeartbeats 4000000 in
set_option maxRecDepth 10000 in
theorem k1146c (H:Has tp) (X:HasX tp) (r:RunC s n h v1 v2 C) (f:Free0 h.next h) :
  qad Tryz.prog tp (.func (.func 46) #[] #[]) #[runV s n v1 v2] h fun v h'=>HX h h'∧∃ c b m k,v=.tuple #[trcV n (slA c C.length) (.slice b m k),zi 0]∧TrcH h' (slA c C.length) (.slice b m k) (lvC C) (hoC C)∧h.next≤c∧∀ z,bl (.slice b m k)=some z→h.next≤z:=by
 refine qad.fnL (H.fn 46 f1146 rfl rfl) ?_
 obtain ⟨F,es,r,q⟩:=r
 have qm:=q.m
 have ql:=q.len
 have qh:=q.holes
 have vd:=q.v
 have hE':=q.r
 have hLv:=q.lev
 have hEs:=q.e
 have lL:(C.map fun c=>c.1).length=C.length:=List.length_map ..
 generalize hS:qah (C.map fun c=>c.2)=S at *
 generalize hL:(C.map fun c=>c.1)=L at *
 obtain ⟨b1,k1,rfl⟩:=r.f.form
 obtain ⟨b2,k2,rfl⟩:=r.s.form
 refine WL.sr<|WOL.box rfl fun h1 N1=>WOL.al tp1117 fun h2 N2=>WOL.as rfl<|WOL.nil<|keep [(1,_),(2,_),(3,_)] ⟨rfl,rfl,rfl,trivial⟩ ?_
 have q1:=N1.next
 have q2:=N2.next
 have A1:At h2 h.next (.cells [.string s,zi n,.slice b1 F.length k1,.slice b2 S.length k2] true true 92):=N1.at_.hx N2.hx
 have A2:=N2.at_
 have X2:=N1.hx.trans N2.hx
 refine WL.seq<|WL.sr<|WOL.ld rfl (qab tp52 A1 rfl (Nat.le_of_ble_eq_true rfl))<|WOL.cl1 rfl rfl ((k41 (s:=s) (n:=n) (es:=es) (L:=L) H X (r.hx X2) hEs (fun _=>hLv) (by omega) (by omega) (f.on X2)).mono ?_)
 rintro v h3 ⟨rfl,X3⟩
 have Y3:=X2.trans X3
 have y3:=Y3.next
 have x3:=X3.next
 have l2:=A2.lt
 replace A1:=A1.hx X3;replace A2:=A2.hx X3
 rw [hE']
 refine WOL.as rfl<|WOL.nil<|keep [(1,_),(2,_),(4,_)] ⟨rfl,rfl,rfl,trivial⟩ ?_
 refine WL.sr<|WOL.mv rfl<|WOL.bf rfl rfl rfl rfl<|WOL.nil<|keep [(1,_),(2,_),(9,_)] ⟨rfl,rfl,rfl,trivial⟩<|WL.no rfl<|WL.skip ?_
 refine WL.sr<|WOL.fa rfl (qaf fo52_2)<|WOL.ld rfl (qaa tp43 A1 rfl)<|WOL.cl2 rfl rfl rfl ((k1206 H (r.f.hx Y3) hLv (by omega) (f.on Y3)).mono ?_)
 rintro v h4 ⟨X4,c,rfl,hc,Ac⟩
 have Y4:=Y3.trans X4
 have y4:=X4.next
 have l1':=A1.lt
 replace A1:=A1.hx X4;replace A2:=A2.hx X4
 refine WOL.as rfl<|WOL.nil<|keep [(1,_),(2,_),(5,_)] ⟨rfl,rfl,rfl,trivial⟩ ?_
 refine WL.sr<|WOL.fa rfl (qaf fo52_1)<|WOL.ld rfl (qaa tp3 A1 rfl)<|WOL.mv rfl<|WOL.fa rfl (qaf fo52_3)<|WOL.ld rfl (qaa tp44 A1 rfl) ?_
 refine WOL.lq1 [h.next] rfl rfl rfl fun M hM=>((k1207 H ((r.s.hx Y4).relock M) (by omega) ((f.on Y4).held hM (fun b hb=>by simp at hb;omega))).mono ?_)
 rintro v h5 ⟨X5,b5,m5,k5,rfl,s5,l5⟩
 replace X5:=X5.relock
 replace s5:=s5.relock h4.lock
 replace l5:∀ z,bl (.slice b5 m5 k5)=some z→h4.next≤z:=l5
 generalize h5.withLock h4.lock=h5 at *
 have Y5:=Y4.trans X5
 have y5:=X5.next
 refine WOL.bd rfl bd1117<|WOL.sto (vs:=[zi n,slA c F.length,.slice b5 m5 k5]) rfl rfl tp1117 (A2.hx X5) rfl rfl (Nat.le_of_ble_eq_true rfl) rfl (f.hx Y5) (by omega) fun h6 P6=>WOL.as rfl<|WOL.nil ?_
 rw [ql]
 rw [ql] at P6
 have B:=P6.oth _ _ (by omega) (Ac.hx X5)
 refine WL.ret (WL.endC1 rfl rfl (qab tp1117 P6.at_ rfl (Nat.le_of_ble_eq_true rfl)) ⟨P6.hx _ Y5 (by omega),c,b5,m5,k5,rfl,⟨?_,?_,?_⟩,by omega,fun z hz=>(by have:=l5 z hz;omega)⟩)
 ·show SlL encI 1 _ _ (C.map fun c=>c.1)
  rw [hL]
  exact SlL.own eI B lL
 ·show SlL encS 2 _ _ (qah (C.map fun c=>c.2))
  rw [hS]
  exact slC_keep s5 fun z x hz a=>P6.oth _ _ (by have:=l5 z hz;omega) a
 ·exact fun b off m cap e=>by cases e;exact ⟨_,_,_,_,B,.inr rfl⟩
end
section
variable {h h0:TH} {s:ByteArray} {n:Int} {p q M c3 c9 c32 b9 m9 k9 m0:Nat} {w1 w2:Value} {L:List Int} {S:List (Int × Int)} {a9:Option Addr}
def cd1110h:TCode:=.seq (.reg r1110_57) (.seq (.seq (.reg r1110_58) (.cond (.tmp 345) (.seq (.reg r1110_59) .ret) .skip)) (.seq (.seq (.reg r1110_60) (.block 8 (.loop (.seq (.reg r1110_61) (.seq (.cond (.tmp 350) .skip (.exit 8)) (.seq (.block 9 (.seq (.reg r1110_62) (.seq (.reg r1110_63) (.seq (.reg r1110_64) (.cond (.tmp 377) (.seq (.reg r1110_65) .ret) .skip))))) (.reg r1110_66))))))) (.seq (.reg r1110_67) .ret)))
set_option maxHeartbeats 8000000 in
set_option maxRecDepth 10000 in
theorem k1110h (H:Has tp) (K:Awk tp) (X0:HX h0 h) (f:Free0 h0.next h0) (A3:At h c3 (.cells [zi (p:Nat),zi (q:Nat)] true true 23))
  (A9:At h c9 (.cells [zi (n+(p:Nat)),slA b9 M,.slice a9 m9 k9] true true 55)) (o9:TrcO m0 h b9 (.slice a9 m9 k9) (qcr (qbx L S (vTn p q) M)) (qah ((qbx L S (vTn p q) M).map fun c=>c.2)))
  (A32:At h c32 (.cells [zi n,w1,w2] true true 55)) (r:TrcH h w1 w2 L.reverse (qah (qav S L.length).reverse))
  (hp:1≤p) (hp':p≤6) (hq:1≤q) (hq':q≤6) (t1:qbk n L S=0) (hM:M+(p+q)=L.length) (h0M:0 < M) (l1:L.length≤40) (lim:∀ j,(L.getD j 0).natAbs≤6400) :
  ∀ a,Kn [(3,ptr c3),(9,ptr c9),(32,ptr c32)] a→W Tryz.prog tp false cd1110h a h (Fin Tryz.prog [.tmp 6] fun v _=>v=.bool true):=by
 unfold cd1110h
 obtain ⟨b1,k1,e1,_⟩:=id r.l
 obtain ⟨b2,k2,e2,_⟩:=id r.s
 subst e1 e2
 have x0:=X0.next
 have lc9:=A9.lt
 have bC:=taps_small (L:=L) (S:=S) (M:=M) (B:=6400) (T:=vTn p q) (by decide) lim (vTn_w (by omega) (by omega)) (by show 3≤65;decide)
 have rc:=rev_cells (S:=S) hM
 obtain ⟨⟨n0,n1⟩,_,_,_,_,n5⟩:=trace_ok t1
 have tR:=traceE_rev (n':=n) t1 (by omega) (by omega)
 have lR:L.reverse.length=L.length:=List.length_reverse
 have hr:=qbu (qav S L.length).reverse
 rw [List.length_reverse,qcb] at hr
 have lC:(qbx L S (vTn p q) M).length=M:=qbh
 have bR:bigC (qbx L S (vTn p q) M).reverse=false:=by
  unfold bigC at bC ⊢
  rw [List.any_reverse];exact bC
 -- the versines by the turned chord
 refine WL.sr<|WOL.fa rfl (qaf fo1112_1)<|WOL.ld rfl (qaa tp3 A3 rfl)<|WOL.fa rfl (qaf fo1112_0)<|WOL.ld rfl (qaa tp3 A3 rfl)<|WOL.bd rfl bd1128<|WOL.ld rfl (qab tp1117 A32 rfl (Nat.le_of_ble_eq_true rfl))<|WOL.cl2 rfl rfl rfl ((k1125 (n:=n) (a:=(q:Int)) (b:=(p:Int)) H r (by omega) (by omega) (f.on X0)).mono ?_)
 rintro v h1 ⟨X1,R⟩
 have Y1:=X0.trans X1
 have x1:=X1.next
 rw [Int.toNat_natCast,Int.toNat_natCast,lR,show L.length - (q+p)=M by omega,rc] at R
 obtain ⟨bx,b6,m6,k6,rfl,hx,to⟩:=R.ok (errV_in (by rw [chordE_in (by omega) (by omega) (by omega) (by omega),tR];rfl) (by omega)) bR
 clear R rc
 rw [show (qbx L S (vTn p q) M).reverse.length=M by rw [List.length_reverse];exact lC]
 refine WOL.mv rfl<|WOL.ex rfl rfl<|WOL.ex rfl rfl<|WOL.al tp1117 fun h2 N2=>WOL.sto (vs:=[zi (n+(q:Nat)),slA bx M,.slice b6 m6 k6]) rfl rfl tp1117 N2.at_ rfl rfl (Nat.le_of_ble_eq_true rfl) rfl (f.hx (Y1.trans N2.hx)) (by omega) fun h3 P3=>WOL.as rfl<|WOL.nil<|keep [(9,_),(34,_),(35,_)] ⟨rfl,rfl,rfl,trivial⟩ ?_
 have n2:=N2.next
 have p3:=P3.next
 have Z3:HX h h3:=P3.hx _ (X1.trans N2.hx) (by omega)
 have Y3:=X0.trans Z3
 have B34:=P3.at_
 have o34:TrcO h.next h3 bx (.slice b6 m6 k6) _ _:=⟨P3.oth _ _ (by have:=to.v.lt;omega) (to.v.hx N2.hx),(to.s.hx N2.hx).keep fun z y hz a=>P3.oth _ _ (by have:=(to.s.lt hz).2;omega) a⟩
 clear to
 replace A9:=A9.hx Z3;replace o9:=o9.hx Z3
 have lV:(qcr (qbx L S (vTn p q) M)).length=M:=by rw [qck,lC]
 have lVr:(qcr (qbx L S (vTn p q) M).reverse).length=M:=by rw [qck,List.length_reverse,lC]
 have r9:=o9.trc
 rw [lV] at r9
 have r34:=o34.trc
 rw [lVr] at r34
 refine WL.seq<|WL.sr<|WOL.mv rfl<|WOL.bf rfl rfl rfl rfl<|WOL.mv rfl<|WOL.now (b:=false) rfl rfl<|WOL.fa rfl (qaf qau)<|WOL.now (b:=false) rfl rfl<|WOL.ld rfl (qaa tp29 B34 rfl)<|WOL.now (b:=false) rfl rfl<|WOL.len rfl r34.l u29<|WOL.now (b:=false) rfl rfl<|WOL.fa rfl (qaf qau)<|WOL.now (b:=false) rfl rfl<|WOL.ld rfl (qaa tp29 A9 rfl)<|WOL.now (b:=false) rfl rfl<|WOL.len rfl r9.l u29<|WOL.now (b:=false) rfl rfl<|WOL.bf rfl rfl rfl (bne_eq_false_iff_eq.2 (by rw [lV,lVr]))<|WOL.pkf rfl rfl<|WOL.nil<|WL.no rfl<|WL.skip<|keep [(9,_),(34,_)] ⟨rfl,rfl,trivial⟩ ?_
 refine WL.seq<|WL.sr<|WOL.fa rfl (qaf qau)<|WOL.ld rfl (qaa tp29 B34 rfl)<|WOL.len rfl r34.l u29 ?_
 rw [lVr]
 refine WOL.mv rfl<|WOL.nil<|keep [(9,_),(34,_),(348,_),(349,_)] ⟨rfl,rfl,rfl,rfl,trivial⟩ ?_
 have hh9:=qbu ((qbx L S (vTn p q) M).map fun c=>c.2)
 have hh34:=qbu ((qbx L S (vTn p q) M).reverse.map fun c=>c.2)
 rw [List.length_map,lC] at hh9
 rw [List.length_map,List.length_reverse,lC] at hh34
 have kn9:∀ i,i < M→qam (qah ((qbx L S (vTn p q) M).map fun c=>c.2)) (i:Nat)=((qbx L S (vTn p q) M).getD i (0,false)).2:=fun i hi=>qeb (by rw [lC];exact hi)
 have kn34:∀ i,i < M→qam (qah ((qbx L S (vTn p q) M).reverse.map fun c=>c.2)) (i:Nat)=((qbx L S (vTn p q) M).reverse.getD i (0,false)).2:=fun i hi=>qeb (by rw [List.length_reverse,lC];exact hi)
 have rg:∀ i,i < M→(qbx L S (vTn p q) M).reverse.getD i (0,false)=(qbx L S (vTn p q) M).getD (M - 1 - i) (0,false):=fun i hi=>by
  rw [List.getD_eq_getElem?_getD,List.getElem?_reverse (by rw [lC];exact hi),lC,List.getD_eq_getElem?_getD]
 have va:=fun i=>valC_getD (C:=qbx L S (vTn p q) M) (i:=i)
 have vb:=fun i=>valC_getD (C:=(qbx L S (vTn p q) M).reverse) (i:=i)
 generalize qbx L S (vTn p q) M=CV at *
 have lc9':=A9.lt
 refine WL.upto (α:=Unit) M (fun _ _ g=>HX h3 g) (fun _ _=>[(9,ptr c9),(34,ptr h1.next),(348,zi (M:Nat))]) () rfl rfl (by omega) (HX.refl _) ⟨rfl,rfl,rfl,rfl,trivial⟩ (fun _ _=>rfl) (fun _ _ _=>⟨rfl,rfl,rfl,rfl,trivial⟩) (fun _ _ _=>⟨rfl,rfl,rfl,rfl,trivial⟩) ?_ ?_
 ·rintro j _ g hj G
  have ya:(qcr CV.reverse)[j]?=some ((qcr CV.reverse).getD j 0):=by rw [List.getD_eq_getElem?_getD,List.getElem?_eq_getElem (by omega)];rfl
  have yb:(qcr CV)[M - 1 - j]?=some ((qcr CV).getD (M - 1 - j) 0):=by rw [List.getD_eq_getElem?_getD,List.getElem?_eq_getElem (by omega)];rfl
  have eab:(qcr CV.reverse).getD j 0=(qcr CV).getD (M - 1 - j) 0:=by rw [va,vb,rg j hj]
  refine WL.sr<|WOL.mv rfl<|WOL.as rfl<|WOL.nil<|keep [(9,_),(34,_),(36,_),(348,_),(349,_)] ⟨rfl,rfl,rfl,rfl,rfl,trivial⟩ ?_
  have D34:=B34.hx G
  have D9:=A9.hx G
  have rx:=r34.hx G
  have ry:=r9.hx G
  refine WL.sr<|WOL.fa rfl (qaf qau)<|WOL.ld rfl (qaa tp29 D34 rfl)<|WOL.len rfl rx.l u29 ?_
  rw [lVr]
  refine WOL.sub (m:=(M:Int)) (n:=1) rfl rfl (by omega) (by omega)<|WOL.mv rfl<|WOL.sub (m:=(M:Int) - 1) (n:=(j:Int)) rfl rfl (by omega) (by omega) ?_
  rw [show (M:Int) - 1 - (j:Int)=((M - 1 - j:Nat):Int) by omega]
  refine WOL.as rfl<|WOL.nil<|keep [(9,_),(34,_),(36,_),(37,_),(348,_),(349,_)] ⟨rfl,rfl,rfl,rfl,rfl,rfl,trivial⟩ ?_
  obtain ⟨_,_,ca,fa,wa,ela,g1a,g2a,g3a,g4a,g5a⟩:=rx.l.at eI u29 tp3 ya .i64
  have gxa:=g5a 0 (by decide)
  rw [Nat.add_zero] at gxa
  obtain ⟨_,_,cb,fb,wb,elb,g1b,g2b,g3b,g4b,g5b⟩:=ry.l.at eI u29 tp3 yb .i64
  have gxb:=g5b 0 (by decide)
  rw [Nat.add_zero] at gxb
  have Yg:=Y3.trans G
  have gn:=G.next
  refine WL.sr<|WOL.fa rfl (qaf qau)<|WOL.ld rfl (qaa tp29 D34 rfl)<|WOL.mv rfl<|WOL.ix rfl rfl g1a<|WOL.ld rfl (qaa tp3 g2a gxa)<|WOL.fa rfl (qaf qau)<|WOL.ld rfl (qaa tp29 D9 rfl)<|WOL.mv rfl<|WOL.ix rfl rfl g1b<|WOL.ld rfl (qaa tp3 g2b gxb)<|WOL.bf rfl rfl rfl (bne_eq_false_iff_eq.2 eab)<|WOL.mv rfl<|WOL.now (b:=false) rfl rfl<|WOL.ld rfl (qab tp1117 D34 rfl (Nat.le_of_ble_eq_true rfl))<|WOL.now (b:=false) rfl rfl<|WOL.mv rfl<|WOL.now (b:=false) rfl rfl<|WOL.ld rfl (qab tp1117 D9 rfl (Nat.le_of_ble_eq_true rfl))<|WOL.now (b:=false) rfl rfl<|WOL.mv rfl<|WOL.now (b:=false) rfl rfl ?_
  refine WOL.lq2 [c9] rfl rfl rfl rfl fun ml hl=>((k1154 (h:=TH.withLock _ ml) H (rx.s.relock ml) (by omega)).mono ?_)
  rintro v g1 ⟨rfl,G1⟩
  replace G1:=G1.relock
  generalize g1.withLock g.lock=g1 at *
  refine WOL.now (b:=false) rfl rfl<|WOL.cl2 rfl rfl rfl ((k1154 H (ry.hx G1).s (by omega)).mono ?_)
  rintro v g2 ⟨rfl,G2⟩
  rw [kn34 j hj,kn9 (M - 1 - j) (by omega),rg j hj]
  generalize (CV.getD (M - 1 - j) (0,false)).2=kk at *
  refine WOL.now (b:=false) rfl rfl<|WOL.neb u4 rfl rfl ?_
  rw [show (kk != kk)=false by cases kk <;> rfl]
  exact WOL.pkf rfl rfl<|WOL.nil<|WL.no rfl<|WL.skip fun y k=>⟨(),(G.trans G1).trans G2,k.sub ⟨rfl,rfl,rfl,rfl,trivial⟩⟩
 ·rintro _ g G
  refine WL.sr<|WOL.cl0 rfl ((k11t K _).mono ?_)
  rintro v g8 ⟨rfl,rfl⟩
  exact WOL.as rfl<|WOL.nil<|WL.ret (WL.end_ rfl rfl)
end
end Go.Tidy
namespace Go.Tidy
open Go Go.Proofs Tab
variable {tp:TProg}
section
variable {h:TH} {s:ByteArray} {n:Int} {v1 v2:Value} {C:List (Int × Bool)}
theorem c1167 (H:Has tp) (r:RunC s n h v1 v2 C) (f:Free0 h.next h):qad Tryz.prog tp (.func (.func 47) #[] #[]) #[runV s n v1 v2] h fun v h'=>∃ w1 w2,v=runV s n w1 w2∧HX h h'∧RunC s n h' w1 w2 C:=by
 obtain ⟨F,es,r,c⟩:=r
 have m:=c.m
 have l:=c.len
 have q:=c.holes
 refine (k1167 H r (by omega) (by omega) f).mono ?_
 rintro v h' ⟨w1,w2,rfl,x,o⟩
 exact ⟨w1,w2,rfl,x,F,es,o.r,c⟩
theorem RunC.trcE (r:RunC s n h v1 v2 C):qbk n (lvC C) (hoC C)=0:=by
 obtain ⟨F,es,r,c⟩:=r
 have v:=c.v
 have lim:=c.lim
 have l:=c.len
 have ll:=lvC_len (C:=C)
 have hr:qae ((lvC C).map readE)=0:=by
  refine firstNZ_all fun x hx=>?_
  obtain ⟨y,hy,rfl⟩:=List.mem_map.1 hx
  obtain ⟨z,hz,rfl⟩:=List.mem_map.1 hy
  have:=lim z hz
  exact small_read (by omega)
 have n0:=v.n0
 have n1:=v.n1
 have m:=v.m
 have ho:=v.hole
 have fo:=v.form
 rw [l] at n1 m ho
 unfold qbk
 rw [hr,ll]
 show qae [_,_,_,_,cond (qay C.length (-1) (qah (C.map fun c=>c.2)) != 0) (qay C.length (-1) (qah (C.map fun c=>c.2))) (cond ((qah (C.map fun c=>c.2)).any (qdo (C.map fun c=>c.1))) 1 0)]=0
 rw [ho,fo]
 unfold outB
 rw [decide_eq_false (by omega:¬ n < 0),decide_eq_false (by omega:¬ n > 100000000),decide_eq_false (by omega:¬ (C.length:Int) > 4096),decide_eq_false (by omega:¬ n+(C.length:Int) > 100000000)]
 rfl
end
section
variable {h h0:TH} {s wN:ByteArray} {n:Int} {p q M c3 c4 c9 c22 c24 b9 m9 k9 m0:Nat} {v1 v2 w1 w2:Value} {C D Wv:List (Int × Bool)} {a9:Option Addr}
def cd1110g:TCode:=.seq (.reg r1110_51) (.seq (.seq (.reg r1110_52) (.cond (.tmp 317) (.seq (.reg r1110_53) .ret) .skip)) (.seq (.reg r1110_54) (.seq (.seq (.reg r1110_55) (.cond (.tmp 324) (.seq (.reg r1110_56) .ret) .skip)) cd1110h)))
set_option maxHeartbeats 8000000 in
set_option maxRecDepth 10000 in
theorem k1110g (H:Has tp) (X:HasX tp) (K:Awk tp) (X0:HX h0 h) (f:Free0 h0.next h0) (A3:At h c3 (.cells [zi (p:Nat),zi (q:Nat)] true true 23)) (A4:At h c4 (.cells (runV s n v1 v2).cells.toList true true 88)) (r:RunC s n h v1 v2 C)
  (A9:At h c9 (.cells [zi (n+(p:Nat)),slA b9 M,.slice a9 m9 k9] true true 55)) (o9:TrcO m0 h b9 (.slice a9 m9 k9) (qcr (qbx (lvC C) (hoC C) (vTn p q) M)) (qah ((qbx (lvC C) (hoC C) (vTn p q) M).map fun c=>c.2)))
  (hp:1≤p) (hp':p≤6) (hq:1≤q) (hq':q≤6) (hM:M+(p+q)=C.length) (h0M:0 < M) (l1:C.length≤40) (lim:∀ j,((lvC C).getD j 0).natAbs≤6400) :
  ∀ a,Kn [(3,ptr c3),(4,ptr c4),(9,ptr c9)] a→W Tryz.prog tp false cd1110g a h (Fin Tryz.prog [.tmp 6] fun v _=>v=.bool true):=by
 unfold cd1110g
 obtain ⟨b1,l1',k1,b2,l2',k2,rfl,rfl⟩:=r.forms
 have x0:=X0.next
 have ll:=lvC_len (C:=C)
 have t1:=r.trcE
 refine WL.sr<|WOL.ld rfl (qab tp46 A4 rfl (Nat.le_of_ble_eq_true rfl))<|WOL.cl1 rfl rfl ((c1167 (s:=s) (n:=n) H r (f.on X0)).mono ?_)
 rintro v h1 ⟨u1,u2,rfl,X1,r1⟩
 have Y1:=X0.trans X1
 refine WOL.cl1 rfl rfl ((c28 H X r1 (f.on Y1)).mono ?_)
 rintro v h2 ⟨b5,l5,k5,b6,l6,k6,rfl,X2,r2,_,_⟩
 have Y2:=Y1.trans X2
 have x12:=(X1.trans X2).next
 refine WOL.mv rfl<|WOL.ex rfl rfl<|WOL.ex rfl rfl<|WOL.al tp52 fun h3 N3=>WOL.sto (vs:=[.string s,zi n,.slice b5 l5 k5,.slice b6 l6 k6]) rfl rfl tp52 N3.at_ rfl rfl (Nat.le_of_ble_eq_true rfl) rfl (f.hx (Y2.trans N3.hx)) (by omega) fun h4 P4=>WOL.as rfl<|WOL.nil<|keep [(3,_),(4,_),(9,_),(30,_),(31,_)] ⟨rfl,rfl,rfl,rfl,rfl,trivial⟩ ?_
 have n3:=N3.next
 have p4:=P4.next
 have Z24:HX h2 h4:=P4.hx _ N3.hx (Nat.le_refl _)
 have Z4:=(X1.trans X2).trans Z24
 have Y4:=X0.trans Z4
 have A30:=P4.at_
 have r4:=r2.hx Z24
 replace A3:=A3.hx Z4;replace A9:=A9.hx Z4;replace o9:=o9.hx Z4
 refine WL.seq<|WL.sr<|WOL.mv rfl<|WOL.bf rfl rfl rfl rfl<|WOL.nil<|WL.no rfl<|WL.skip<|keep [(3,_),(9,_),(30,_)] ⟨rfl,rfl,rfl,trivial⟩ ?_
 have z4:=Z4.next
 refine WL.sr<|WOL.ld rfl (qab tp52 A30 rfl (Nat.le_of_ble_eq_true rfl))<|WOL.cl1 rfl rfl ((k1146c (s:=s) (n:=n) H X r4 (f.on Y4)).mono ?_)
 rintro v h5 ⟨X5,c,b,m,k,rfl,rt,_,_⟩
 have Y5:=Y4.trans X5
 have x5:=X5.next
 refine WOL.mv rfl<|WOL.ex rfl rfl<|WOL.ex rfl rfl<|WOL.al tp1117 fun h6 N6=>WOL.sto (vs:=[zi n,slA c C.reverse.length,.slice b m k]) rfl rfl tp1117 N6.at_ rfl rfl (Nat.le_of_ble_eq_true rfl) rfl (f.hx (Y5.trans N6.hx)) (by omega) fun h7 P7=>WOL.as rfl<|WOL.nil<|keep [(3,_),(9,_),(32,_),(33,_)] ⟨rfl,rfl,rfl,rfl,trivial⟩ ?_
 have n6:=N6.next
 have p7:=P7.next
 have Z57:HX h5 h7:=P7.hx _ N6.hx (Nat.le_refl _)
 have Z7:=X5.trans Z57
 have A32:=P7.at_
 have rt7:=rt.hx Z57
 replace A3:=A3.hx Z7;replace A9:=A9.hx Z7;replace o9:=o9.hx Z7
 refine WL.seq<|WL.sr<|WOL.mv rfl<|WOL.bf rfl rfl rfl rfl<|WOL.nil<|WL.no rfl<|WL.skip ?_
 rw [lvC_rev,hoC_rev] at rt7
 exact kto (k1110h H K (Y4.trans Z7) f A3 A9 o9 A32 rt7 hp hp' hq hq' t1 (by rw [ll];exact hM) h0M (by rw [ll];exact l1) lim) ⟨rfl,rfl,rfl,trivial⟩
def cd1110f:TCode:=.seq (.reg r1110_45) (.seq (.seq (.reg r1110_46) (.cond (.tmp 295) (.seq (.reg r1110_47) .ret) .skip)) (.seq (.reg r1110_48) (.seq (.seq (.reg r1110_49) (.cond (.tmp 309) (.seq (.reg r1110_50) .ret) .skip)) cd1110g)))
set_option maxHeartbeats 8000000 in
set_option maxRecDepth 10000 in
theorem k1110f (H:Has tp) (X:HasX tp) (K:Awk tp) (X0:HX h0 h) (f:Free0 h0.next h0) (A3:At h c3 (.cells [zi (p:Nat),zi (q:Nat)] true true 23)) (A4:At h c4 (.cells (runV s n v1 v2).cells.toList true true 88)) (r:RunC s n h v1 v2 C)
  (A9:At h c9 (.cells [zi (n+(p:Nat)),slA b9 M,.slice a9 m9 k9] true true 55)) (o9:TrcO m0 h b9 (.slice a9 m9 k9) (qcr (qbx (lvC C) (hoC C) (vTn p q) M)) (qah ((qbx (lvC C) (hoC C) (vTn p q) M).map fun c=>c.2)))
  (A24:At h c24 (.cells (runV s n w1 w2).cells.toList true true 92)) (rd:RunC s n h w1 w2 D)
  (lD:D.length=C.length) (hD:(D.map fun c=>c.2)=C.map fun c=>c.2) {g:Nat} {w:Nat→Int} (hg:g ∣ p) (hg':g ∣ q) (hl:∀ i,i < C.length→qam (hoC C) (i:Nat)=true→(lvC D).getD i 0=(lvC C).getD i 0+w (i % g)) (limD:∀ j,((lvC D).getD j 0).natAbs≤7000)
  (hp:1≤p) (hp':p≤6) (hq:1≤q) (hq':q≤6) (hM:M+(p+q)=C.length) (h0M:0 < M) (l1:C.length≤40) (lim:∀ j,((lvC C).getD j 0).natAbs≤6400) :
  ∀ a,Kn [(3,ptr c3),(4,ptr c4),(9,ptr c9),(24,ptr c24)] a→W Tryz.prog tp false cd1110f a h (Fin Tryz.prog [.tmp 6] fun v _=>v=.bool true):=by
 unfold cd1110f
 obtain ⟨b1,l1',k1,b2,l2',k2,rfl,rfl⟩:=rd.forms
 have x0:=X0.next
 have ll:=lvC_len (C:=D)
 have tD:=rd.trcE
 have eS:hoC D=hoC C:=by unfold hoC;rw [hD]
 have vw:=vers_wave (L':=lvC D) (L:=lvC C) (S:=hoC C) (m:=C.length) hg hg' hM hl
 refine WL.sr<|WOL.ld rfl (qab tp52 A24 rfl (Nat.le_of_ble_eq_true rfl))<|WOL.cl1 rfl rfl ((k1146c (s:=s) (n:=n) H X rd (f.on X0)).mono ?_)
 rintro v h1 ⟨X1,c,b,m,k,rfl,rt,_,_⟩
 have Y1:=X0.trans X1
 have x1:=X1.next
 refine WOL.mv rfl<|WOL.ex rfl rfl<|WOL.ex rfl rfl<|WOL.al tp1117 fun h2 N2=>WOL.sto (vs:=[zi n,slA c D.length,.slice b m k]) rfl rfl tp1117 N2.at_ rfl rfl (Nat.le_of_ble_eq_true rfl) rfl (f.hx (Y1.trans N2.hx)) (by omega) fun h3 P3=>WOL.as rfl<|WOL.nil<|keep [(3,_),(4,_),(9,_),(26,_),(27,_)] ⟨rfl,rfl,rfl,rfl,rfl,trivial⟩ ?_
 have n2:=N2.next
 have p3:=P3.next
 have Z13:HX h1 h3:=P3.hx _ N2.hx (Nat.le_refl _)
 have Z3:=X1.trans Z13
 have Y3:=X0.trans Z3
 have A26:=P3.at_
 have rt3:=rt.hx Z13
 replace A3:=A3.hx Z3;replace A4:=A4.hx Z3;replace A9:=A9.hx Z3;replace o9:=o9.hx Z3;replace r:=r.hx Z3
 refine WL.seq<|WL.sr<|WOL.mv rfl<|WOL.bf rfl rfl rfl rfl<|WOL.nil<|WL.no rfl<|WL.skip<|keep [(3,_),(4,_),(9,_),(26,_)] ⟨rfl,rfl,rfl,rfl,trivial⟩ ?_
 have z3:=Z3.next
 rw [eS] at rt3 tD
 have hS:=qbu (C.map fun c=>c.2)
 rw [List.length_map] at hS
 have hS':(hoC C).length≤900000:=by show (qah _).length≤_;omega
 have bD:=taps_small (L:=lvC D) (S:=hoC C) (M:=M) (B:=7000) (T:=vTn p q) (by decide) limD (vTn_w (by omega) (by omega)) (by show 3≤65;decide)
 -- measured
 refine WL.sr<|WOL.ld rfl (qab tp1112 A3 rfl (Nat.le_of_ble_eq_true rfl))<|WOL.ld rfl (qab tp1117 A26 rfl (Nat.le_of_ble_eq_true rfl))<|WOL.cl2 rfl rfl rfl ((k1125 (n:=n) (a:=(p:Int)) (b:=(q:Int)) H rt3 (by rw [ll];omega) hS' (f.on Y3)).mono ?_)
 rintro v h4 ⟨X4,R⟩
 have Y4:=Y3.trans X4
 have x4:=X4.next
 rw [Int.toNat_natCast,Int.toNat_natCast,ll,lD,show C.length - (p+q)=M by omega] at R
 obtain ⟨bx,b6,m6,k6,rfl,hx,to⟩:=R.ok (errV_in (by rw [chordE_in (by omega) (by omega) (by omega) (by omega),tD];rfl) (by omega)) bD
 clear R
 rw [vw.1,vw.2] at to
 rw [show (qbx (lvC D) (hoC C) (vTn p q) M).length=M from qbh]
 refine WOL.mv rfl<|WOL.ex rfl rfl<|WOL.ex rfl rfl<|WOL.al tp1117 fun h5 N5=>WOL.sto (vs:=[zi (n+(p:Nat)),slA bx M,.slice b6 m6 k6]) rfl rfl tp1117 N5.at_ rfl rfl (Nat.le_of_ble_eq_true rfl) rfl (f.hx (Y4.trans N5.hx)) (by omega) fun h6 P6=>WOL.as rfl<|WOL.nil<|keep [(3,_),(4,_),(9,_),(28,_),(29,_)] ⟨rfl,rfl,rfl,rfl,rfl,trivial⟩ ?_
 have n5:=N5.next
 have p6:=P6.next
 have Z6:HX h3 h6:=P6.hx _ (X4.trans N5.hx) (by omega)
 have Y6:=Y3.trans Z6
 have A28:=P6.at_
 have o28:TrcO h3.next h6 bx (.slice b6 m6 k6) _ _:=⟨P6.oth _ _ (by have:=to.v.lt;omega) (to.v.hx N5.hx),(to.s.hx N5.hx).keep fun z y hz a=>P6.oth _ _ (by have:=(to.s.lt hz).2;omega) a⟩
 clear to
 replace A3:=A3.hx Z6;replace A4:=A4.hx Z6;replace A9:=A9.hx Z6;replace o9:=o9.hx Z6;replace r:=r.hx Z6
 have lV:(qcr (qbx (lvC C) (hoC C) (vTn p q) M)).length=M:=by rw [qck,qbh]
 have hh9:=qbu ((qbx (lvC C) (hoC C) (vTn p q) M).map fun c=>c.2)
 rw [List.length_map,qbh] at hh9
 refine WL.seq<|WL.sr<|WOL.mv rfl<|WOL.bf rfl rfl rfl rfl<|WOL.mv rfl<|WOL.now (b:=false) rfl rfl<|WOL.ld rfl (qab tp1117 A28 rfl (Nat.le_of_ble_eq_true rfl))<|WOL.now (b:=false) rfl rfl<|WOL.ld rfl (qab tp1117 A9 rfl (Nat.le_of_ble_eq_true rfl))<|WOL.now (b:=false) rfl rfl<|WOL.cl2 rfl rfl rfl ((k1152 (n:=n+(p:Nat)) H (o28.ints lV.symm) (o9.ints lV.symm) (o28.s.sl Go.Tidy.eS) (o9.s.sl Go.Tidy.eS) (by omega) (by omega)).mono ?_)
 rintro v h7 ⟨rfl,X7⟩
 refine WOL.now (b:=false) rfl rfl<|WOL.nt rfl<|WOL.pkf rfl rfl<|WOL.nil<|WL.no rfl<|WL.skip ?_
 exact kto (k1110g H X K (Y6.trans X7) f (A3.hx X7) (A4.hx X7) (r.hx X7) (A9.hx X7) (o9.hx X7) hp hp' hq hq' hM h0M l1 lim) ⟨rfl,rfl,rfl,trivial⟩
def cd1110e:TCode:=.seq (.reg r1110_42) (.seq (.seq (.reg r1110_43) (.cond (.tmp 288) (.seq (.reg r1110_44) .ret) .skip)) cd1110f)
set_option maxHeartbeats 8000000 in
set_option maxRecDepth 10000 in
theorem k1110e (H:Has tp) (X:HasX tp) (K:Awk tp) (X0:HX h0 h) (f:Free0 h0.next h0) (A3:At h c3 (.cells [zi (p:Nat),zi (q:Nat)] true true 23)) (A4:At h c4 (.cells (runV s n v1 v2).cells.toList true true 88)) (r:RunC s n h v1 v2 C)
  (A9:At h c9 (.cells [zi (n+(p:Nat)),slA b9 M,.slice a9 m9 k9] true true 55)) (o9:TrcO m0 h b9 (.slice a9 m9 k9) (qcr (qbx (lvC C) (hoC C) (vTn p q) M)) (qah ((qbx (lvC C) (hoC C) (vTn p q) M).map fun c=>c.2)))
  (A22:At h c22 (.cells (runV wN n w1 w2).cells.toList true true 92)) (rw_:RunC wN n h w1 w2 Wv)
  (lW:Wv.length=C.length) (ok:allOk (sumC C Wv)=true) (hD:((sumC C Wv).map fun c=>c.2)=C.map fun c=>c.2) {g:Nat} {w:Nat→Int} (hg:g ∣ p) (hg':g ∣ q) (hl:∀ i,i < C.length→qam (hoC C) (i:Nat)=true→(lvC (sumC C Wv)).getD i 0=(lvC C).getD i 0+w (i % g)) (limD:∀ j,((lvC (sumC C Wv)).getD j 0).natAbs≤7000)
  (hp:1≤p) (hp':p≤6) (hq:1≤q) (hq':q≤6) (hM:M+(p+q)=C.length) (h0M:0 < M) (l1:C.length≤40) (lim:∀ j,((lvC C).getD j 0).natAbs≤6400) :
  ∀ a,Kn [(3,ptr c3),(4,ptr c4),(9,ptr c9),(22,ptr c22)] a→W Tryz.prog tp false cd1110e a h (Fin Tryz.prog [.tmp 6] fun v _=>v=.bool true):=by
 unfold cd1110e
 obtain ⟨b1,l1',k1,b2,l2',k2,rfl,rfl⟩:=r.forms
 obtain ⟨b3,l3,k3,b4,l4,k4,rfl,rfl⟩:=rw_.forms
 have x0:=X0.next
 have lc22:=A22.lt
 have lS:(sumC C Wv).length=C.length:=by unfold sumC;rw [List.length_zipWith];omega
 refine WL.sr<|WOL.ld rfl (qab tp46 A4 rfl (Nat.le_of_ble_eq_true rfl))<|WOL.ld rfl (qab tp52 A22 rfl (Nat.le_of_ble_eq_true rfl))<|WOL.al tp52 fun h1 N1=>?_
 have n1:=N1.next
 have Y1:=X0.trans N1.hx
 refine WOL.lq1 [h.next,c22] rfl rfl rfl fun ml hk=>((c1167 (s:=s) (n:=n) H ((r.hx N1.hx).relock ml) ((f.on Y1).held hk (fun b hb=>by simp at hb;omega))).mono ?_)
 rintro v h2 ⟨u1,u2,rfl,X2,r2⟩
 replace X2:=X2.relock
 replace r2:=r2.relock h1.lock
 generalize h2.withLock h1.lock=h2 at *
 have x2:=X2.next
 have Y2:=Y1.trans X2
 refine WOL.lq2 [h.next] rfl rfl rfl rfl fun ml hk=>((c50 H X (r2.relock ml) (((rw_.hx N1.hx).hx X2).relock ml) lW ok ((f.on Y2).held hk (fun b hb=>by simp at hb;omega))).mono ?_)
 rintro v h3 ⟨b5,l5,k5,b6,l6,k6,rfl,X3,r3,a1,a2⟩
 replace X3:=X3.relock
 replace r3:=r3.relock h2.lock
 replace a1:Above h2.next (.slice b5 l5 k5):=a1
 replace a2:Above h2.next (.slice b6 l6 k6):=a2
 generalize h3.withLock h2.lock=h3 at *
 have x3:=X3.next
 have Y3:=Y2.trans X3
 have T3:=(N1.hx.trans X2).trans X3
 have B24:=(N1.at_.hx X2).hx X3
 refine WOL.mv rfl<|WOL.ex rfl rfl<|WOL.ex rfl rfl<|WOL.sto (vs:=[.string s,zi n,.slice b5 l5 k5,.slice b6 l6 k6]) rfl rfl tp52 B24 rfl rfl (Nat.le_of_ble_eq_true rfl) rfl (f.hx Y3) (by omega) fun h4 P4=>WOL.as rfl<|WOL.nil<|keep [(3,_),(4,_),(9,_),(24,_),(25,_)] ⟨rfl,rfl,rfl,rfl,rfl,trivial⟩ ?_
 have p4:=P4.next
 have T4:HX h h4:=P4.hx _ T3 (by omega)
 have Y4:=X0.trans T4
 have A24:=P4.at_
 have r4:=r3.away a1 a2 P4 (by omega)
 replace A3:=A3.hx T4;replace A4:=A4.hx T4;replace A9:=A9.hx T4;replace o9:=o9.hx T4;replace r:=r.hx T4
 refine WL.seq<|WL.sr<|WOL.mv rfl<|WOL.bf rfl rfl rfl rfl<|WOL.nil<|WL.no rfl<|WL.skip ?_
 exact kto (k1110f H X K Y4 f A3 A4 r A9 o9 A24 r4 lS hD hg hg' hl limD hp hp' hq hq' hM h0M l1 lim) ⟨rfl,rfl,rfl,rfl,trivial⟩
end
end Go.Tidy
namespace Go.Tidy
section
variable {keep:Nat→Bool} {x:Nat→Int}
def celJ (keep:Nat→Bool) (x:Nat→Int) (p:Nat):Int × Bool:=if keep (p / 3) then (x p,true) else (0,false)
def rowJ (keep:Nat→Bool) (x:Nat→Int) (lo hi:Nat):List (Int × Bool):=(List.range' lo (hi - lo)).map (celJ keep x)
end
def keptJ (keep:Nat→Bool) (n:Nat):List Nat:=(List.range n).filter keep
end Go.Tidy
namespace Go.Tidy
open Go Go.Proofs Tab
variable {tp:TProg}
section
variable {src n:Nat} {kp:Nat→Bool} {x:Nat→Int}
end
abbrev rN:ByteArray:=⟨#[114]⟩
theorem Above.none {n0 m c:Nat}:Above n0 (.slice .none m c):=fun b off sp m c h=>by cases h
theorem Above.of {n0 b m c:Nat} (h:n0≤b):Above n0 (.slice (some ⟨b,0,.none⟩) m c):=fun b off sp m c e=>by cases e;exact h
def JRun (kp:Nat→Bool) (x:Nat→Int) (n j:Nat) (s:Int × Value × Value) (g:TH):Prop :=
 (j=0∧s=(0,.slice none 0 0,.slice none 0 0))∨∃ k c0 cl,j=k+1∧(keptJ kp n)[0]?=some c0∧(keptJ kp n)[k]?=some cl∧c0≤cl∧s.1=((3*c0:Nat):Int)∧RunC rN ((3*c0:Nat):Int) g s.2.1 s.2.2 (rowJ kp x (3*c0) (3*(cl+1)))
theorem JRun.hx {kp:Nat→Bool} {x:Nat→Int} {n j:Nat} {s:Int × Value × Value} {g g':TH} (q:JRun kp x n j s g) (X:HX g g'):JRun kp x n j s g':=by
 rcases q with q | ⟨k,c0,cl,q1,q2,q3,q4,q5,q6⟩
 ·exact .inl q
 ·exact .inr ⟨k,c0,cl,q1,q2,q3,q4,q5,q6.hx X⟩
section
variable {hB i7:TH} {n:Nat} {kp:Nat→Bool} {x:Nat→Int} {c7 c10 c0 cl c N:Nat} {p2 v1 v2 u1 u2 w17:Value} {j:Int}
end
end Go.Tidy
namespace Go.Tidy
open Go Go.Proofs Tab
variable {tp:TProg}
abbrev Tri:=Int × Int × Int
def encT (t:Tri):List Value:=[.int .i8 t.1,.int .i8 t.2.1,.int .i8 t.2.2]
theorem eT:Enc encT 3:=⟨fun _=>rfl,fun _=>rfl⟩
section
variable {kp:Nat→Bool} {x:Nat→Int} {n j:Nat}
end
section
variable {P:Program} {h:TH} {K:qan→TH→Prop} {rest:List TOper} {d:Option Tmp} {ty t u:TypeId} {i:Nat} {x y:Operand} {L:Rg}
theorem WOL.fdiv {k:FloatKind} {b c r:Nat} (hx:qbi L x=some (.float k b)) (hy:qbi L y=some (.float k c)) (hb:qcy k b=false) (hc:qcy k c=false) (hr:k.format.div b c=some r) (hn:qcy k r=false)
  (w:∀ a,Kn (qdh L d (.float k r)) a→WO P tp rest a h K):∀ a,Kn L a→WO P tp (⟨d,.binOp .quo t x y u,ty,none,[],i⟩::rest) a h K:=fun a k=>WO.fdiv (k.o hx) (k.o hy) hb hc hr hn (w _ (k.put d _))
end
end Go.Tidy
namespace Go.Tidy
open Go Go.Proofs Tab
variable {tp:TProg}
theorem tp91v:Tp Tryz.prog 67 1 [.int .i8 0] false:=tp_of (by kernel_rfl) (by kernel_rfl) rfl
theorem u91v:Tryz.prog.underlying 67=some (.int .i8):=by kernel_rfl
theorem ix1163v_0 {c:Nat}:qbl Tryz.prog 68 (.pointer (some ⟨c,0,none⟩)) (.int .i64 0)=some (.pointer (some ⟨c,0,none⟩)):=by kernel_rfl
theorem ix1163v_1 {c:Nat}:qbl Tryz.prog 68 (.pointer (some ⟨c,0,none⟩)) (.int .i64 1)=some (.pointer (some ⟨c,1,none⟩)):=by kernel_rfl
theorem ix1163v_2 {c:Nat}:qbl Tryz.prog 68 (.pointer (some ⟨c,0,none⟩)) (.int .i64 2)=some (.pointer (some ⟨c,2,none⟩)):=by kernel_rfl
theorem ix1163v_3 {c:Nat}:qbl Tryz.prog 68 (.pointer (some ⟨c,0,none⟩)) (.int .i64 3)=some (.pointer (some ⟨c,3,none⟩)):=by kernel_rfl
theorem ix1163v {c k:Nat} (h:k < 4):qbl Tryz.prog 68 (.pointer (some ⟨c,0,none⟩)) (.int .i64 ((k:Nat):Int))=some (.pointer (some ⟨c,k,none⟩)):=by
 obtain rfl | rfl | rfl | rfl:k=0∨k=1∨k=2∨k=3:=by omega
 ·exact ix1163v_0
 ·exact ix1163v_1
 ·exact ix1163v_2
 ·exact ix1163v_3
def wN:ByteArray:=⟨#[119]⟩
theorem bd52w {z:Int}:buildT Tryz.prog 92 [(0,.string wN),(1,zi z)]=some (.agg #[.string wN,zi z,.slice none 0 0,.slice none 0 0]):=by kernel_rfl
theorem nameW:nameB wN=true:=by decide
def wQ (x y z w:Int) (k:Nat):Int:=[x,y,z,w].getD k 0
def wavC (q:Nat→Int) (g m:Nat):List (Int × Bool):=(List.range m).map fun i=>(q ((i % g) % 4),true)
section
variable {q:Nat→Int} {g m i:Nat} {C:List (Int × Bool)} {n:Int}
theorem wavC_len:(wavC q g m).length=m:=by unfold wavC;rw [List.length_map,List.length_range]
theorem wavC_get (h:i < m):(wavC q g m)[i]?=some (q ((i % g) % 4),true):=by unfold wavC;rw [List.getElem?_map,List.getElem?_range h];rfl
theorem wavC_holes:qah ((wavC q g m).map fun c=>c.2)=[]:=by
 have:((wavC q g m).map fun c=>c.2)=List.replicate m true:=by
  refine List.eq_replicate_iff.2 ⟨by rw [List.length_map,wavC_len],fun b hb=>?_⟩
  obtain ⟨c,hc,rfl⟩:=List.mem_map.1 hb
  obtain ⟨i,_,rfl⟩:=List.mem_map.1 hc
  rfl
 rw [this,← known_nil]
 exact holes_back rfl
theorem wavC_mem {c:Int × Bool} (hc:c ∈ wavC q g m):∃ k,c=(q (k % 4),true):=by
 obtain ⟨i,_,rfl⟩:=List.mem_map.1 hc
 exact ⟨_,rfl⟩
theorem wavC_succ:(wavC q g (m+1)).map (fun c=>smp c.1)=(wavC q g m).map (fun c=>smp c.1) ++ [smp (q ((m % g) % 4))]:=by
 unfold wavC
 rw [List.range_succ,List.map_append,List.map_append];rfl
theorem sumW_get (h:i < C.length):(sumC C (wavC q g C.length)).getD i (0,false)=cond (C.getD i (0,false)).2 ((C.getD i (0,false)).1+q ((i % g) % 4),true) (0,false):=by
 have e:C[i]?=some (C.getD i (0,false)):=by rw [List.getD_eq_getElem?_getD,List.getElem?_eq_getElem h];rfl
 rw [List.getD_eq_getElem?_getD,sumC_get e (wavC_get h)]
 unfold sumCell
 rw [show ((C.getD i (0,false)).2 && ((q ((i % g) % 4),true):Int × Bool).2)=(C.getD i (0,false)).2 from Bool.and_true _];rfl
theorem sumW_len:(sumC C (wavC q g C.length)).length=C.length:=by unfold sumC;rw [List.length_zipWith,wavC_len];omega
theorem lvC_getD {C:List (Int × Bool)} {i:Nat}:(lvC C).getD i 0=(C.getD i (0,false)).1:=by
 rw [List.getD_eq_getElem?_getD,List.getD_eq_getElem?_getD,List.getElem?_map]
 cases C[i]? <;> rfl
theorem hoC_get {i:Nat} (h:i < C.length):qam (hoC C) (i:Nat)=(C.getD i (0,false)).2:=qeb h
theorem sumW_snd:((sumC C (wavC q g C.length)).map fun c=>c.2)=C.map fun c=>c.2:=by
 refine List.ext_getElem? fun i=>?_
 by_cases h:i < C.length
 ·have e:=sumW_get (q:=q) (g:=g) h
  rw [List.getD_eq_getElem?_getD,List.getElem?_eq_getElem (by rw [sumW_len];exact h)] at e
  rw [List.getElem?_map,List.getElem?_map,List.getElem?_eq_getElem (by rw [sumW_len];exact h),List.getElem?_eq_getElem h]
  show some _=some _
  congr 1
  replace e:(sumC C (wavC q g C.length))[i]'(by rw [sumW_len];exact h)=_:=e
  rw [e,List.getD_eq_getElem?_getD,List.getElem?_eq_getElem h]
  show (cond C[i].2 (C[i].1+_,true) (0,false)).2=C[i].2
  cases C[i].2 <;> rfl
 ·rw [List.getElem?_eq_none (by rw [List.length_map,sumW_len];omega),List.getElem?_eq_none (by rw [List.length_map];omega)]
theorem sumW_val (h:i < C.length) (hk:qam (hoC C) (i:Nat)=true):(lvC (sumC C (wavC q g C.length))).getD i 0=(lvC C).getD i 0+q ((i % g) % 4):=by
 rw [hoC_get h] at hk
 rw [lvC_getD,lvC_getD,sumW_get h,hk];rfl
theorem sumW_lim (hq:∀ k,(q k).natAbs≤128) (lim:∀ j,((lvC C).getD j 0).natAbs≤6400) (j:Nat):((lvC (sumC C (wavC q g C.length))).getD j 0).natAbs≤7000:=by
 rw [lvC_getD]
 by_cases h:j < C.length
 ·rw [sumW_get h]
  have a:=lim j
  rw [lvC_getD] at a
  have b:=hq ((j % g) % 4)
  cases (C.getD j (0,false)).2 with
  | false=>exact Nat.zero_le _
  | true=>show ((C.getD j (0,false)).1+q ((j % g) % 4)).natAbs≤7000;omega
 ·rw [List.getD_eq_getElem?_getD,List.getElem?_eq_none (by rw [sumW_len];omega)]
  exact Nat.zero_le _
theorem sumW_ok (hq:∀ k,(q k).natAbs≤128) (lim:∀ j,((lvC C).getD j 0).natAbs≤6400):allOk (sumC C (wavC q g C.length))=true:=by
 refine allOk_iff.2 fun c hc=>?_
 obtain ⟨i,hi,e⟩:=List.getElem_of_mem hc
 have:=sumW_lim (g:=g) hq lim i
 rw [lvC_getD,List.getD_eq_getElem?_getD,List.getElem?_eq_getElem hi,e] at this
 replace this:c.1.natAbs≤7000:=this
 omega
theorem wav_run {h:TH} {u:Value} (o:∃ n0,OwnL encF n0 h u 90 ((wavC q g m).map fun c=>smp c.1)) (hq:∀ k,(q k).natAbs≤128) (hm:m≤4096) (n0:0≤n) (n1:n+(m:Nat)≤100000000):RunC wN n h u (.slice none 0 0) (wavC q g m):=by
 obtain ⟨n0',o⟩:=o
 have hd:headE wN n (wavC q g m).length=0:=by
  unfold headE outB
  rw [nameW,wavC_len,decide_eq_false (by omega:¬ n < 0),decide_eq_false (by omega:¬ n > 100000000),decide_eq_false (by omega:¬ (m:Int) > 4096)];rfl
 obtain ⟨es,c⟩:=Cel.made hd (by rw [wavC_len];omega) (fun c hc=>by
  obtain ⟨k,rfl⟩:=wavC_mem hc
  have:=hq (k % 4)
  show (q (k % 4)).natAbs≤16384
  omega) (fun c hc hf=>by
  obtain ⟨k,rfl⟩:=wavC_mem hc
  cases hf)
 refine ⟨_,es,⟨o.sl eF,?_,?_⟩,c⟩
 ·rw [wavC_holes];exact SlL.nil
 ·rcases o with ⟨rfl,_⟩ | ⟨_,b,rfl,_,A⟩
  ·exact fun b off m cap e=>by cases e
  ·exact fun b off m cap e=>by cases e;exact ⟨_,_,_,_,A,.inr rfl⟩
end
section
variable {h h0:TH} {s:ByteArray} {n x y z w:Int} {p q M c3 c4 c5 c9 b9 m9 k9 m0:Nat} {v1 v2:Value} {C:List (Int × Bool)} {a9:Option Addr}
def cd1110d:TCode:=.seq (.reg r1110_35) (.seq (.reg r1110_36) (.seq (.seq (.reg r1110_37) (.block 6 (.loop (.seq (.reg r1110_38) (.seq (.cond (.tmp 264) .skip (.exit 6)) (.seq (.block 7 (.seq (.reg r1110_39) (.reg r1110_40))) (.reg r1110_41))))))) cd1110e))
set_option maxHeartbeats 8000000 in
set_option maxRecDepth 10000 in
theorem k1110d (H:Has tp) (X:HasX tp) (K:Awk tp) (X0:HX h0 h) (f:Free0 h0.next h0) (A3:At h c3 (.cells [zi (p:Nat),zi (q:Nat)] true true 23)) (A4:At h c4 (.cells (runV s n v1 v2).cells.toList true true 88)) (A5:At h c5 (.cells [.int .i8 x,.int .i8 y,.int .i8 z,.int .i8 w] true true 68)) (r:RunC s n h v1 v2 C)
  (A9:At h c9 (.cells [zi (n+(p:Nat)),slA b9 M,.slice a9 m9 k9] true true 55)) (o9:TrcO m0 h b9 (.slice a9 m9 k9) (qcr (qbx (lvC C) (hoC C) (vTn p q) M)) (qah ((qbx (lvC C) (hoC C) (vTn p q) M).map fun c=>c.2)))
  (hx:-128≤x∧x≤127) (hy:-128≤y∧y≤127) (hz:-128≤z∧z≤127) (hw:-128≤w∧w≤127)
  (hp:1≤p) (hp':p≤6) (hq:1≤q) (hq':q≤6) (hM:M+(p+q)=C.length) (h0M:0 < M) (l1:C.length≤40) (lim:∀ j,((lvC C).getD j 0).natAbs≤6400) :
  ∀ a,Kn [(3,ptr c3),(4,ptr c4),(5,ptr c5),(9,ptr c9)] a→W Tryz.prog tp false cd1110d a h (Fin Tryz.prog [.tmp 6] fun v _=>v=.bool true):=by
 unfold cd1110d
 obtain ⟨b1,l1',k1,b2,l2',k2,rfl,rfl⟩:=r.forms
 obtain ⟨⟨n0,_⟩,_,_,_,_,n1⟩:=trace_ok r.trcE
 rw [lvC_len] at n1
 have x0:=X0.next
 refine WL.sr<|WOL.fa rfl (qaf fo1112_0)<|WOL.ld rfl (qaa tp3 A3 rfl)<|WOL.fa rfl (qaf fo1112_1)<|WOL.ld rfl (qaa tp3 A3 rfl)<|WOL.cl2 rfl rfl rfl ((k79 H (m:=(p:Int)) (n:=q) (by omega) (by omega) (by omega) (by omega)).mono ?_)
 rintro v h4 ⟨rfl,e4⟩
 replace e4:=e4.symm
 subst e4
 rw [Int.natAbs_natCast]
 have g1:Nat.gcd p q ∣ p:=Nat.gcd_dvd_left p q
 have g2:Nat.gcd p q ∣ q:=Nat.gcd_dvd_right p q
 have g3:0 < Nat.gcd p q:=Nat.gcd_pos_of_pos_left q (by omega)
 generalize Nat.gcd p q=gg at *
 refine WOL.as rfl<|WOL.nil<|keep [(3,_),(4,_),(5,_),(9,_),(21,_)] ⟨rfl,rfl,rfl,rfl,rfl,trivial⟩ ?_
 -- the other run
 refine WL.sr<|WOL.fa rfl (qaf fo46_1)<|WOL.ld rfl (qaa tp3 A4 rfl)<|WOL.bd rfl bd52w<|WOL.al tp52 fun h1 N1=>WOL.sto (vs:=[.string wN,zi n,.slice none 0 0,.slice none 0 0]) rfl rfl tp52 N1.at_ rfl rfl (Nat.le_of_ble_eq_true rfl) rfl (f.hx (X0.trans N1.hx)) (by omega) fun h2 P2=>WOL.nil<|keep [(3,_),(4,_),(5,_),(9,_),(21,_),(22,_)] ⟨rfl,rfl,rfl,rfl,rfl,rfl,trivial⟩ ?_
 have n1':=N1.next
 have p2:=P2.next
 have Z2:HX h h2:=P2.hx _ N1.hx (Nat.le_refl _)
 have A22:=P2.at_
 obtain ⟨F,lF,sF⟩:∃ F:List Nat,F.length=C.length∧SlL encF 1 h2 (.slice b1 l1' k1) F:=by
  obtain ⟨F,es,rr,q⟩:=r.hx Z2
  exact ⟨F,q.len,rr.f⟩
 obtain ⟨bo,cap,ev⟩:=sF.form
 cases ev
 have hQ:∀ k,(wQ x y z w k).natAbs≤128:=fun k=>by
  unfold wQ
  match k with
  | 0=>show x.natAbs≤128;omega
  | 1=>show y.natAbs≤128;omega
  | 2=>show z.natAbs≤128;omega
  | 3=>show w.natAbs≤128;omega
  | k+4=>exact Nat.zero_le _
 refine WL.seq<|WL.sr<|WOL.fa rfl (qaf fo46_2)<|WOL.ld rfl (qaa tp43 (A4.hx Z2) rfl)<|WOL.len rfl sF u43 ?_
 rw [lF]
 refine WOL.mv rfl<|WOL.nil<|keep [(3,_),(4,_),(5,_),(9,_),(21,_),(22,_),(262,_),(263,_)] ⟨rfl,rfl,rfl,rfl,rfl,rfl,rfl,rfl,trivial⟩ ?_
 refine WL.upto (α:=Value) C.length (fun j u g=>HX h g∧h2.next≤g.next∧At g h.next (.cells [.string wN,zi n,u,.slice none 0 0] true true 92)∧OwnL encF h2.next g u 90 ((wavC (wQ x y z w) gg j).map fun c=>smp c.1)) (fun _ _=>[(3,ptr c3),(4,ptr c4),(5,ptr c5),(9,ptr c9),(21,zi (gg:Nat)),(22,ptr h.next),(262,zi (C.length:Nat))]) (.slice none 0 0) rfl rfl (by omega) ⟨Z2,Nat.le_refl _,A22,.inl ⟨rfl,rfl⟩⟩ ⟨rfl,rfl,rfl,rfl,rfl,rfl,rfl,rfl,trivial⟩ (fun _ _=>rfl) (fun _ _ _=>⟨rfl,rfl,rfl,rfl,rfl,rfl,rfl,rfl,trivial⟩) (fun _ _ _=>⟨rfl,rfl,rfl,rfl,rfl,rfl,rfl,rfl,trivial⟩) ?_ ?_
 ·rintro j u g hj ⟨G,gn,D22,O⟩
  obtain ⟨zu,eu⟩:=OwnF.form (Or.inl O)
  have D5:=A5.hx G
  have k4:j % gg % 4 < 4:=Nat.mod_lt _ (by decide)
  have em:((j:Nat):Int) % ((gg:Nat):Int)=((j % gg:Nat):Int):=(Int.natCast_emod j gg).symm
  have em2:((j % gg:Nat):Int) % 4=((j % gg % 4:Nat):Int):=(Int.natCast_emod (j % gg) 4).symm
  have bq:=hQ (j % gg % 4)
  obtain ⟨da,na,sa⟩:=smp_ok (n:=wQ x y z w (j % gg % 4)) (by omega)
  have cq:([.int .i8 x,.int .i8 y,.int .i8 z,.int .i8 w]:List Value)[j % gg % 4]?=some (.int .i8 (wQ x y z w (j % gg % 4))):=by
   generalize j % gg % 4=k at k4
   obtain rfl | rfl | rfl | rfl:k=0∨k=1∨k=2∨k=3:=by omega
   all_goals rfl
  have ws:=wavC_succ (q:=wQ x y z w) (g:=gg) (m:=j)
  refine WL.sr<|WOL.mv rfl<|WOL.as rfl<|WOL.nil<|keep [(3,_),(4,_),(5,_),(9,_),(21,_),(22,_),(23,_),(262,_),(263,_)] ⟨rfl,rfl,rfl,rfl,rfl,rfl,rfl,rfl,rfl,trivial⟩ ?_
  refine WL.reg<|WOL.fa rfl (qaf fo52_2)<|WOL.ld rfl (qaa tp43 D22 rfl)<|WOL.mv rfl<|WOL.mv rfl<|WOL.rem (m:=(j:Int)) (n:=((gg:Nat):Int)) rfl rfl (by omega) (by omega) ?_
  rw [em]
  refine WOL.rem (m:=((j % gg:Nat):Int)) (n:=4) rfl rfl (by omega) (by decide) ?_
  rw [em2]
  refine WOL.ix rfl rfl (ix1163v k4)<|WOL.ld rfl (qaa tp91v D5 cq)<|WOL.cvP rfl rfl (conv_i2f u91v u25) (qap na)<|WOL.fdiv rfl rfl na (by decide) da sa.nan<|WOL.bs1 rfl u43 tp25 rfl fun i1 M1=>?_
  have m1:=M1.next
  have wl:((wavC (wQ x y z w) gg j).map fun c=>smp c.1).length=j:=by rw [List.length_map,wavC_len]
  obtain ⟨u',i2,ap,O',x2',o2,_,n2'⟩:=own_push (sT:=86) (x:=smp (wQ x y z w (j % gg % 4))) eF u43 tp25 (O.hx M1.hx) (SlC.own (sz:=1) (m:=1) rfl M1.at_) ((f.hx ((X0.trans G).trans M1.hx)).up (by omega)) (by rw [wl];omega) (by omega)
  rw [← ws] at O'
  obtain ⟨zu',eu'⟩:=OwnF.form (Or.inl O')
  have G2:HX h i2:=x2' _ (G.trans M1.hx) (by omega)
  have E22:=o2 h.next _ (fun c=>by have:=(O.lt c).1;omega) (D22.hx M1.hx)
  refine WOL.ap rfl rfl ap<|WOL.fa rfl (qaf fo52_2)<|WOL.sto (vs:=[u']) rfl rfl tp43 E22 (by rw [eu'];rfl) rfl (Nat.le_of_ble_eq_true rfl) (by rw [eu'];rfl) (f.hx (X0.trans G2)) (by omega) fun i3 P3=>WOL.nil fun a k=>⟨u',⟨P3.hx _ G2 (by omega),by have:=P3.next;omega,P3.at_,O'.keep fun b z hb az=>P3.oth _ _ (by have:=(O'.lt hb).1;omega) az⟩,k.sub ⟨rfl,rfl,rfl,rfl,rfl,rfl,rfl,rfl,trivial⟩⟩
 ·rintro u g ⟨G,gn,D22,O⟩
  have rw_:=wav_run (m:=C.length) (n:=n) ⟨_,O⟩ hQ (by omega) n0 n1
  obtain ⟨zu,eu⟩:=OwnF.form (Or.inl O)
  subst eu
  exact kto (k1110e (w:=fun k=>wQ x y z w (k % 4)) H X K (X0.trans G) f (A3.hx G) (A4.hx G) (r.hx G) (A9.hx G) (o9.hx G) D22 rw_ wavC_len (sumW_ok hQ lim) sumW_snd g1 g2 (fun i hi hk=>sumW_val hi hk) (sumW_lim hQ lim) hp hp' hq hq' hM h0M l1 lim) ⟨rfl,rfl,rfl,rfl,trivial⟩
end
end Go.Tidy
namespace Go.Tidy
open Go Go.Proofs Tab
variable {tp:TProg}
abbrev knC (C:List (Int × Bool)) (p q:Nat):Nat→Bool:=knG (fun i=>tapK (hoC C) i (vTn p q)) p q
section
variable {h h0:TH} {s:ByteArray} {n x y z w:Int} {p q M c3 c4 c5 c7 c9 c15 b7 m7 k7 b9 m9 k9 m0 b15 m15 k15 m6:Nat} {v1 v2 v13:Value} {C:List (Int × Bool)} {a7 a9 a15:Option Addr}
def cd1110j:TCode:=.seq (.reg r1110_32) (.seq (.seq (.reg r1110_33) (.cond (.tmp 251) (.seq (.reg r1110_34) .ret) .skip)) cd1110d)
set_option maxHeartbeats 8000000 in
set_option maxRecDepth 10000 in
theorem k1110j (H:Has tp) (X:HasX tp) (K:Awk tp) (X0:HX h0 h) (f:Free0 h0.next h0) (A3:At h c3 (.cells [zi (p:Nat),zi (q:Nat)] true true 23)) (A4:At h c4 (.cells (runV s n v1 v2).cells.toList true true 88)) (A5:At h c5 (.cells [.int .i8 x,.int .i8 y,.int .i8 z,.int .i8 w] true true 68)) (r:RunC s n h v1 v2 C)
  (A9:At h c9 (.cells [zi (n+(p:Nat)),slA b9 M,.slice a9 m9 k9] true true 55)) (o9:TrcO m0 h b9 (.slice a9 m9 k9) (qcr (qbx (lvC C) (hoC C) (vTn p q) M)) (qah ((qbx (lvC C) (hoC C) (vTn p q) M).map fun c=>c.2)))
  (A15:At h c15 (.cells [zi n,slA b15 C.length,.slice a15 m15 k15] true true 55)) (o15:TrcO m6 h b15 (.slice a15 m15 k15) (qcr (grpK (lvC C) (knC C p q) C.length)) (qah ((grpK (lvC C) (knC C p q) C.length).map fun c=>c.2)))
  (hx:-128≤x∧x≤127) (hy:-128≤y∧y≤127) (hz:-128≤z∧z≤127) (hw:-128≤w∧w≤127)
  (hp:1≤p) (hp':p≤6) (hq:1≤q) (hq':q≤6) (hM:M+(p+q)=C.length) (h0M:0 < M) (l1:C.length≤40) (lim:∀ j,((lvC C).getD j 0).natAbs≤6400) (t9:qbk (n+(p:Nat)) (qcr (qbx (lvC C) (hoC C) (vTn p q) M)) (qah ((qbx (lvC C) (hoC C) (vTn p q) M).map fun c=>c.2))=0) (tD:qbk n (qcr (grpK (lvC C) (knC C p q) C.length)) (qah ((grpK (lvC C) (knC C p q) C.length).map fun c=>c.2))=0) :
  ∀ a,Kn [(3,ptr c3),(4,ptr c4),(5,ptr c5),(9,ptr c9),(15,ptr c15)] a→W Tryz.prog tp false cd1110j a h (Fin Tryz.prog [.tmp 6] fun v _=>v=.bool true):=by
 unfold cd1110j
 have x0:=X0.next
 have lc3:=A3.lt
 have lc9:=A9.lt
 have ll:=lvC_len (C:=C)
 have lV:(qcr (qbx (lvC C) (hoC C) (vTn p q) M)).length=M:=by rw [qck,qbh]
 have lD:(qcr (grpK (lvC C) (knC C p q) C.length)).length=C.length:=by rw [qck,grpK_len]
 have hh9:=qbu ((qbx (lvC C) (hoC C) (vTn p q) M).map fun c=>c.2)
 rw [List.length_map,qbh] at hh9
 have hh15:=qbu ((grpK (lvC C) (knC C p q) C.length).map fun c=>c.2)
 rw [List.length_map,grpK_len] at hh15
 have bG:=taps_small (L:=qcr (grpK (lvC C) (knC C p q) C.length)) (S:=qah ((grpK (lvC C) (knC C p q) C.length).map fun c=>c.2)) (M:=M) (B:=6400) (T:=vTn p q) (by decide) (grpK_lim lim) (vTn_w (by omega) (by omega)) (by show 3≤65;decide)
 have ag:=agn_grp (S:=hoC C) (n:=n) (kn:=knC C p q) (L:=lvC C) (M:=M) hp (by omega) hq (by omega) (by rw [ll];exact hM) h0M (by rw [ll];exact tD) t9 (by rw [ll];exact bG)
 rw [ll] at ag
 have r9:=o9.trc
 rw [lV] at r9
 have r15:=o15.trc
 rw [lD] at r15
 refine WL.sr<|WOL.ld rfl (qab tp1112 A3 rfl (Nat.le_of_ble_eq_true rfl))<|WOL.ld rfl (qab tp1117 A15 rfl (Nat.le_of_ble_eq_true rfl))<|WOL.ld rfl (qab tp1117 A9 rfl (Nat.le_of_ble_eq_true rfl)) ?_
 refine WOL.lq1 [c9,c3] rfl rfl rfl fun ml hk=>((k1168 (n:=n) H (r15.relock ml) (by omega) (by omega) ((f.on X0).held hk (fun b hb=>by simp at hb;omega))).mono ?_)
 rintro v g1 ⟨G1,u5,u6,rfl,ru5,_,_⟩
 replace G1:=G1.relock
 replace ru5:=ru5.relock h.lock
 generalize g1.withLock h.lock=g1 at *
 have y1:=G1.next
 have U1:=X0.trans G1
 refine WOL.lq1 [c3] rfl rfl rfl fun ml hk=>((k1168 (n:=n+(p:Nat)) H ((r9.hx G1).relock ml) (by omega) (by omega) ((f.on U1).held hk (fun b hb=>by simp at hb;omega))).mono ?_)
 rintro v g2 ⟨G2,u7,u8,rfl,ru7,_,_⟩
 replace G2:=G2.relock
 replace ru7:=ru7.relock g1.lock
 generalize g2.withLock g1.lock=g2 at *
 have y2:=G2.next
 have U2:=U1.trans G2
 refine WOL.cl3 rfl rfl rfl rfl ((k1137 (n:=n) (n':=n+(p:Nat)) (a:=(p:Int)) (b:=(q:Int)) H (ru5.hx G2) ru7 (by omega) (by omega) (by omega) (by omega) (f.on U2)).mono ?_)
 rintro v g3 ⟨rfl,G3⟩
 rw [ag]
 have V3:=(G1.trans G2).trans G3
 replace A3:=A3.hx V3;replace A4:=A4.hx V3;replace A5:=A5.hx V3;replace A9:=A9.hx V3;replace o9:=o9.hx V3;replace r:=r.hx V3
 refine WOL.mv rfl<|WOL.ex rfl rfl<|WOL.ex rfl rfl<|WOL.as rfl<|WOL.as rfl<|WOL.nil<|keep [(3,_),(4,_),(5,_),(9,_),(19,_),(20,_)] ⟨rfl,rfl,rfl,rfl,rfl,rfl,trivial⟩ ?_
 refine WL.seq<|WL.sr<|WOL.mv rfl<|WOL.bf rfl rfl rfl rfl<|WOL.mv rfl<|WOL.now (b:=false) rfl rfl<|WOL.mv rfl<|WOL.now (b:=false) rfl rfl<|WOL.nt rfl<|WOL.pkf rfl rfl<|WOL.nil<|WL.no rfl<|WL.skip ?_
 exact kto (k1110d H X K (X0.trans V3) f A3 A4 A5 r A9 o9 hx hy hz hw hp hp' hq hq' hM h0M l1 lim) ⟨rfl,rfl,rfl,rfl,trivial⟩
def cd1110c:TCode:=.seq (.reg r1110_23) (.seq (.seq (.reg r1110_24) (.cond (.tmp 209) (.seq (.reg r1110_25) .ret) .skip)) (.seq (.seq (.reg r1110_26) (.block 4 (.loop (.seq (.reg r1110_27) (.seq (.cond (.tmp 214) .skip (.exit 4)) (.seq (.block 5 (.seq (.reg r1110_28) (.seq (.reg r1110_29) (.cond (.tmp 235) (.seq (.reg r1110_30) .ret) .skip)))) (.reg r1110_31))))))) cd1110j))
set_option maxHeartbeats 8000000 in
set_option maxRecDepth 10000 in
theorem k1110c (H:Has tp) (X:HasX tp) (K:Awk tp) (X0:HX h0 h) (f:Free0 h0.next h0) (A3:At h c3 (.cells [zi (p:Nat),zi (q:Nat)] true true 23)) (A4:At h c4 (.cells (runV s n v1 v2).cells.toList true true 88)) (A5:At h c5 (.cells [.int .i8 x,.int .i8 y,.int .i8 z,.int .i8 w] true true 68)) (r:RunC s n h v1 v2 C)
  (A7:At h c7 (.cells [zi n,slA b7 C.length,.slice a7 m7 k7] true true 55)) (r7:TrcH h (slA b7 C.length) (.slice a7 m7 k7) (lvC C) (hoC C)) (s13:SlL encI 1 h v13 ((lvC C).take (p+q)))
  (A9:At h c9 (.cells [zi (n+(p:Nat)),slA b9 M,.slice a9 m9 k9] true true 55)) (o9:TrcO m0 h b9 (.slice a9 m9 k9) (qcr (qbx (lvC C) (hoC C) (vTn p q) M)) (qah ((qbx (lvC C) (hoC C) (vTn p q) M).map fun c=>c.2)))
  (hk:∀ i,i < p+q→qam (hoC C) (i:Nat)=true)
  (hx:-128≤x∧x≤127) (hy:-128≤y∧y≤127) (hz:-128≤z∧z≤127) (hw:-128≤w∧w≤127)
  (hp:1≤p) (hp':p≤6) (hq:1≤q) (hq':q≤6) (hM:M+(p+q)=C.length) (h0M:0 < M) (l1:C.length≤40) (lim:∀ j,((lvC C).getD j 0).natAbs≤6400) (t9:qbk (n+(p:Nat)) (qcr (qbx (lvC C) (hoC C) (vTn p q) M)) (qah ((qbx (lvC C) (hoC C) (vTn p q) M).map fun c=>c.2))=0) :
  ∀ a,Kn [(3,ptr c3),(4,ptr c4),(5,ptr c5),(7,ptr c7),(9,ptr c9),(13,v13)] a→W Tryz.prog tp false cd1110c a h (Fin Tryz.prog [.tmp 6] fun v _=>v=.bool true):=by
 unfold cd1110c
 obtain ⟨b1,l1',k1,b2,l2',k2,rfl,rfl⟩:=r.forms
 obtain ⟨⟨n0,_⟩,_,_,_,_,n1⟩:=trace_ok r.trcE
 obtain ⟨bo,cap,e13,_⟩:=id s13
 subst e13
 have x0:=X0.next
 have lc3:=A3.lt
 have ll:=lvC_len (C:=C)
 rw [ll] at n1
 have lV:(qcr (qbx (lvC C) (hoC C) (vTn p q) M)).length=M:=by rw [qck,qbh]
 have hh9:=qbu ((qbx (lvC C) (hoC C) (vTn p q) M).map fun c=>c.2)
 rw [List.length_map,qbh] at hh9
 have hS:=qbu (C.map fun c=>c.2)
 rw [List.length_map] at hS
 have hS':(hoC C).length≤900000:=by show (qah _).length≤_;omega
 have r9:=o9.trc
 rw [lV] at r9
 have lT:((lvC C).take (p+q)).length=p+q:=by rw [List.length_take,ll];omega
 have lim':∀ j,-20000≤(lvC C).getD j 0∧(lvC C).getD j 0≤20000:=fun j=>by have:=lim j;omega
 have big:∀ i,qcd ((lvC C).getD i 0)=false:=fun i=>small_big (lim' i)
 have rh:=resJ_hole (S:=hoC C) hp hq big (by rw [ll];exact hM) M (Nat.le_refl _)
 rw [show p+q+M=C.length by omega] at rh
 replace rh:_=((0:Int),grpK (lvC C) (knC C p q) C.length):=rh
 -- restored
 refine WL.sr<|WOL.ld rfl (qab tp1112 A3 rfl (Nat.le_of_ble_eq_true rfl))<|WOL.ld rfl (qab tp1117 A9 rfl (Nat.le_of_ble_eq_true rfl))<|WOL.bs0 u29 tp3 (by decide) (by decide) fun h1 N1=>WOL.mv rfl<|WOL.al tp1117 fun h2 N2=>?_
 have n1':=N1.next
 have n2':=N2.next
 have X2:=N1.hx.trans N2.hx
 have Y2:=X0.trans X2
 refine WOL.lq1 [h1.next,h.next,c3] rfl rfl rfl fun ml hl=>((k1168 (n:=n+(p:Nat)) H ((r9.hx X2).relock ml) (by omega) (by omega) ((f.on Y2).held hl (fun b hb=>by simp at hb;omega))).mono ?_)
 rintro v h3 ⟨X3,u5,u6,rfl,ru5,_,_⟩
 replace X3:=X3.relock
 replace ru5:=ru5.relock h2.lock
 generalize h3.withLock h2.lock=h3 at *
 have x3:=X3.next
 have Y3:=Y2.trans X3
 refine WOL.apO rfl rfl u29 tp3 ((N1.at_.hx N2.hx).hx X3) ((s13.hx X2).hx X3) (by omega) (eI.all _) fun h4 b4 X4 hb4 s4=>?_
 have x4:=X4.next
 have Y4:=Y3.trans X4
 refine WOL.lq3 [h1.next] rfl rfl rfl rfl rfl fun ml hl=>((k1135 (n:=n+(p:Nat)) (a:=(p:Int)) (b:=(q:Int)) (X:=(lvC C).take (p+q)) H ((ru5.hx X4).relock ml) ((show SlL encI 1 h4 _ ((lvC C).take (p+q)) from s4).relock ml) (by omega) (by omega) (by omega) ((f.on Y4).held hl (fun b hb=>by simp at hb;omega))).mono ?_)
 rintro v h5 ⟨X5,R⟩
 replace X5:=X5.relock
 rw [res_tot hp (by omega) hq (by omega) t9 (endE_take (by rw [ll];omega) lim') (by omega) (by omega) (by omega),Int.toNat_natCast,Int.toNat_natCast,lV,rh,show n+((p:Nat):Int) - (p:Int)=n by omega] at R
 obtain ⟨bx,b8,m8,k8,rfl,hxb,to⟩:=R.ok rfl (grpK_big big)
 clear R
 replace to:TrcO h4.next (h5.withLock h4.lock) bx (.slice b8 m8 k8) (qcr (grpK (lvC C) (knC C p q) C.length)) (qah ((grpK (lvC C) (knC C p q) C.length).map fun c=>c.2)):=to.relock h4.lock
 replace hxb:h4.next≤bx:=hxb
 generalize h5.withLock h4.lock=h5 at *
 have x5:=X5.next
 have Y5:=Y4.trans X5
 have T5:=((X2.trans X3).trans X4).trans X5
 have B15:=((N2.at_.hx X3).hx X4).hx X5
 rw [show (grpK (lvC C) (knC C p q) C.length).length=C.length from grpK_len]
 refine WOL.mv rfl<|WOL.ex rfl rfl<|WOL.ex rfl rfl<|WOL.sto (vs:=[zi n,slA bx C.length,.slice b8 m8 k8]) rfl rfl tp1117 B15 rfl rfl (Nat.le_of_ble_eq_true rfl) rfl (f.hx Y5) (by omega) fun h6 P6=>WOL.as rfl<|WOL.nil<|keep [(3,_),(4,_),(5,_),(7,_),(9,_),(15,_),(16,_)] ⟨rfl,rfl,rfl,rfl,rfl,rfl,rfl,trivial⟩ ?_
 have p6:=P6.next
 have T6:HX h h6:=P6.hx _ T5 (by omega)
 have Y6:=X0.trans T6
 replace B15:=P6.at_
 have o15:=to.put P6 (by omega) (by omega)
 clear to
 replace A3:=A3.hx T6;replace A4:=A4.hx T6;replace A5:=A5.hx T6;replace A7:=A7.hx T6;replace r7:=r7.hx T6;replace A9:=A9.hx T6;replace o9:=o9.hx T6;replace r:=r.hx T6
 have lD:(qcr (grpK (lvC C) (knC C p q) C.length)).length=C.length:=by rw [qck,grpK_len]
 have r15:=o15.trc
 rw [lD] at r15
 have hh15:=qbu ((grpK (lvC C) (knC C p q) C.length).map fun c=>c.2)
 rw [List.length_map,grpK_len] at hh15
 have tD:=traceE_made (n:=n) (C:=grpK (lvC C) (knC C p q) C.length) (grpK_big big) (by omega) (by rw [grpK_len];omega) (by rw [grpK_len];omega)
 -- in order
 refine WL.seq<|WL.sr<|WOL.mv rfl<|WOL.bf rfl rfl rfl rfl<|WOL.mv rfl<|WOL.now (b:=false) rfl rfl<|WOL.ld rfl (qab tp1117 B15 rfl (Nat.le_of_ble_eq_true rfl))<|WOL.now (b:=false) rfl rfl<|WOL.cl1 rfl rfl ((k1117w (n:=n) H r15 (f.on Y6)).mono ?_)
 rintro v h7 ⟨rfl,X7⟩
 have Y7:=Y6.trans X7
 replace A3:=A3.hx X7;replace A4:=A4.hx X7;replace A5:=A5.hx X7;replace A7:=A7.hx X7;replace r7:=r7.hx X7;replace A9:=A9.hx X7;replace o9:=o9.hx X7;replace r:=r.hx X7;replace B15:=B15.hx X7;replace o15:=o15.hx X7;replace r15:=r15.hx X7
 refine WOL.now (b:=false) rfl rfl<|WOL.bf rfl rfl rfl (bne_eq_false_iff_eq.2 tD)<|WOL.pkf rfl rfl<|WOL.mv rfl<|WOL.now (b:=false) rfl rfl<|WOL.fa rfl (qaf qcf)<|WOL.now (b:=false) rfl rfl<|WOL.ld rfl (qaa tp3 B15 rfl)<|WOL.now (b:=false) rfl rfl<|WOL.fa rfl (qaf qcf)<|WOL.now (b:=false) rfl rfl<|WOL.ld rfl (qaa tp3 A7 rfl)<|WOL.now (b:=false) rfl rfl<|WOL.bf rfl rfl rfl (bne_self_eq_false _)<|WOL.pkf rfl rfl<|WOL.mv rfl<|WOL.now (b:=false) rfl rfl<|WOL.fa rfl (qaf qau)<|WOL.now (b:=false) rfl rfl<|WOL.ld rfl (qaa tp29 B15 rfl)<|WOL.now (b:=false) rfl rfl<|WOL.len rfl r15.l u29<|WOL.now (b:=false) rfl rfl<|WOL.fa rfl (qaf qau)<|WOL.now (b:=false) rfl rfl<|WOL.ld rfl (qaa tp29 A7 rfl)<|WOL.now (b:=false) rfl rfl<|WOL.len rfl r7.l u29<|WOL.now (b:=false) rfl rfl<|WOL.bf rfl rfl rfl (bne_eq_false_iff_eq.2 (by rw [lD,ll]))<|WOL.pkf rfl rfl<|WOL.nil<|WL.no rfl<|WL.skip<|keep [(3,_),(4,_),(5,_),(7,_),(9,_),(15,_)] ⟨rfl,rfl,rfl,rfl,rfl,rfl,trivial⟩ ?_
 -- where it is known,it is the run's
 refine WL.seq<|WL.sr<|WOL.fa rfl (qaf qau)<|WOL.ld rfl (qaa tp29 B15 rfl)<|WOL.len rfl r15.l u29 ?_
 rw [lD]
 refine WOL.mv rfl<|WOL.nil<|keep [(3,_),(4,_),(5,_),(7,_),(9,_),(15,_),(211,_),(212,_),(213,_)] ⟨rfl,rfl,rfl,rfl,rfl,rfl,rfl,rfl,rfl,trivial⟩ ?_
 have kd:=fun i (hi:i < C.length)=>grpK_known (L:=lvC C) (kn:=knC C p q) hi
 have kv:=fun i (hi:i < C.length)=>grpK_val (L:=lvC C) (kn:=knC C p q) (i:=i) hi
 have kk:∀ i,knC C p q i=true→qam (hoC C) (i:Nat)=true:=fun i=>knG_known (i:=i) (S:=hoC C) hp hq hk
 refine WL.upto (α:=Unit) C.length (fun _ _ g=>HX h7 g) (fun _ _=>[(3,ptr c3),(4,ptr c4),(5,ptr c5),(7,ptr c7),(9,ptr c9),(15,ptr h1.next),(211,slA bx C.length),(212,zi (C.length:Nat))]) () rfl rfl (by omega) (HX.refl _) ⟨rfl,rfl,rfl,rfl,rfl,rfl,rfl,rfl,rfl,trivial⟩ (fun _ _=>rfl) (fun _ _ _=>⟨rfl,rfl,rfl,rfl,rfl,rfl,rfl,rfl,rfl,trivial⟩) (fun _ _ _=>⟨rfl,rfl,rfl,rfl,rfl,rfl,rfl,rfl,rfl,trivial⟩) ?_ ?_
 ·rintro j _ g hj G
  have ya:(qcr (grpK (lvC C) (knC C p q) C.length))[j]?=some ((qcr (grpK (lvC C) (knC C p q) C.length)).getD j 0):=by rw [List.getD_eq_getElem?_getD,List.getElem?_eq_getElem (by omega)];rfl
  have yb:(lvC C)[j]?=some ((lvC C).getD j 0):=by rw [List.getD_eq_getElem?_getD,List.getElem?_eq_getElem (by omega)];rfl
  obtain ⟨_,_,ca,fa,wa,ela,g1a,g2a,g3a,g4a,g5a⟩:=(r15.hx G).l.at eI u29 tp3 ya .i64
  have gxa:=g5a 0 (by decide)
  rw [Nat.add_zero] at gxa
  refine WL.sr<|WOL.mv rfl<|WOL.ix rfl rfl g1a<|WOL.ld rfl (qaa tp3 g2a gxa)<|WOL.as rfl<|WOL.as rfl<|WOL.nil<|keep [(3,_),(4,_),(5,_),(7,_),(9,_),(15,_),(17,_),(18,_),(211,_),(212,_),(213,_)] ⟨rfl,rfl,rfl,rfl,rfl,rfl,rfl,rfl,rfl,rfl,rfl,trivial⟩ ?_
  refine WL.sr<|WOL.ld rfl (qab tp1117 (B15.hx G) rfl (Nat.le_of_ble_eq_true rfl))<|WOL.mv rfl<|WOL.cl2 rfl rfl rfl ((k1154 H (r15.hx G).s (by omega)).mono ?_)
  rintro v g1 ⟨rfl,G1⟩
  rw [kd j hj]
  have kvj:=kv j hj
  have kkj:=kk j
  generalize knC C p q j=kb at *
  have Z1:=G.trans G1
  cases kb with
  | false =>
   exact WOL.mv rfl<|WOL.skp (b:=false) rfl rfl<|WOL.skp (b:=false) rfl rfl<|WOL.skp (b:=false) rfl rfl<|WOL.skp (b:=false) rfl rfl<|WOL.skp (b:=false) rfl rfl<|WOL.gu rfl rfl<|WOL.gu rfl rfl<|WOL.gu rfl rfl<|WOL.gu rfl rfl<|WOL.gu rfl rfl<|WOL.gu rfl rfl<|WOL.gu rfl rfl<|WOL.skp (b:=false) rfl rfl<|WOL.pkf rfl rfl<|WOL.nil<|WL.no rfl<|WL.skip fun y k=>⟨(),Z1,k.sub ⟨rfl,rfl,rfl,rfl,rfl,rfl,rfl,rfl,rfl,trivial⟩⟩
  | true =>
   have kS:=kkj rfl
   obtain ⟨F,es,rr,qq⟩:=r.hx Z1
   refine WOL.mv rfl<|WOL.now (b:=true) rfl rfl<|WOL.ld rfl (qab tp46 (A4.hx Z1) rfl (Nat.le_of_ble_eq_true rfl))<|WOL.now (b:=true) rfl rfl<|WOL.mv rfl<|WOL.now (b:=true) rfl rfl<|WOL.cl2 rfl rfl rfl ((k39 (s:=s) (n:=n) H rr.s (by omega)).mono ?_)
   rintro v g2 ⟨rfl,G2⟩
   have Z2:=Z1.trans G2
   rw [show qam (qah (C.map fun c=>c.2)) (j:Nat)=true from kS]
   obtain ⟨_,_,cb,fb,wb,elb,g1b,g2b,g3b,g4b,g5b⟩:=(r7.hx Z2).l.at eI u29 tp3 yb .i64
   have gxb:=g5b 0 (by decide)
   rw [Nat.add_zero] at gxb
   exact WOL.now (b:=true) rfl rfl<|WOL.nt rfl<|WOL.now (b:=true) rfl rfl<|WOL.mv rfl<|WOL.now (b:=false) rfl rfl<|WOL.mv rfl<|WOL.now (b:=false) rfl rfl<|WOL.fa rfl (qaf qau)<|WOL.now (b:=false) rfl rfl<|WOL.ld rfl (qaa tp29 (A7.hx Z2) rfl)<|WOL.now (b:=false) rfl rfl<|WOL.mv rfl<|WOL.now (b:=false) rfl rfl<|WOL.ix rfl rfl g1b<|WOL.now (b:=false) rfl rfl<|WOL.ld rfl (qaa tp3 g2b gxb)<|WOL.now (b:=false) rfl rfl<|WOL.bf rfl rfl rfl (bne_eq_false_iff_eq.2 (kvj rfl))<|WOL.now (b:=true) rfl rfl<|WOL.pkf rfl rfl<|WOL.pkt rfl rfl<|WOL.nil<|WL.no rfl<|WL.skip fun y k=>⟨(),Z2,k.sub ⟨rfl,rfl,rfl,rfl,rfl,rfl,rfl,rfl,rfl,trivial⟩⟩
 ·rintro _ g G
  exact kto (k1110j H X K (Y7.trans G) f (A3.hx G) (A4.hx G) (A5.hx G) (r.hx G) (A9.hx G) (o9.hx G) (B15.hx G) (o15.hx G) hx hy hz hw hp hp' hq hq' hM h0M l1 lim t9 tD) ⟨rfl,rfl,rfl,rfl,rfl,trivial⟩
end
end Go.Tidy
namespace Go.Tidy
open Go Go.Proofs Tab
variable {tp:TProg}
section
variable {h h0:TH} {s:ByteArray} {n x y z w a b:Int} {p q M c3 c4 c5 c7 c9 b7 m7 k7 b9 m9 k9 m0:Nat} {v1 v2:Value} {C:List (Int × Bool)} {F:List Nat} {S:List (Int × Int)} {a7 a9:Option Addr}
def cd1110b:TCode:=.seq (.reg r1110_16) (.seq (.seq (.reg r1110_17) (.block 2 (.loop (.seq (.reg r1110_18) (.seq (.cond (.tmp 169) .skip (.exit 2)) (.seq (.block 3 (.seq (.reg r1110_19) (.seq (.reg r1110_20) (.cond (.tmp 174) (.seq (.reg r1110_21) .ret) .skip)))) (.reg r1110_22))))))) cd1110c)
set_option maxHeartbeats 8000000 in
set_option maxRecDepth 10000 in
theorem k1110b (H:Has tp) (X:HasX tp) (K:Awk tp) (X0:HX h0 h) (f:Free0 h0.next h0) (A3:At h c3 (.cells [zi (p:Nat),zi (q:Nat)] true true 23)) (A4:At h c4 (.cells (runV s n v1 v2).cells.toList true true 88)) (A5:At h c5 (.cells [.int .i8 x,.int .i8 y,.int .i8 z,.int .i8 w] true true 68)) (r:RunC s n h v1 v2 C)
  (A7:At h c7 (.cells [zi n,slA b7 C.length,.slice a7 m7 k7] true true 55)) (r7:TrcH h (slA b7 C.length) (.slice a7 m7 k7) (lvC C) (hoC C))
  (A9:At h c9 (.cells [zi (n+(p:Nat)),slA b9 M,.slice a9 m9 k9] true true 55)) (o9:TrcO m0 h b9 (.slice a9 m9 k9) (qcr (qbx (lvC C) (hoC C) (vTn p q) M)) (qah ((qbx (lvC C) (hoC C) (vTn p q) M).map fun c=>c.2)))
  (hx:-128≤x∧x≤127) (hy:-128≤y∧y≤127) (hz:-128≤z∧z≤127) (hw:-128≤w∧w≤127)
  (hp:1≤p) (hp':p≤6) (hq:1≤q) (hq':q≤6) (hM:M+(p+q)=C.length) (h0M:0 < M) (l1:C.length≤40) (lim:∀ j,((lvC C).getD j 0).natAbs≤6400) (t9:qbk (n+(p:Nat)) (qcr (qbx (lvC C) (hoC C) (vTn p q) M)) (qah ((qbx (lvC C) (hoC C) (vTn p q) M).map fun c=>c.2))=0) :
  ∀ a,Kn [(3,ptr c3),(4,ptr c4),(5,ptr c5),(7,ptr c7),(9,ptr c9)] a→W Tryz.prog tp false cd1110b a h (Fin Tryz.prog [.tmp 6] fun v _=>v=.bool true):=by
 unfold cd1110b
 obtain ⟨b1,l1',k1,b2,l2',k2,rfl,rfl⟩:=r.forms
 have ll:=lvC_len (C:=C)
 have hS:=qbu (C.map fun c=>c.2)
 rw [List.length_map] at hS
 have lT:((lvC C).take (p+q)).length=p+q:=by rw [List.length_take,ll];omega
 obtain ⟨cc2,fix2,wr2,el2,A2,hf2⟩:=r7.g b7 0 C.length C.length rfl
 have s13:SlL encI 1 h (.slice (some ⟨b7,0,none⟩) (p+q) C.length) ((lvC C).take (p+q)):=by
  have s:=SlL.part eI r7.l (lo:=0) (hi:=p+q) (by omega) (by omega)
  rw [List.drop_zero,Nat.zero_mul,Nat.add_zero,Nat.sub_zero,Nat.sub_zero] at s
  exact s
 refine WL.sr<|WOL.fa rfl (qaf qau)<|WOL.ld rfl (qaa tp29 A7 rfl)<|WOL.fa rfl (qaf fo1112_0)<|WOL.ld rfl (qaa tp3 A3 rfl)<|WOL.fa rfl (qaf fo1112_1)<|WOL.ld rfl (qaa tp3 A3 rfl)<|WOL.add (m:=(p:Int)) (n:=(q:Int)) rfl rfl (by omega) (by omega) ?_
 rw [show (p:Int)+(q:Int)=((p+q:Nat):Int) by omega]
 refine WOL.sl2 rfl rfl (sliceT_to (k:=.i64) u29 tp3 (Nat.le_refl _) (by omega) A2 hf2)<|WOL.as rfl<|WOL.nil<|keep [(3,_),(4,_),(5,_),(7,_),(9,_),(13,_)] ⟨rfl,rfl,rfl,rfl,rfl,rfl,trivial⟩ ?_
 refine WL.seq<|WL.sr<|WOL.mv rfl ?_
 have sl:=s13
 rw [show (Value.slice (some ⟨b7,0,none⟩) (p+q) C.length)=.slice (some ⟨b7,0,none⟩) ((lvC C).take (p+q)).length C.length by rw [lT]] at sl
 refine WOL.len rfl s13 u29 ?_
 rw [lT]
 refine WOL.mv rfl<|WOL.nil<|keep [(3,_),(4,_),(5,_),(7,_),(9,_),(13,_),(167,_),(168,_)] ⟨rfl,rfl,rfl,rfl,rfl,rfl,rfl,rfl,trivial⟩ ?_
 refine WL.upto (α:=Unit) (p+q) (fun j _ g=>HX h g∧∀ i,i < j→qam (hoC C) (i:Nat)=true) (fun _ _=>[(3,ptr c3),(4,ptr c4),(5,ptr c5),(7,ptr c7),(9,ptr c9),(13,.slice (some ⟨b7,0,none⟩) (p+q) C.length),(167,zi ((p+q:Nat):Int))]) () rfl rfl (by omega) ⟨HX.refl _,fun i hi=>absurd hi (by omega)⟩ ⟨rfl,rfl,rfl,rfl,rfl,rfl,rfl,rfl,trivial⟩ (fun _ _=>rfl) (fun _ _ _=>⟨rfl,rfl,rfl,rfl,rfl,rfl,rfl,rfl,trivial⟩) (fun _ _ _=>⟨rfl,rfl,rfl,rfl,rfl,rfl,rfl,rfl,trivial⟩) ?_ ?_
 ·rintro j _ g hj ⟨G,hk⟩
  obtain ⟨F,es,rr,qq⟩:=r.hx G
  refine WL.sr<|WOL.mv rfl<|WOL.as rfl<|WOL.nil<|keep [(3,_),(4,_),(5,_),(7,_),(9,_),(13,_),(14,_),(167,_),(168,_)] ⟨rfl,rfl,rfl,rfl,rfl,rfl,rfl,rfl,rfl,trivial⟩ ?_
  refine WL.sr<|WOL.ld rfl (qab tp46 (A4.hx G) rfl (Nat.le_of_ble_eq_true rfl))<|WOL.mv rfl<|WOL.cl2 rfl rfl rfl ((k39 (s:=s) (n:=n) H rr.s (by omega)).mono ?_)
  rintro v g1 ⟨rfl,G1⟩
  cases kb:qam (qah (C.map fun c=>c.2)) (j:Nat) with
  | false =>
   refine WOL.nt rfl<|WOL.nil<|WL.yes rfl<|WL.sr<|WOL.cl0 rfl ((k11t K _).mono ?_)
   rintro v g8 ⟨rfl,rfl⟩
   exact WOL.as rfl<|WOL.nil<|WL.ret (WL.end_ rfl rfl)
  | true =>
   refine WOL.nt rfl<|WOL.nil<|WL.no rfl<|WL.skip fun y k=>⟨(),⟨G.trans G1,fun i hi=>?_⟩,k.sub ⟨rfl,rfl,rfl,rfl,rfl,rfl,rfl,rfl,trivial⟩⟩
   by_cases e:i=j
   ·subst e;exact kb
   ·exact hk i (by omega)
 ·rintro _ g ⟨G,hk⟩
  exact kto (k1110c H X K (X0.trans G) f (A3.hx G) (A4.hx G) (A5.hx G) (r.hx G) (A7.hx G) (r7.hx G) (s13.hx G) (A9.hx G) (o9.hx G) hk hx hy hz hw hp hp' hq hq' hM h0M l1 lim t9) ⟨rfl,rfl,rfl,rfl,rfl,rfl,trivial⟩
def cd1110a:TCode:=.seq (.reg r1110_6) (.seq (.seq (.reg r1110_7) (.cond (.tmp 123) (.seq (.reg r1110_8) .ret) .skip)) (.seq (.seq (.reg r1110_9) (.block 0 (.loop (.seq (.reg r1110_10) (.seq (.cond (.tmp 128) .skip (.exit 0)) (.seq (.block 1 (.seq (.reg r1110_11) (.seq (.reg r1110_12) (.seq (.reg r1110_13) (.cond (.tmp 156) (.seq (.reg r1110_14) .ret) .skip))))) (.reg r1110_15))))))) cd1110b))
set_option maxHeartbeats 8000000 in
set_option maxRecDepth 10000 in
theorem k1110a (H:Has tp) (X:HasX tp) (K:Awk tp) (X0:HX h0 h) (f:Free0 h0.next h0) (A3:At h c3 (.cells [zi (p:Nat),zi (q:Nat)] true true 23)) (A4:At h c4 (.cells (runV s n v1 v2).cells.toList true true 88)) (A5:At h c5 (.cells [.int .i8 x,.int .i8 y,.int .i8 z,.int .i8 w] true true 68)) (r:RunC s n h v1 v2 C)
    (A7:At h c7 (.cells [zi n,slA b7 C.length,.slice a7 m7 k7] true true 55)) (r7:TrcH h (slA b7 C.length) (.slice a7 m7 k7) (lvC C) (hoC C))
    (hx:-128≤x∧x≤127) (hy:-128≤y∧y≤127) (hz:-128≤z∧z≤127) (hw:-128≤w∧w≤127)
    (hp:1≤p) (hp':p≤6) (hq:1≤q) (hq':q≤6) (hM:M+(p+q)=C.length) (h0M:0 < M) (l1:C.length≤40) (lim:∀ j,((lvC C).getD j 0).natAbs≤6400) :
    ∀ a,Kn [(3,ptr c3),(4,ptr c4),(5,ptr c5),(7,ptr c7)] a→W Tryz.prog tp false cd1110a a h (Fin Tryz.prog [.tmp 6] fun v _=>v=.bool true):=by
  unfold cd1110a
  obtain ⟨b1,l1',k1,b2,l2',k2,rfl,rfl⟩:=r.forms
  have x0:=X0.next
  have lc3:=A3.lt
  have ll:=lvC_len (C:=C)
  have t1:=r.trcE
  obtain ⟨⟨n0,_⟩,_,_,_,_,n1⟩:=trace_ok t1
  rw [ll] at n1
  have hS:=qbu (C.map fun c=>c.2)
  rw [List.length_map] at hS
  have hS':(hoC C).length≤900000:=by show (qah _).length≤_;omega
  have lC:(qbx (lvC C) (hoC C) (vTn p q) M).length=M:=qbh
  have lV:(qcr (qbx (lvC C) (hoC C) (vTn p q) M)).length=M:=by rw [qck,qbh]
  have hh9:=qbu ((qbx (lvC C) (hoC C) (vTn p q) M).map fun c=>c.2)
  rw [List.length_map,qbh] at hh9
  have bC:=taps_small (L:=lvC C) (S:=hoC C) (M:=M) (B:=6400) (T:=vTn p q) (by decide) lim (vTn_w (by omega) (by omega)) (by show 3≤65;decide)
  have t9:=traceE_made (n:=n+(p:Nat)) (C:=qbx (lvC C) (hoC C) (vTn p q) M) bC (by omega) (by rw [lC];omega) (by rw [lC];omega)
  -- the versines
  refine WL.sr<|WOL.ld rfl (qab tp1112 A3 rfl (Nat.le_of_ble_eq_true rfl))<|WOL.ld rfl (qab tp1117 A7 rfl (Nat.le_of_ble_eq_true rfl))<|WOL.al tp1117 fun h1 N1=>?_
  have n1':=N1.next
  have Y1:=X0.trans N1.hx
  refine WOL.lq1 [h.next,c3] rfl rfl rfl fun ml hl=>((k1168 (n:=n) H ((r7.hx N1.hx).relock ml) (by omega) (by omega) ((f.on Y1).held hl (fun b hb=>by simp at hb;omega))).mono ?_)
  rintro v h2 ⟨X2,u5,u6,rfl,ru5,_,_⟩
  replace X2:=X2.relock
  replace ru5:=ru5.relock h1.lock
  generalize h2.withLock h1.lock=h2 at *
  have x2:=X2.next
  have Y2:=Y1.trans X2
  refine WOL.lq2 [h.next] rfl rfl rfl rfl fun ml hl=>((k1125 (n:=n) (a:=(p:Int)) (b:=(q:Int)) H (ru5.relock ml) (by omega) hS' ((f.on Y2).held hl (fun b hb=>by simp at hb;omega))).mono ?_)
  rintro v h3 ⟨X3,R⟩
  replace X3:=X3.relock
  rw [Int.toNat_natCast,Int.toNat_natCast,ll,show C.length - (p+q)=M by omega] at R
  obtain ⟨b9,a9,m9,k9,rfl,hb9,to⟩:=R.ok (errV_in (by rw [chordE_in (by omega) (by omega) (by omega) (by omega),t1];rfl) (by omega)) bC
  clear R
  replace to:TrcO h2.next (h3.withLock h2.lock) b9 _ _ _:=to.relock h2.lock
  replace hb9:h2.next≤b9:=hb9
  generalize h3.withLock h2.lock=h3 at *
  rw [lC]
  have x3:=X3.next
  have Y3:=Y2.trans X3
  have T3:=(N1.hx.trans X2).trans X3
  have B9:=(N1.at_.hx X2).hx X3
  refine WOL.mv rfl<|WOL.ex rfl rfl<|WOL.ex rfl rfl<|WOL.sto (vs:=[zi (n+(p:Nat)),slA b9 M,.slice a9 m9 k9]) rfl rfl tp1117 B9 rfl rfl (Nat.le_of_ble_eq_true rfl) rfl (f.hx Y3) (by omega) fun h4 P4=>WOL.as rfl<|WOL.nil<|keep [(3,_),(4,_),(5,_),(7,_),(9,_),(10,_)] ⟨rfl,rfl,rfl,rfl,rfl,rfl,trivial⟩ ?_
  have p4:=P4.next
  have T4:HX h h4:=P4.hx _ T3 (by omega)
  have Y4:=X0.trans T4
  replace B9:=P4.at_
  have o9:=to.put P4 (by omega) (by omega)
  clear to
  replace A3:=A3.hx T4;replace A4:=A4.hx T4;replace A5:=A5.hx T4;replace A7:=A7.hx T4;replace r7:=r7.hx T4;replace r:=r.hx T4
  have r9:=o9.trc
  rw [lV] at r9
  -- in order
  refine WL.seq<|WL.sr<|WOL.mv rfl<|WOL.bf rfl rfl rfl rfl<|WOL.mv rfl<|WOL.now (b:=false) rfl rfl<|WOL.ld rfl (qab tp1117 B9 rfl (Nat.le_of_ble_eq_true rfl))<|WOL.now (b:=false) rfl rfl<|WOL.cl1 rfl rfl ((k1117w (n:=n+(p:Nat)) H r9 (f.on Y4)).mono ?_)
  rintro v h5 ⟨rfl,X5⟩
  have Y5:=Y4.trans X5
  replace A3:=A3.hx X5;replace A4:=A4.hx X5;replace A5:=A5.hx X5;replace A7:=A7.hx X5;replace r7:=r7.hx X5;replace r:=r.hx X5;replace B9:=B9.hx X5;replace o9:=o9.hx X5;replace r9:=r9.hx X5
  refine WOL.now (b:=false) rfl rfl<|WOL.bf rfl rfl rfl (bne_eq_false_iff_eq.2 t9)<|WOL.pkf rfl rfl<|WOL.mv rfl<|WOL.now (b:=false) rfl rfl<|WOL.fa rfl (qaf qau)<|WOL.now (b:=false) rfl rfl<|WOL.ld rfl (qaa tp29 B9 rfl)<|WOL.now (b:=false) rfl rfl<|WOL.len rfl r9.l u29 ?_
  rw [lV]
  refine WOL.now (b:=false) rfl rfl<|WOL.fa rfl (qaf qau)<|WOL.now (b:=false) rfl rfl<|WOL.ld rfl (qaa tp29 A7 rfl)<|WOL.now (b:=false) rfl rfl<|WOL.len rfl r7.l u29 ?_
  rw [ll]
  refine WOL.now (b:=false) rfl rfl<|WOL.fa rfl (qaf fo1112_0)<|WOL.now (b:=false) rfl rfl<|WOL.ld rfl (qaa tp3 A3 rfl)<|WOL.now (b:=false) rfl rfl<|WOL.sub (m:=(C.length:Int)) (n:=(p:Int)) rfl rfl (by omega) (by omega)<|WOL.now (b:=false) rfl rfl<|WOL.fa rfl (qaf fo1112_1)<|WOL.now (b:=false) rfl rfl<|WOL.ld rfl (qaa tp3 A3 rfl)<|WOL.now (b:=false) rfl rfl<|WOL.sub (m:=(C.length:Int) - (p:Int)) (n:=(q:Int)) rfl rfl (by omega) (by omega)<|WOL.now (b:=false) rfl rfl<|WOL.bf rfl rfl rfl (bne_eq_false_iff_eq.2 (by omega))<|WOL.pkf rfl rfl<|WOL.nil<|WL.no rfl<|WL.skip<|keep [(3,_),(4,_),(5,_),(7,_),(9,_)] ⟨rfl,rfl,rfl,rfl,rfl,trivial⟩ ?_
  refine WL.seq<|WL.sr<|WOL.fa rfl (qaf qau)<|WOL.ld rfl (qaa tp29 B9 rfl)<|WOL.len rfl r9.l u29 ?_
  rw [lV]
  refine WOL.mv rfl<|WOL.nil<|keep [(3,_),(4,_),(5,_),(7,_),(9,_),(126,_),(127,_)] ⟨rfl,rfl,rfl,rfl,rfl,rfl,rfl,trivial⟩ ?_
  refine WL.upto (α:=Unit) M (fun _ _ g=>HX h5 g) (fun _ _=>[(3,ptr c3),(4,ptr c4),(5,ptr c5),(7,ptr c7),(9,ptr h.next),(126,zi (M:Nat))]) () rfl rfl (by omega) (HX.refl _) ⟨rfl,rfl,rfl,rfl,rfl,rfl,rfl,trivial⟩ (fun _ _=>rfl) (fun _ _ _=>⟨rfl,rfl,rfl,rfl,rfl,rfl,rfl,trivial⟩) (fun _ _ _=>⟨rfl,rfl,rfl,rfl,rfl,rfl,rfl,trivial⟩) ?_ ?_
  · rintro j _ g hj G
    have vk:=vers_known (L:=lvC C) (S:=hoC C) (p:=p) (q:=q) hj
    rw [tapK_v] at vk
    obtain ⟨F,es,rr,qq⟩:=r.hx G
    refine WL.sr<|WOL.mv rfl<|WOL.as rfl<|WOL.nil<|keep [(3,_),(4,_),(5,_),(7,_),(9,_),(11,_),(126,_),(127,_)] ⟨rfl,rfl,rfl,rfl,rfl,rfl,rfl,rfl,trivial⟩ ?_
    refine WL.sr<|WOL.ld rfl (qab tp46 (A4.hx G) rfl (Nat.le_of_ble_eq_true rfl))<|WOL.mv rfl<|WOL.cl2 rfl rfl rfl ((k39 (s:=s) (n:=n) H rr.s (by omega)).mono ?_)
    rintro v g1 ⟨rfl,G1⟩
    have Z1:=G.trans G1
    change qam (qah ((qbx (lvC C) (hoC C) (vTn p q) M).map fun c=>c.2)) (j:Nat)=(qam (qah (C.map fun c=>c.2)) (j:Nat) && (qam (qah (C.map fun c=>c.2)) ((j+p:Nat):Int) && qam (qah (C.map fun c=>c.2)) ((j+(p+q):Nat):Int))) at vk
    generalize qam (qah (C.map fun c=>c.2)) (j:Nat)=ka at *
    cases ka with
    | false =>
      refine WOL.mv rfl<|WOL.skp (b:=false) rfl rfl<|WOL.skp (b:=false) rfl rfl<|WOL.skp (b:=false) rfl rfl<|WOL.skp (b:=false) rfl rfl<|WOL.skp (b:=false) rfl rfl<|WOL.skp (b:=false) rfl rfl<|WOL.pkf rfl rfl<|WOL.mv rfl<|WOL.skp (b:=false) rfl rfl<|WOL.skp (b:=false) rfl rfl<|WOL.skp (b:=false) rfl rfl<|WOL.skp (b:=false) rfl rfl<|WOL.skp (b:=false) rfl rfl<|WOL.skp (b:=false) rfl rfl<|WOL.skp (b:=false) rfl rfl<|WOL.skp (b:=false) rfl rfl<|WOL.skp (b:=false) rfl rfl<|WOL.pkf rfl rfl<|WOL.as rfl<|WOL.nil<|keep [(3,_),(4,_),(5,_),(7,_),(9,_),(11,_),(12,_),(126,_),(127,_)] ⟨rfl,rfl,rfl,rfl,rfl,rfl,rfl,rfl,rfl,trivial⟩ ?_
      refine WL.sr<|WOL.ld rfl (qab tp1117 (B9.hx Z1) rfl (Nat.le_of_ble_eq_true rfl))<|WOL.mv rfl<|WOL.cl2 rfl rfl rfl ((k1154 H (r9.hx Z1).s (by omega)).mono ?_)
      rintro v i1 ⟨rfl,I1⟩
      rw [vk]
      refine WOL.mv rfl<|WOL.neb (b:=false) (c:=false) u4 rfl rfl ?_
      rw [show (false != false)=false from bne_self_eq_false _]
      exact WOL.nil<|WL.no rfl<|WL.skip fun y k=>⟨(),Z1.trans I1,k.sub ⟨rfl,rfl,rfl,rfl,rfl,rfl,rfl,trivial⟩⟩
    | true =>
      refine WOL.mv rfl<|WOL.now (b:=true) rfl rfl<|WOL.ld rfl (qab tp46 (A4.hx Z1) rfl (Nat.le_of_ble_eq_true rfl))<|WOL.now (b:=true) rfl rfl<|WOL.mv rfl<|WOL.now (b:=true) rfl rfl<|WOL.fa rfl (qaf fo1112_0)<|WOL.now (b:=true) rfl rfl<|WOL.ld rfl (qaa tp3 (A3.hx Z1) rfl)<|WOL.now (b:=true) rfl rfl<|WOL.add (m:=(j:Int)) (n:=(p:Int)) rfl rfl (by omega) (by omega) ?_
      rw [show (j:Int)+(p:Int)=((j+p:Nat):Int) by omega]
      refine WOL.now (b:=true) rfl rfl<|WOL.cl2 rfl rfl rfl ((k39 (s:=s) (n:=n) H (rr.s.hx G1) (by omega)).mono ?_)
      rintro v g2 ⟨rfl,G2⟩
      have Z2:=Z1.trans G2
      generalize qam (qah (C.map fun c=>c.2)) ((j+p:Nat):Int)=kb at *
      cases kb with
      | false =>
        refine WOL.pkt rfl rfl<|WOL.mv rfl<|WOL.skp (b:=false) rfl rfl<|WOL.skp (b:=false) rfl rfl<|WOL.skp (b:=false) rfl rfl<|WOL.skp (b:=false) rfl rfl<|WOL.skp (b:=false) rfl rfl<|WOL.skp (b:=false) rfl rfl<|WOL.skp (b:=false) rfl rfl<|WOL.skp (b:=false) rfl rfl<|WOL.skp (b:=false) rfl rfl<|WOL.pkf rfl rfl<|WOL.as rfl<|WOL.nil<|keep [(3,_),(4,_),(5,_),(7,_),(9,_),(11,_),(12,_),(126,_),(127,_)] ⟨rfl,rfl,rfl,rfl,rfl,rfl,rfl,rfl,rfl,trivial⟩ ?_
        refine WL.sr<|WOL.ld rfl (qab tp1117 (B9.hx Z2) rfl (Nat.le_of_ble_eq_true rfl))<|WOL.mv rfl<|WOL.cl2 rfl rfl rfl ((k1154 H (r9.hx Z2).s (by omega)).mono ?_)
        rintro v i1 ⟨rfl,I1⟩
        rw [vk]
        refine WOL.mv rfl<|WOL.neb (b:=false) (c:=false) u4 rfl rfl ?_
        rw [show (false != false)=false from bne_self_eq_false _]
        exact WOL.nil<|WL.no rfl<|WL.skip fun y k=>⟨(),Z2.trans I1,k.sub ⟨rfl,rfl,rfl,rfl,rfl,rfl,rfl,trivial⟩⟩
      | true =>
        refine WOL.pkt rfl rfl<|WOL.mv rfl<|WOL.now (b:=true) rfl rfl<|WOL.ld rfl (qab tp46 (A4.hx Z2) rfl (Nat.le_of_ble_eq_true rfl))<|WOL.now (b:=true) rfl rfl<|WOL.mv rfl<|WOL.now (b:=true) rfl rfl<|WOL.fa rfl (qaf fo1112_0)<|WOL.now (b:=true) rfl rfl<|WOL.ld rfl (qaa tp3 (A3.hx Z2) rfl)<|WOL.now (b:=true) rfl rfl<|WOL.add (m:=(j:Int)) (n:=(p:Int)) rfl rfl (by omega) (by omega)<|WOL.now (b:=true) rfl rfl<|WOL.fa rfl (qaf fo1112_1)<|WOL.now (b:=true) rfl rfl<|WOL.ld rfl (qaa tp3 (A3.hx Z2) rfl)<|WOL.now (b:=true) rfl rfl<|WOL.add (m:=(j:Int)+(p:Int)) (n:=(q:Int)) rfl rfl (by omega) (by omega) ?_
        rw [show (j:Int)+(p:Int)+(q:Int)=((j+(p+q):Nat):Int) by omega]
        refine WOL.now (b:=true) rfl rfl<|WOL.cl2 rfl rfl rfl ((k39 (s:=s) (n:=n) H ((rr.s.hx G1).hx G2) (by omega)).mono ?_)
        rintro v g3 ⟨rfl,G3⟩
        have Z3:=Z2.trans G3
        generalize qam (qah (C.map fun c=>c.2)) ((j+(p+q):Nat):Int)=kc at *
        refine WOL.pkt rfl rfl<|WOL.as rfl<|WOL.nil<|keep [(3,_),(4,_),(5,_),(7,_),(9,_),(11,_),(12,_),(126,_),(127,_)] ⟨rfl,rfl,rfl,rfl,rfl,rfl,rfl,rfl,rfl,trivial⟩ ?_
        refine WL.sr<|WOL.ld rfl (qab tp1117 (B9.hx Z3) rfl (Nat.le_of_ble_eq_true rfl))<|WOL.mv rfl<|WOL.cl2 rfl rfl rfl ((k1154 H (r9.hx Z3).s (by omega)).mono ?_)
        rintro v i1 ⟨rfl,I1⟩
        rw [vk]
        refine WOL.mv rfl<|WOL.neb (b:=kc) (c:=kc) u4 rfl rfl ?_
        rw [show (kc != kc)=false from bne_self_eq_false _]
        exact WOL.nil<|WL.no rfl<|WL.skip fun y k=>⟨(),Z3.trans I1,k.sub ⟨rfl,rfl,rfl,rfl,rfl,rfl,rfl,trivial⟩⟩
  · rintro _ g G
    exact kto (k1110b H X K (Y5.trans G) f (A3.hx G) (A4.hx G) (A5.hx G) (r.hx G) (A7.hx G) (r7.hx G) (B9.hx G) (o9.hx G) hx hy hz hw hp hp' hq hq' hM h0M l1 lim t9) ⟨rfl,rfl,rfl,rfl,rfl,trivial⟩
set_option maxHeartbeats 8000000 in
set_option maxRecDepth 10000 in
theorem k1110t (H:Has tp) (X:HasX tp) (K:Awk tp) (X0:HX h0 h) (f:Free0 h0.next h0) (A3:At h c3 (.cells [zi (p:Nat),zi (q:Nat)] true true 23)) (A4:At h c4 (.cells (runV s n v1 v2).cells.toList true true 88)) (A5:At h c5 (.cells [.int .i8 x,.int .i8 y,.int .i8 z,.int .i8 w] true true 68)) (r:RunC s n h v1 v2 C)
  (hx:-128≤x∧x≤127) (hy:-128≤y∧y≤127) (hz:-128≤z∧z≤127) (hw:-128≤w∧w≤127)
  (hp:1≤p) (hp':p≤6) (hq:1≤q) (hq':q≤6) (hM:M+(p+q)=C.length) (h0M:0 < M) (l1:C.length≤40) (lim:∀ j,((lvC C).getD j 0).natAbs≤6400) :
  ∀ a,Kn [(3,ptr c3),(4,ptr c4),(5,ptr c5)] a→W Tryz.prog tp false (.seq (.reg r1110_3) (.seq (.seq (.reg r1110_4) (.cond (.tmp 94) (.seq (.reg r1110_5) .ret) .skip)) cd1110a)) a h (Fin Tryz.prog [.tmp 6] fun v _=>v=.bool true):=by
 obtain ⟨b1,l1',k1,b2,l2',k2,rfl,rfl⟩:=r.forms
 have x0:=X0.next
 have ll:=lvC_len (C:=C)
 have t1:=r.trcE
 have hS:=qbu (C.map fun c=>c.2)
 rw [List.length_map] at hS
 refine WL.sr<|WOL.ld rfl (qab tp46 A4 rfl (Nat.le_of_ble_eq_true rfl))<|WOL.cl1 rfl rfl ((c1167 (s:=s) (n:=n) H r (f.on X0)).mono ?_)
 rintro v h1 ⟨u1,u2,rfl,X1,r1⟩
 have Y1:=X0.trans X1
 refine WOL.cl1 rfl rfl ((k1146c (s:=s) (n:=n) H X r1 (f.on Y1)).mono ?_)
 rintro v h2 ⟨X2,c,b,m,k,rfl,rt,_,_⟩
 have Y2:=Y1.trans X2
 have x12:=(X1.trans X2).next
 refine WOL.mv rfl<|WOL.ex rfl rfl<|WOL.ex rfl rfl<|WOL.al tp1117 fun h3 N3=>WOL.sto (vs:=[zi n,slA c C.length,.slice b m k]) rfl rfl tp1117 N3.at_ rfl rfl (Nat.le_of_ble_eq_true rfl) rfl (f.hx (Y2.trans N3.hx)) (by omega) fun h4 P4=>WOL.as rfl<|WOL.nil<|keep [(3,_),(4,_),(5,_),(7,_),(8,_)] ⟨rfl,rfl,rfl,rfl,rfl,trivial⟩ ?_
 have n3:=N3.next
 have p4:=P4.next
 have Z24:HX h2 h4:=P4.hx _ N3.hx (Nat.le_refl _)
 have Z4:=(X1.trans X2).trans Z24
 have Y4:=X0.trans Z4
 have B7:=P4.at_
 have r7:=rt.hx Z24
 replace A3:=A3.hx Z4;replace A4:=A4.hx Z4;replace A5:=A5.hx Z4;replace r:=r.hx Z4
 refine WL.seq<|WL.sr<|WOL.mv rfl<|WOL.bf rfl rfl rfl rfl<|WOL.mv rfl<|WOL.now (b:=false) rfl rfl<|WOL.ld rfl (qab tp1117 B7 rfl (Nat.le_of_ble_eq_true rfl))<|WOL.now (b:=false) rfl rfl<|WOL.cl1 rfl rfl ((k1117w (n:=n) H r7 (f.on Y4)).mono ?_)
 rintro v h5 ⟨rfl,X5⟩
 have Y5:=Y4.trans X5
 replace A3:=A3.hx X5;replace A4:=A4.hx X5;replace A5:=A5.hx X5;replace r:=r.hx X5;replace B7:=B7.hx X5;replace r7:=r7.hx X5
 obtain ⟨F,lF,sF⟩:∃ F:List Nat,F.length=C.length∧SlL encF 1 h5 (.slice b1 l1' k1) F:=by
  obtain ⟨F,es,rr,q⟩:=r
  exact ⟨F,q.len,rr.f⟩
 refine WOL.now (b:=false) rfl rfl<|WOL.bf rfl rfl rfl (bne_eq_false_iff_eq.2 t1)<|WOL.pkf rfl rfl<|WOL.mv rfl<|WOL.now (b:=false) rfl rfl<|WOL.fa rfl (qaf qau)<|WOL.now (b:=false) rfl rfl<|WOL.ld rfl (qaa tp29 B7 rfl)<|WOL.now (b:=false) rfl rfl<|WOL.len rfl r7.l u29 ?_
 rw [ll]
 obtain ⟨bo,cap,ev⟩:=sF.form
 cases ev
 refine WOL.now (b:=false) rfl rfl<|WOL.fa rfl (qaf fo46_2)<|WOL.now (b:=false) rfl rfl<|WOL.ld rfl (qaa tp43 A4 rfl)<|WOL.now (b:=false) rfl rfl<|WOL.len rfl sF u43<|WOL.now (b:=false) rfl rfl<|WOL.bf rfl rfl rfl (bne_eq_false_iff_eq.2 (by omega))<|WOL.pkf rfl rfl<|WOL.nil<|WL.no rfl<|WL.skip ?_
 exact kto (k1110a H X K Y5 f A3 A4 A5 r B7 r7 hx hy hz hw hp hp' hq hq' hM h0M l1 lim) ⟨rfl,rfl,rfl,rfl,trivial⟩
set_option maxHeartbeats 8000000 in
set_option maxRecDepth 10000 in
theorem k1110 (H:Has tp) (X:HasX tp) (K:Awk tp) (r:RunH h v1 v2 F S) (hx:-128≤x∧x≤127) (hy:-128≤y∧y≤127) (hz:-128≤z∧z≤127) (hw:-128≤w∧w≤127) (f:Free0 h.next h) :
  qad Tryz.prog tp (.func (.func 7) #[] #[]) #[.agg #[zi a,zi b],runV s n v1 v2,.agg #[.int .i8 x,.int .i8 y,.int .i8 z,.int .i8 w]] h fun v _=>v=.bool true:=by
 obtain ⟨b1,k1,e1⟩:=r.f.form
 obtain ⟨b2,k2,e2⟩:=r.s.form
 subst e1 e2
 obtain ⟨es,L,hE,hLv⟩:=lev_some F
 refine qad.fnL (H.fn 7 f1110 rfl rfl) ?_
 refine WL.sr<|WOL.box rfl fun h1 N1=>WOL.box rfl fun h2 N2=>WOL.box rfl fun h3 N3=>WOL.as rfl<|WOL.nil<|keep [(3,_),(4,_),(5,_)] ⟨rfl,rfl,rfl,trivial⟩ ?_
 have A3:At h3 h.next (.cells [zi a,zi b] true true 23):=(N1.at_.hx N2.hx).hx N3.hx
 have A4:At h3 h1.next (.cells [.string s,zi n,.slice b1 F.length k1,.slice b2 S.length k2] true true 88):=N2.at_.hx N3.hx
 have A5:At h3 h2.next (.cells [.int .i8 x,.int .i8 y,.int .i8 z,.int .i8 w] true true 68):=N3.at_
 have X3:=(N1.hx.trans N2.hx).trans N3.hx
 refine WL.seq<|WL.sr<|WOL.ld rfl (qab tp1112 A3 rfl (Nat.le_of_ble_eq_true rfl))<|WOL.cl1 rfl rfl ((k1122 H a b _).mono ?_)
 rintro v h4 ⟨rfl,X4⟩
 have Y4:=X3.trans X4
 replace A3:=A3.hx X4;replace A4:=A4.hx X4;replace A5:=A5.hx X4
 by_cases ce:chordE a b=0
 case neg =>
  refine WOL.bt rfl rfl rfl (bne_iff_ne.2 ce)<|WOL.mv rfl<|WOL.skp (b:=true) rfl rfl<|WOL.skp (b:=true) rfl rfl<|WOL.skp (b:=true) rfl rfl<|WOL.pkt rfl rfl<|WOL.mv rfl<|WOL.skp (b:=true) rfl rfl<|WOL.skp (b:=true) rfl rfl<|WOL.skp (b:=true) rfl rfl<|WOL.pkt rfl rfl<|WOL.mv rfl<|WOL.skp (b:=true) rfl rfl<|WOL.skp (b:=true) rfl rfl<|WOL.skp (b:=true) rfl rfl<|WOL.pkt rfl rfl<|WOL.mv rfl<|WOL.skp (b:=true) rfl rfl<|WOL.skp (b:=true) rfl rfl<|WOL.skp (b:=true) rfl rfl<|WOL.skp (b:=true) rfl rfl<|WOL.skp (b:=true) rfl rfl<|WOL.skp (b:=true) rfl rfl<|WOL.skp (b:=true) rfl rfl<|WOL.skp (b:=true) rfl rfl<|WOL.skp (b:=true) rfl rfl<|WOL.pkt rfl rfl<|WOL.mv rfl<|WOL.skp (b:=true) rfl rfl<|WOL.skp (b:=true) rfl rfl<|WOL.skp (b:=true) rfl rfl<|WOL.pkt rfl rfl<|WOL.nil<|WL.yes rfl<|WL.sr<|WOL.cl0 rfl ((k11t K _).mono ?_)
  rintro v g ⟨rfl,rfl⟩
  exact WOL.as rfl<|WOL.nil<|WL.ret (WL.end_ rfl rfl)
 obtain ⟨p1,p2,p3,p4⟩:=chord_ok ce
 refine WOL.bf rfl rfl rfl (bne_eq_false_iff_eq.2 ce)<|WOL.mv rfl<|WOL.now (b:=false) rfl rfl<|WOL.fa rfl (qaf fo1112_0)<|WOL.now (b:=false) rfl rfl<|WOL.ld rfl (qaa tp3 A3 rfl)<|WOL.now (b:=false) rfl rfl ?_
 by_cases c1:a > 6
 case pos =>
  refine WOL.bt rfl rfl rfl (decide_eq_true c1)<|WOL.pkf rfl rfl<|WOL.mv rfl<|WOL.skp (b:=true) rfl rfl<|WOL.skp (b:=true) rfl rfl<|WOL.skp (b:=true) rfl rfl<|WOL.pkt rfl rfl<|WOL.mv rfl<|WOL.skp (b:=true) rfl rfl<|WOL.skp (b:=true) rfl rfl<|WOL.skp (b:=true) rfl rfl<|WOL.pkt rfl rfl<|WOL.mv rfl<|WOL.skp (b:=true) rfl rfl<|WOL.skp (b:=true) rfl rfl<|WOL.skp (b:=true) rfl rfl<|WOL.skp (b:=true) rfl rfl<|WOL.skp (b:=true) rfl rfl<|WOL.skp (b:=true) rfl rfl<|WOL.skp (b:=true) rfl rfl<|WOL.skp (b:=true) rfl rfl<|WOL.skp (b:=true) rfl rfl<|WOL.pkt rfl rfl<|WOL.mv rfl<|WOL.skp (b:=true) rfl rfl<|WOL.skp (b:=true) rfl rfl<|WOL.skp (b:=true) rfl rfl<|WOL.pkt rfl rfl<|WOL.nil<|WL.yes rfl<|WL.sr<|WOL.cl0 rfl ((k11t K _).mono ?_)
  rintro v g ⟨rfl,rfl⟩
  exact WOL.as rfl<|WOL.nil<|WL.ret (WL.end_ rfl rfl)
 refine WOL.bf rfl rfl rfl (decide_eq_false c1)<|WOL.pkf rfl rfl<|WOL.mv rfl<|WOL.now (b:=false) rfl rfl<|WOL.fa rfl (qaf fo1112_1)<|WOL.now (b:=false) rfl rfl<|WOL.ld rfl (qaa tp3 A3 rfl)<|WOL.now (b:=false) rfl rfl ?_
 by_cases c2:b > 6
 case pos =>
  refine WOL.bt rfl rfl rfl (decide_eq_true c2)<|WOL.pkf rfl rfl<|WOL.mv rfl<|WOL.skp (b:=true) rfl rfl<|WOL.skp (b:=true) rfl rfl<|WOL.skp (b:=true) rfl rfl<|WOL.pkt rfl rfl<|WOL.mv rfl<|WOL.skp (b:=true) rfl rfl<|WOL.skp (b:=true) rfl rfl<|WOL.skp (b:=true) rfl rfl<|WOL.skp (b:=true) rfl rfl<|WOL.skp (b:=true) rfl rfl<|WOL.skp (b:=true) rfl rfl<|WOL.skp (b:=true) rfl rfl<|WOL.skp (b:=true) rfl rfl<|WOL.skp (b:=true) rfl rfl<|WOL.pkt rfl rfl<|WOL.mv rfl<|WOL.skp (b:=true) rfl rfl<|WOL.skp (b:=true) rfl rfl<|WOL.skp (b:=true) rfl rfl<|WOL.pkt rfl rfl<|WOL.nil<|WL.yes rfl<|WL.sr<|WOL.cl0 rfl ((k11t K _).mono ?_)
  rintro v g ⟨rfl,rfl⟩
  exact WOL.as rfl<|WOL.nil<|WL.ret (WL.end_ rfl rfl)
 refine WOL.bf rfl rfl rfl (decide_eq_false c2)<|WOL.pkf rfl rfl<|WOL.mv rfl<|WOL.now (b:=false) rfl rfl<|WOL.ld rfl (qab tp46 A4 rfl (Nat.le_of_ble_eq_true rfl))<|WOL.now (b:=false) rfl rfl<|WOL.cl2 rfl rfl rfl ((k1165 (s:=s) (n:=n) (es:=es) (L:=L) H (r.hx Y4) hE hLv).mono ?_)
 rintro v h5 ⟨X5,ok,rfl,hok⟩
 have Y5:=Y4.trans X5
 replace A3:=A3.hx X5;replace A4:=A4.hx X5;replace A5:=A5.hx X5
 cases ok with
 | false =>
  refine WOL.now (b:=false) rfl rfl<|WOL.nt rfl<|WOL.pkf rfl rfl<|WOL.mv rfl<|WOL.skp (b:=true) rfl rfl<|WOL.skp (b:=true) rfl rfl<|WOL.skp (b:=true) rfl rfl<|WOL.skp (b:=true) rfl rfl<|WOL.skp (b:=true) rfl rfl<|WOL.skp (b:=true) rfl rfl<|WOL.skp (b:=true) rfl rfl<|WOL.skp (b:=true) rfl rfl<|WOL.skp (b:=true) rfl rfl<|WOL.pkt rfl rfl<|WOL.mv rfl<|WOL.skp (b:=true) rfl rfl<|WOL.skp (b:=true) rfl rfl<|WOL.skp (b:=true) rfl rfl<|WOL.pkt rfl rfl<|WOL.nil<|WL.yes rfl<|WL.sr<|WOL.cl0 rfl ((k11t K _).mono ?_)
  rintro v g ⟨rfl,rfl⟩
  exact WOL.as rfl<|WOL.nil<|WL.ret (WL.end_ rfl rfl)
 | true =>
  obtain ⟨hb,e0,lF,lim⟩:=hok rfl
  have vd:=valid_of hLv e0
  obtain ⟨vb1,vb2⟩:=vd.back
  have ce':=Cel.of vd hE e0
  have lc:=ce'.len
  have rC:RunC s n h5 (.slice b1 F.length k1) (.slice b2 S.length k2) (qbj L S):=⟨F,es,by rw [vb2];exact r.hx Y5,ce'⟩
  have limC:∀ j,((lvC (qbj L S)).getD j 0).natAbs≤6400:=fun j=>by
   rw [show lvC (qbj L S)=L from vb1]
   have:=lim j
   omega
  refine WOL.now (b:=false) rfl rfl<|WOL.nt rfl<|WOL.pkf rfl rfl<|WOL.mv rfl<|WOL.now (b:=false) rfl rfl<|WOL.fa rfl (qaf fo46_2)<|WOL.now (b:=false) rfl rfl<|WOL.ld rfl (qaa tp43 A4 rfl)<|WOL.now (b:=false) rfl rfl<|WOL.len rfl (r.hx Y5).f u43<|WOL.now (b:=false) rfl rfl<|WOL.fa rfl (qaf fo1112_0)<|WOL.now (b:=false) rfl rfl<|WOL.ld rfl (qaa tp3 A3 rfl)<|WOL.now (b:=false) rfl rfl<|WOL.fa rfl (qaf fo1112_1)<|WOL.now (b:=false) rfl rfl<|WOL.ld rfl (qaa tp3 A3 rfl)<|WOL.now (b:=false) rfl rfl<|WOL.add (m:=a) (n:=b) rfl rfl (by omega) (by omega)<|WOL.now (b:=false) rfl rfl ?_
  by_cases c3:(F.length:Int)≤a+b
  case pos =>
   refine WOL.bt rfl rfl rfl (decide_eq_true c3)<|WOL.pkf rfl rfl<|WOL.mv rfl<|WOL.skp (b:=true) rfl rfl<|WOL.skp (b:=true) rfl rfl<|WOL.skp (b:=true) rfl rfl<|WOL.pkt rfl rfl<|WOL.nil<|WL.yes rfl<|WL.sr<|WOL.cl0 rfl ((k11t K _).mono ?_)
   rintro v g ⟨rfl,rfl⟩
   exact WOL.as rfl<|WOL.nil<|WL.ret (WL.end_ rfl rfl)
  refine WOL.bf rfl rfl rfl (decide_eq_false c3)<|WOL.pkf rfl rfl<|WOL.mv rfl<|WOL.now (b:=false) rfl rfl<|WOL.fa rfl (qaf fo46_1)<|WOL.now (b:=false) rfl rfl<|WOL.ld rfl (qaa tp3 A4 rfl)<|WOL.now (b:=false) rfl rfl ?_
  by_cases c4:n > 1000000
  case pos =>
   refine WOL.bt rfl rfl rfl (decide_eq_true c4)<|WOL.pkf rfl rfl<|WOL.nil<|WL.yes rfl<|WL.sr<|WOL.cl0 rfl ((k11t K _).mono ?_)
   rintro v g ⟨rfl,rfl⟩
   exact WOL.as rfl<|WOL.nil<|WL.ret (WL.end_ rfl rfl)
  refine WOL.bf rfl rfl rfl (decide_eq_false c4)<|WOL.pkf rfl rfl<|WOL.nil<|WL.no rfl<|WL.skip ?_
  obtain ⟨p,rfl⟩:∃ p:Nat,a=p:=⟨a.toNat,by omega⟩
  obtain ⟨q,rfl⟩:∃ q:Nat,b=q:=⟨b.toNat,by omega⟩
  obtain ⟨M,hM⟩:∃ M,M+(p+q)=(qbj L S).length:=⟨(qbj L S).length - (p+q),by omega⟩
  exact kto (k1110t H X K Y5 f A3 A4 A5 rC hx hy hz hw (by omega) (by omega) (by omega) (by omega) hM (by omega) (by omega) limC) ⟨rfl,rfl,rfl,trivial⟩
end
set_option maxRecDepth 100000 in
theorem law1110:Law tpE 7 5 [23,88,68]:=by
 intro h us f ha
 obtain ⟨x0,x1,x2,rfl,⟨p0,y0,e0⟩,⟨p1,y1,e1⟩,⟨p2,y2,e2⟩⟩:=args3 ha
 have q0:=tyg_struct Tryz.underlying23 y0
 have q2:=tyg_array Tryz.underlying68 y2
 rw [val_agg (.inl ⟨_,Tryz.underlying23⟩)] at e0
 rw [val_agg (.inl ⟨_,Tryz.underlying88⟩)] at e1
 rw [val_agg (.inr ⟨_,_,Tryz.underlying68⟩)] at e2
 obtain ⟨c0,d0,rfl,_,t0,c1,d1,rfl,_,t1,rfl⟩:=q0
 obtain ⟨a,rfl,_⟩:=ty_int t0
 obtain ⟨b,rfl,_⟩:=ty_int t1
 obtain ⟨s,n1,v1,v2,F,S,rfl,r1⟩:=ty_run (n:=1) y1
 obtain ⟨c4,d4,rfl,_,t4,c5,d5,rfl,_,t5,c6,d6,rfl,_,t6,c7,d7,rfl,_,t7,rfl⟩:=q2
 obtain ⟨x,rfl,hx⟩:=tyg_int u91v t4
 obtain ⟨y,rfl,hy⟩:=tyg_int u91v t5
 obtain ⟨z,rfl,hz⟩:=tyg_int u91v t6
 obtain ⟨w,rfl,hw⟩:=tyg_int u91v t7
 subst e0 e1 e2
 exact k1110 hasE hasXE awkE r1 (i8_inT hx) (i8_inT hy) (i8_inT hz) (i8_inT hw) f
end Go.Tidy
