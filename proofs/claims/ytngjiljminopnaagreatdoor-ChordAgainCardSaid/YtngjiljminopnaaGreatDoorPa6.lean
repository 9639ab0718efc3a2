/- A part of the proof. -/
import Derived.Test.YtngjiljminopnaaGreatDoorPa5
import Derived.Test.YtngjiljminopnaaGreatDoorPa4
import Derived.Test.YtngjiljminopnaaGreatDoorPa2
set_option linter.all false
namespace Go.Tidy
open Go Go.Proofs Tab
variable {tp:TProg}
theorem tapV_get {L:List Int} {S:List (Int × Int)} {T:List (Nat × Int)} {m j:Nat} (h:j < m):(valC (tapC L S T m)).getD j 0 = cond (tapK S j T) (tapN L j T 0) 0:=by
 unfold valC
 rw [List.getD_eq_getElem?_getD,List.getElem?_map,tapC_get h];rfl
theorem tapM_get {L:List Int} {S:List (Int × Int)} {T:List (Nat × Int)} {m j:Nat} (h:j < m):((tapC L S T m).map fun c => c.2).getD j false = tapK S j T:=by
 rw [List.getD_eq_getElem?_getD,List.getElem?_map,tapC_get h];rfl
structure Taps (T:List (Nat × Int)) (W:Nat):Prop where
 a:∃ y,T[0]? = some (0,y)
 z:∃ y,T[T.length - 1]? = some (W,y)
 o:∀ t,t ∈ T → t.1 ≤ W
 w:∀ t,t ∈ T → -10000 ≤ t.2 ∧ t.2 ≤ 10000
 l:T.length ≤ 1000
section
variable {h:TH} {n:Int} {v1 v2:Value} {L:List Int} {S:List (Int × Int)} {T:List (Nat × Int)} {W:Nat} {c:Int} {w:Value}
set_option maxHeartbeats 4000000 in
set_option maxRecDepth 10000 in
theorem k1193 (H:Has tp) (r:TrcH h v1 v2 L S) (s:SlL encS 2 h w (tapD c T)) (ts:Taps T W) (lim:∀ j,-1073741824 ≤ L.getD j 0 ∧ L.getD j 0 ≤ 1073741824) (n0:0 ≤ n) (n1:n ≤ 100000000) (nc:0 ≤ n - c) (c1:-1000000 ≤ c) (c2:c ≤ 1000000) (l1:L.length ≤ 900000) (t1:S.length ≤ 1000000) (i1:In L.length S) (hW:W ≤ 1000000) (f:Free0 h.next h) :
  CallW Tryz.prog tp (.func (.func 79) #[] #[]) #[trcV n v1 v2,w] h fun v h' => HX h h' ∧ ProgR (n - c) (cond (decide (L.length ≤ W)) 16 0) (tapC L S T (L.length - W)) h.next h' v:=by
 refine CallW.fnL (H.fn 79 f1193 rfl rfl) ?_
 obtain ⟨b1,k1,e1,_⟩:=id r.l
 obtain ⟨b2,k2,e2,_⟩:=id r.s
 obtain ⟨b3,k3,e3,_⟩:=id s
 subst e1 e2 e3
 have lD:(tapD c T).length = T.length:=by unfold tapD;rw [List.length_map]
 refine WL.sr <| WOL.box rfl fun h1 N1 => WOL.box rfl fun h2 N2 => WOL.al tp1117 fun h3 N3 => WOL.as rfl <| WOL.nil <| keep [(2,_),(3,_),(4,_)] ⟨rfl,rfl,rfl,trivial⟩ ?_
 have q1:=N1.next
 have q2:=N2.next
 have q3:=N3.next
 have A2:At h3 h.next (.cells [zi n,.slice b1 L.length k1,.slice b2 S.length k2] true true 55):=(N1.at_.hx N2.hx).hx N3.hx
 have A3:At h3 h1.next (.cells [.slice b3 (tapD c T).length k3] true true 139):=N2.at_.hx N3.hx
 have A4:=N3.at_
 have X3:=(N1.hx.trans N2.hx).trans N3.hx
 have s3:=s.hx X3
 have r3:=r.hx X3
 obtain ⟨ya,ta⟩:=ts.a
 obtain ⟨yz,tz⟩:=ts.z
 have lT:0 < T.length:=(List.getElem?_eq_some_iff.1 ta).1
 have d0:(tapD c T)[0]? = some (c,ya):=by
  unfold tapD
  rw [List.getElem?_map,ta]
  show some (((0:Nat):Int) + c,ya) = _
  rw [show ((0:Nat):Int) + c = c by omega]
 have dz:(tapD c T)[T.length - 1]? = some ((W:Int) + c,yz):=by unfold tapD;rw [List.getElem?_map,tz];rfl
 obtain ⟨_,_,ca,fix,wr,el,g1,g2,g3,g4,g5⟩:=s3.at eS u1214 tp1242 d0 .i64
 obtain ⟨_,_,cz,fix',wr',el',y1,y2,y3,y4,y5⟩:=s3.at eS u1214 tp1242 dz .i64
 have ga:=g5 0 (by decide)
 have gz:=y5 0 (by decide)
 rw [Nat.add_zero] at ga gz
 replace ga:ca[_]? = some (zi c):=ga
 replace gz:cz[_]? = some (zi ((W:Int) + c)):=gz
 refine WL.sr <| WOL.ld rfl (load_one tp1214 A3 rfl) <| WOL.ix rfl rfl g1 <| WOL.fa rfl (fa_of fo1242_0) <| WOL.ld rfl (load_one tp3 g2 ga) <| WOL.ld rfl (load_one tp1214 A3 rfl) <| WOL.ld rfl (load_one tp1214 A3 rfl) <| WOL.len rfl s3 u1214 <| WOL.sub (m:=(((tapD c T).length:Nat):Int)) (n:=1) rfl rfl (by rw [lD];omega) (by rw [lD];have:=ts.l;omega) ?_
 rw [show (((tapD c T).length:Nat):Int) - 1 = ((T.length - 1:Nat):Int) by rw [lD];omega]
 refine WOL.ix rfl rfl y1 <| WOL.fa rfl (fa_of fo1242_0) <| WOL.ld rfl (load_one tp3 y2 gz) <| WOL.as rfl <| WOL.as rfl <| WOL.nil <| keep [(2,_),(3,_),(4,_),(6,_),(7,_)] ⟨rfl,rfl,rfl,rfl,rfl,trivial⟩ ?_
 clear g1 g2 g3 g4 g5 y1 y2 y3 y4 y5 ga gz
 refine WL.sr <| WOL.fa rfl (fa_of fo1117_1) <| WOL.ld rfl (load_one tp29 A2 rfl) <| WOL.len rfl r3.l u29 <| WOL.mv rfl <| WOL.mv rfl <| WOL.sub (m:=(W:Int) + c) (n:=c) rfl rfl (by omega) (by omega) <| WOL.sub (m:=((L.length:Nat):Int)) (n:=(W:Int) + c - c) rfl rfl (by omega) (by omega) <| WOL.as rfl <| WOL.nil <| keep [(2,_),(3,_),(4,_),(6,_),(8,_)] ⟨rfl,rfl,rfl,rfl,rfl,trivial⟩ ?_
 rw [show ((L.length:Nat):Int) - ((W:Int) + c - c) = (L.length:Int) - W by omega]
 have F0:∀ {g:TH},HX h g → Free0 g.next g:=fun X => f.on X
 by_cases hc:L.length ≤ W
 ·rw [decide_eq_true hc]
  refine WL.seq <| WL.sr <| WOL.mv rfl <| WOL.bt rfl rfl rfl (by first | exact decide_eq_true (by omega) | exact beq_iff_eq.2 (by omega) | exact bne_iff_ne.2 (by omega)) <| WOL.nil <| WL.yes rfl <| WL.sr <| WOL.bd rfl bd1117z <| WOL.sto (vs:=[zi 0,.slice none 0 0,.slice none 0 0]) rfl rfl tp1117 A4 rfl rfl (Nat.le_of_ble_eq_true rfl) rfl (f.hx X3) (by omega) fun i1 M1 => WOL.as rfl <| WOL.nil ?_
  exact WL.ret (WL.endC1 rfl rfl (load_row tp1117 M1.at_ rfl (Nat.le_of_ble_eq_true rfl)) ⟨M1.hx _ X3 (by omega),.inl ⟨by decide,rfl⟩⟩)
 rw [decide_eq_false hc]
 refine WL.seq <| WL.sr <| WOL.mv rfl <| WOL.bf rfl rfl rfl (by first | exact decide_eq_false (by omega) | exact beq_eq_false_iff_ne.2 (by omega) | exact bne_eq_false_iff_eq.2 (by omega)) <| WOL.nil <| WL.no rfl <| WL.skip ?_
 rw [show (L.length:Int) - W = ((L.length - W:Nat):Int) by omega]
 have hmW:L.length - W + W = L.length:=by omega
 generalize L.length - W = m at *
 refine keep [(2,_),(3,_),(4,_),(6,_),(8,_)] ⟨rfl,rfl,rfl,rfl,rfl,trivial⟩ ?_
 refine WL.sr <| WOL.ld rfl (load_row tp1117 A2 rfl (Nat.le_of_ble_eq_true rfl)) <| WOL.fa rfl (fa_of fo1117_0) <| WOL.ld rfl (load_one tp3 A2 rfl) <| WOL.mv rfl <| WOL.sub (m:=n) (n:=c) rfl rfl (by omega) (by omega) <| WOL.mv rfl <| WOL.al tp1194 fun h4 N4 => WOL.al tp1194 fun h5 N5 => ?_
 have q4:=N4.next
 have q5:=N5.next
 have X5:=(X3.trans N4.hx).trans N5.hx
 refine WOL.lq1 [h4.next,h3.next,h.next] rfl rfl rfl fun M hM => ((k1177 H ((r.hx X5).relock M) (by omega) t1 i1 ((F0 X5).held hM (fun b hb => by simp at hb;omega))).mono ?_)
 rintro v h6 ⟨X6,p1,p2,rfl,a1,a2,R1⟩
 replace X6:=X6.relock
 replace R1:RowA (h6.withLock h5.lock) p1 p2 L (knownL S L.length):=⟨R1.v.relock _,R1.k.relock _,R1.e,R1.n⟩
 replace a1:h5.next ≤ p1:=a1
 replace a2:h5.next ≤ p2:=a2
 generalize h6.withLock h5.lock = h6 at *
 have Y6:=X5.trans X6
 have q6:=X6.next
 have l11:=R1.v.lt
 have l12:=R1.k.lt
 refine WOL.lq2 [h4.next,h3.next] rfl rfl rfl rfl fun M hM => ((k1178 (h:=h6.withLock M) (n:=n - c) (m:=m) H (by omega) ((F0 Y6).held hM (fun b hb => by simp at hb;omega))).mono ?_)
 rintro v h7 ⟨X7,bv,bk,rfl,a3,a4,R2⟩
 replace X7:=X7.relock
 replace R2:RowA (h7.withLock h6.lock) bv bk (List.replicate m 0) (List.replicate m false):=⟨R2.v.relock _,R2.k.relock _,R2.e,R2.n⟩
 replace a3:h6.next ≤ bv:=a3
 replace a4:h6.next ≤ bk:=a4
 generalize h7.withLock h6.lock = h7 at *
 have Y7:=Y6.trans X7
 have q7:=X7.next
 have l21:=R2.v.lt
 have l22:=R2.k.lt
 have Z:=X6.trans X7
 refine WOL.sto (vs:=[zi n,slA p1 L.length,.slice none 0 0,slA p2 L.length]) rfl rfl tp1194 ((N4.at_.hx N5.hx).hx Z) rfl rfl (Nat.le_of_ble_eq_true rfl) rfl (f.hx Y7) (by omega) fun h8 P8 => ?_
 have q8:=P8.next
 have Y8:HX h h8:=P8.hx _ Y7 (by omega)
 refine WOL.sto (vs:=[zi (n - c),slA bv m,.slice none 0 0,slA bk m]) rfl rfl tp1194 (P8.oth _ _ (by omega) (N5.at_.hx Z)) rfl rfl (Nat.le_of_ble_eq_true rfl) rfl (f.hx Y8) (by omega) fun h9 P9 => WOL.nil <| keep [(3,_),(4,_),(9,_),(10,_)] ⟨rfl,rfl,rfl,rfl,trivial⟩ ?_
 have q9:=P9.next
 have Y9:HX h h9:=P9.hx _ Y8 (by omega)
 have O9:∀ b y,b ≠ h3.next → b ≠ h4.next → At h7 b y → At h9 b y:=fun b y e1 e2 a => P9.oth _ _ e2 (P8.oth _ _ e1 a)
 have B9:=P9.oth _ _ (by omega) P8.at_
 have B10:=P9.at_
 have B4:=O9 _ _ (by omega) (by omega) (((A4.hx N4.hx).hx N5.hx).hx Z)
 have B3:=O9 _ _ (by omega) (by omega) (((A3.hx N4.hx).hx N5.hx).hx Z)
 have C1:RowA h9 p1 p2 L (knownL S L.length):=⟨O9 _ _ (by omega) (by omega) (R1.v.hx X7),O9 _ _ (by omega) (by omega) (R1.k.hx X7),R1.e,R1.n⟩
 have C2:RowA h9 bv bk (List.replicate m 0) (List.replicate m false):=⟨O9 _ _ (by omega) (by omega) R2.v,O9 _ _ (by omega) (by omega) R2.k,R2.e,R2.n⟩
 have lb4:=B4.lt
 have lb3:=B3.lt
 refine WL.seq <| WL.sr <| WOL.fa rfl (fa_of fo1194_0) <| WOL.ld rfl (load_row tp1117 B10 (l:=[zi (n - c),slA bv m,.slice none 0 0]) rfl (Nat.le_of_ble_eq_true rfl)) <| WOL.cl1 rfl rfl ((k1179 H h9).mono ?_)
 rintro v h10 ⟨cc,rfl,X10,Ac,ac⟩
 have q10:=X10.next
 have lc:=Ac.lt
 have Y10:=Y9.trans X10
 replace B3:=B3.hx X10;replace B4:=B4.hx X10;replace B9:=B9.hx X10;replace B10:=B10.hx X10;replace C1:=C1.hx X10;replace C2:=C2.hx X10
 refine WOL.nil <| keep [(3,_),(4,_),(9,_),(10,_),(45,_)] ⟨rfl,rfl,rfl,rfl,rfl,trivial⟩ ?_
 rw [← upTo_zero (C:=valC (tapC L S T m)),← upTo_zero (C:=(tapC L S T m).map fun c => c.2)] at C2
 have lC:(tapC L S T m).length = m:=tapC_len
 refine WL.block <| WL.range rfl (H.fn 164 f1224 rfl rfl) (y1224 (v1:=slA bv m) (v2:=.slice none 0 0) H nc (by omega) (m:=m) (by omega)) (fun j g => HX h g ∧ h10.next ≤ g.next ∧ At g h1.next (.cells [.slice b3 (tapD c T).length k3] true true 139) ∧ At g h2.next (.cells [zi 0,.slice none 0 0,.slice none 0 0] true true 55) ∧ At g h3.next (.cells [zi n,slA p1 L.length,.slice none 0 0,slA p2 L.length] true true 148) ∧ At g h4.next (.cells [zi (n - c),slA bv m,.slice none 0 0,slA bk m] true true 148) ∧ RowA g p1 p2 L (knownL S L.length) ∧ RowA g bv bk (upTo 0 (valC (tapC L S T m)) m j) (upTo false ((tapC L S T m).map fun c => c.2) m j) ∧ At g cc (.cells [zi (n - c),slA bv m,.slice none 0 0] true true 55)) (fun j g q => ⟨q.2.2.2.2.2.2.2.2,_,upTo_len,by have:=q.2.2.2.2.2.2.2.1.sv;rwa [upTo_len] at this⟩) (fun j g q => (f.hx q.1).up (by omega)) ?_ ?_ ?_ ?_
 ·rintro j g g' x ⟨x1,x2,x3,x4,x5,x6,x7,x8,x9⟩ P
  have o:∀ b y,b < h10.next → At g b y → At g' b y:=fun b y hb a => P.oth _ _ (by omega) a
  exact ⟨P.hx _ x1 (by omega),by rw [P.next];exact x2,o _ _ (by omega) x3,o _ _ (by omega) x4,o _ _ (by omega) x5,o _ _ (by omega) x6,⟨o _ _ (by omega) x7.v,o _ _ (by omega) x7.k,x7.e,x7.n⟩,⟨o _ _ (by omega) x8.v,o _ _ (by omega) x8.k,x8.e,x8.n⟩,o _ _ (by omega) x9⟩
 ·rintro g x N
  have:=N.next
  exact ⟨Y10.trans N.hx,by omega,B3.hx N.hx,B4.hx N.hx,B9.hx N.hx,B10.hx N.hx,C1.hx N.hx,C2.hx N.hx,Ac.hx N.hx⟩
 ·rintro j g x hj _ A
  refine WL.reg <| WOL.as rfl <| WOL.nil ?_
  intro r' hr
  refine ⟨rfl,rfl,fun g2 xx ⟨x1,x2,x3,x4,x5,x6,x7,x8,x9⟩ A2 => ?_⟩
  refine hr.go ?_
  have hk:=tapB_known (S:=S) (m:=L.length) (i:=j) (T:=T) (fun t ht => by have:=ts.o t ht;omega)
  refine WL.block <| WL.sr <| WOL.ld rfl (load_row tp1194 x5 rfl (Nat.le_of_ble_eq_true rfl)) <| WOL.mv rfl <| WOL.ld rfl (load_one tp1214 x3 rfl) <| WOL.cl3 rfl rfl rfl rfl ((k1226 (n:=n) (i:=j) (p:=n - c + (j:Nat)) H x7 (s.hx x1) (by omega) (fun t ht => by have:=ts.o t ht;omega) ts.w ts.l lim n0 (by omega) (by omega) c1 c2 (f.on x1)).mono ?_)
  rintro u g3 ⟨rfl,X3⟩
  rw [hk]
  have hV:=tapV_get (L:=L) (S:=S) (T:=T) hj
  have hM:=tapM_get (L:=L) (S:=S) (T:=T) hj
  have xs:=X3.next
  refine WOL.mv rfl <| WOL.ex rfl rfl <| WOL.ex rfl rfl <| WOL.as rfl <| WOL.as rfl <| WOL.nil <| keep [(10,_),(11,_),(12,_),(13,_)] ⟨rfl,rfl,rfl,rfl,trivial⟩ ?_
  cases hb:tapK S j T with
  | false =>
   rw [hb] at hV hM
   refine WL.sr <| WOL.mv rfl <| WOL.nil <| WL.no rfl <| WL.skip fun r k => ⟨rfl,⟨x1.trans X3,by omega,x3.hx X3,x4.hx X3,x5.hx X3,x6.hx X3,x7.hx X3,?_,x9.hx X3⟩,A2.hx X3⟩
   rw [upTo_same hV,upTo_same hM]
   exact x8.hx X3
  | true =>
   rw [hb] at hV hM
   replace hV:(valC (tapC L S T m)).getD j 0 = tapN L j T 0:=hV
   have k:=k1181 (n:=n - c) (x:=tapN L j T 0) H (x8.hx X3) (i:=j) (by rw [upTo_len];exact hj) nc (by omega) (by rw [upTo_len];omega) (m:=h.next) (f.hx (x1.trans X3)) (by omega) (by omega)
   rw [upTo_len] at k
   refine WL.sr <| WOL.mv rfl <| WOL.nil <| WL.yes rfl <| WL.reg <| WOL.ld rfl (load_row tp1194 (x6.hx X3) rfl (Nat.le_of_ble_eq_true rfl)) <| WOL.mv rfl <| WOL.mv rfl <| WOL.cl3 rfl rfl rfl rfl (k.mono ?_)
   rintro u g5 ⟨z5,ra,o5,n5⟩
   refine WOL.nil fun r k => ⟨rfl,⟨z5 _ (x1.trans X3) (by omega) (by omega),by omega,o5 _ _ (by omega) (by omega) (x3.hx X3),o5 _ _ (by omega) (by omega) (x4.hx X3),o5 _ _ (by omega) (by omega) (x5.hx X3),o5 _ _ (by omega) (by omega) (x6.hx X3),⟨o5 _ _ (by omega) (by omega) (x7.v.hx X3),o5 _ _ (by omega) (by omega) (x7.k.hx X3),x7.e,x7.n⟩,?_,o5 _ _ (by omega) (by omega) (x9.hx X3)⟩,o5 _ _ (by omega) (by omega) (A2.hx X3)⟩
   rw [upTo_set,upTo_set,hV,hM]
   exact ra
 ·rintro g ⟨x1,x2,x3,x4,x5,x6,x7,x8,x9⟩
  rw [upTo_all (by unfold valC;rw [List.length_map];exact lC),upTo_all (by rw [List.length_map];exact lC)] at x8
  have lv:(valC (tapC L S T m)).length = m:=by unfold valC;rw [List.length_map];exact lC
  refine WL.sr <| WOL.ld rfl (load_row tp1194 x6 rfl (Nat.le_of_ble_eq_true rfl)) ?_
  have k:=k1182 (n:=n - c) H x8 (by omega) (f.on x1)
  rw [lv,← bigC_val] at k
  refine WOL.cl1 rfl rfl (k.mono ?_)
  rintro v g1 ⟨X,R⟩
  have xg:=(x1.trans X).next
  have xx:=X.next
  rcases R with ⟨hb,rfl⟩ | ⟨hb,w,rfl,to⟩
  ·refine WOL.ex rfl rfl <| WOL.ex rfl rfl <| WOL.sto (vs:=[zi 0,.slice none 0 0,.slice none 0 0]) rfl rfl tp1117 (x4.hx X) rfl rfl (Nat.le_of_ble_eq_true rfl) rfl (f.hx (x1.trans X)) (by omega) fun i1 M1 => WOL.as rfl <| WOL.nil ?_
   exact WL.ret (WL.endC1 rfl rfl (load_row tp1117 M1.at_ rfl (Nat.le_of_ble_eq_true rfl)) ⟨M1.hx _ (x1.trans X) (by omega),.inr (.inl ⟨rfl,hb,rfl⟩)⟩)
  ·obtain ⟨b2,m2,k2,rfl⟩:=to.form
   refine WOL.ex rfl rfl <| WOL.ex rfl rfl <| WOL.sto (vs:=[zi (n - c),slA bv m,.slice b2 m2 k2]) rfl rfl tp1117 (x4.hx X) rfl rfl (Nat.le_of_ble_eq_true rfl) rfl (f.hx (x1.trans X)) (by omega) fun i1 M1 => WOL.as rfl <| WOL.nil ?_
   refine WL.ret (WL.endC1 rfl rfl (load_row tp1117 M1.at_ rfl (Nat.le_of_ble_eq_true rfl)) ⟨M1.hx _ (x1.trans X) (by omega),.inr (.inr ⟨rfl,hb,bv,_,by rw [lC];rfl,by omega,(to.put M1 (by omega) (by omega)).low (by omega)⟩)⟩)
end
end Go.Tidy
namespace Go.Tidy
open Go Go.Proofs Tab
variable {tp:TProg}
section
variable {h:TH} {l:List Nat} {bo:Option Addr} {n k:Nat}
end
section
variable {h:TH} {K:Regs → TH → Prop} {rest:List TOper} {d:Option Tmp} {ty:TypeId} {i:Nat} {x:Operand} {L:Rg} {v:Value} {m:List Nat}
end
section
variable {hb h g g2 g':TH} {n b o cap c4 c2 c3 nB:Nat} {cur cur':Cu} {s s':ByteArray} {fi fi':Int} {w1 w2 w':Value} {F F':List Nat} {S S':List (Int × Int)}
theorem Put.relock {M:List Nat} {x:TB} {c:Nat} {h1:TH} (p:Put (h.withLock M) h1 c x):Put h (h1.withLock h.lock) c x :=
 ⟨p.at_.relock _,fun z y hz a => (p.oth z y hz (a.relock M)).relock _,p.next,p.floor,rfl,fun h0 y hb => by rw [y.lock];exact (p.hx _ (y.locked M) hb).relock⟩
end
end Go.Tidy
namespace Go.Tidy
open Go Go.Proofs Tab
variable {tp:TProg}
section
variable (l:List Nat) (c:Cu)
end
section
variable {h g:TH} {l:List Nat} {b o cap:Nat}
theorem Stm.relock (s:Stm h b o cap l) (M:List Nat):Stm (h.withLock M) b o cap l:=⟨by
 obtain ⟨cc,fix,wr,el,a,r⟩:=s.ex
 exact ⟨cc,fix,wr,el,a.relock M,r⟩,s.cap⟩
end
section
variable {hb h:TH} {l:List Nat} {b o cap c4:Nat} {c:Cu}
end
end Go.Tidy
namespace Go.Tidy
open Go Go.Proofs Tab
variable {tp:TProg}
section
variable {P:Program} {h:TH} {K:Regs → TH → Prop} {rest:List TOper} {d:Option Tmp} {ty:TypeId} {i:Nat} {x y:Operand} {t u:TypeId} {L:Rg} {s s':ByteArray}
end
section
variable (l:List Nat)
end
theorem RunH.relock {h:TH} {v1 v2:Value} {F:List Nat} {S:List (Int × Int)} (r:RunH h v1 v2 F S) (M:List Nat):RunH (h.withLock M) v1 v2 F S:=⟨r.f.relock M,r.s.relock M,r.g.relock M⟩
section
variable {h:TH} {l:List Nat} {b o n cap:Nat} {es L:List Int}
end
end Go.Tidy
namespace Go.Tidy
open Go Go.Proofs Tab
variable {tp:TProg}
section
variable {P:Program} {h:TH} {K:Regs → TH → Prop} {rest:List TOper} {d:Option Tmp} {ty:TypeId} {i:Nat} {x y:Operand} {t u:TypeId} {L:Rg}
end
structure RrU (h g:TH) (c2 c7 nB:Nat) (s:ByteArray) (fi:Int) (w1 w2:Value) (F:List Nat) (S:List (Int × Int)):Prop where
 x:HX h g
 nx:nB ≤ g.next
 a2:At g c2 (.cells [.string ⟨#[]⟩,zi 0,.slice none 0 0,.slice none 0 0] true true 88)
 a7:At g c7 (.cells [.string s,zi fi,w1,w2] true true 88)
 o1:OwnL encF nB g w1 90 F
 o2:OwnL encS nB g w2 77 S
 ne:∀ x,bl w1 = some x → bl w2 ≠ some x
section
variable {h g g2 g':TH} {c2 c7 nB:Nat} {s:ByteArray} {fi:Int} {w1 w2 w':Value} {F F':List Nat} {S S':List (Int × Int)}
theorem RrU.hx (q:RrU h g c2 c7 nB s fi w1 w2 F S) (x:HX g g'):RrU h g' c2 c7 nB s fi w1 w2 F S:=⟨q.x.trans x,Nat.le_trans q.nx x.next,q.a2.hx x,q.a7.hx x,q.o1.hx x,q.o2.hx x,q.ne⟩
end
end Go.Tidy
namespace Go.Tidy
open Go Go.Proofs Tab
variable {tp:TProg}
theorem zipK_get {L:List Int} {S:List (Int × Int)} {m q:Nat} (h:q < m):(zipK L S m)[q]? = some (L.getD q 0,knownB S (q:Nat)):=by
 unfold zipK
 rw [tbl_get,if_pos h]
section
variable {h:TH} {n:Int} {v1 v2:Value} {L:List Int} {S:List (Int × Int)} {w:Value} {Wt:List Int} {b a st:Nat}
end
end Go.Tidy
namespace Go.Tidy
open Go Go.Proofs Tab
variable {tp:TProg}
def vTn (p q:Nat):List (Nat × Int):=[(0,-(q:Int)),(p,(p:Int) + q),(p + q,-(p:Int))]
def errV (E:Int) (m w:Nat):Int:=if E ≠ 0 then E else cond (decide (m ≤ w)) 16 0
theorem errV_ok {m w:Nat}:errV 0 m w = cond (decide (m ≤ w)) 16 0:=by unfold errV;rw [if_neg (by decide)]
theorem errV_no {E:Int} {m w:Nat} (h:E ≠ 0):errV E m w = E:=by unfold errV;rw [if_pos h]
theorem chord_ok {a b:Int} (h:chordE a b = 0):1 ≤ a ∧ a ≤ 32 ∧ 1 ≤ b ∧ b ≤ 32:=by
 have all:=firstNZ_zero h
 have h1:=all (outB a 1 32) (by simp)
 have h2:=all (outB b 1 32) (by simp)
 have o:∀ x:Int,outB x 1 32 = 0 → 1 ≤ x ∧ x ≤ 32:=fun x hx => by
  unfold outB at hx
  by_cases c1:x < 1
  ·rw [decide_eq_true c1] at hx;cases hx
  ·by_cases c2:32 < x
   ·rw [decide_eq_false c1,decide_eq_true c2] at hx;cases hx
   ·omega
 exact ⟨(o _ h1).1,(o _ h1).2,(o _ h2).1,(o _ h2).2⟩
theorem vTaps {p q:Nat} (hp:1 ≤ p) (hp':p ≤ 32) (hq:1 ≤ q) (hq':q ≤ 32):Taps (vTn p q) (p + q):=⟨⟨_,rfl⟩,⟨_,rfl⟩,fun t ht => by
 unfold vTn at ht
 simp only [List.mem_cons,List.not_mem_nil,or_false] at ht
 rcases ht with rfl | rfl | rfl
 ·exact Nat.zero_le _
 ·exact Nat.le_add_right _ _
 ·exact Nat.le_refl _,fun t ht => by
 unfold vTn at ht
 simp only [List.mem_cons,List.not_mem_nil,or_false] at ht
 rcases ht with rfl | rfl | rfl
 ·show -10000 ≤ -(q:Int) ∧ -(q:Int) ≤ 10000;omega
 ·show -10000 ≤ (p:Int) + q ∧ (p:Int) + q ≤ 10000;omega
 ·show -10000 ≤ -(p:Int) ∧ -(p:Int) ≤ 10000;omega,by show 3 ≤ 1000;decide⟩
theorem vTapD {p q:Nat}:tapD (-(p:Int)) (vTn p q) = [(-(p:Int),-(q:Int)),(0,(p:Int) + q),((q:Int),-(p:Int))]:=by
 unfold tapD vTn
 simp only [List.map_cons,List.map_nil]
 rw [show ((0:Nat):Int) + -(p:Int) = -(p:Int) by omega,show ((p:Nat):Int) + -(p:Int) = 0 by omega,show ((p + q:Nat):Int) + -(p:Int) = q by omega]
section
variable {h:TH} {n a b:Int} {v1 v2:Value} {L:List Int} {S:List (Int × Int)}
set_option maxHeartbeats 2000000 in
set_option maxRecDepth 10000 in
theorem k1125 (H:Has tp) (r:TrcH h v1 v2 L S) (l1:L.length ≤ 900000) (t1:S.length ≤ 900000) (f:Free0 h.next h) :
  CallW Tryz.prog tp (.func (.func 33) #[] #[]) #[.agg #[zi a,zi b],trcV n v1 v2] h fun v h' => HX h h' ∧ ProgR (n + a) (errV (firstNZ [chordE a b,traceE n L S]) L.length (a.toNat + b.toNat)) (tapC L S (vTn a.toNat b.toNat) (L.length - (a.toNat + b.toNat))) h.next h' v:=by
 refine CallW.fnL (H.fn 33 f1125 rfl rfl) ?_
 obtain ⟨b1,k1,e1,_⟩:=id r.l
 obtain ⟨b2,k2,e2,_⟩:=id r.s
 subst e1 e2
 refine WL.sr <| WOL.box rfl fun h1 N1 => WOL.box rfl fun h2 N2 => WOL.al tp1117 fun h3 N3 => WOL.as rfl <| WOL.nil <| keep [(2,_),(3,_),(4,_)] ⟨rfl,rfl,rfl,trivial⟩ ?_
 have q1:=N1.next
 have q2:=N2.next
 have q3:=N3.next
 have A2:At h3 h.next (.cells [zi a,zi b] true true 31):=(N1.at_.hx N2.hx).hx N3.hx
 have A3:At h3 h1.next (.cells [zi n,.slice b1 L.length k1,.slice b2 S.length k2] true true 55):=N2.at_.hx N3.hx
 have A4:=N3.at_
 have X3:=(N1.hx.trans N2.hx).trans N3.hx
 refine WL.seq <| WL.sr <| WOL.ld rfl (load_row tp1128 A2 rfl (Nat.le_of_ble_eq_true rfl)) <| WOL.ld rfl (load_row tp1117 A3 rfl (Nat.le_of_ble_eq_true rfl)) ?_
 refine WOL.lk1 rfl rfl fun M => ((k1121 H a b _).mono ?_)
 rintro v h4 ⟨rfl,X4⟩
 replace X4:=X4.relock
 generalize h4.withLock h3.lock = h4 at *
 refine WOL.cl1 rfl rfl ((k1123 (n:=n) H (r.hx (X3.trans X4)) (by omega) (by omega) (f.on (X3.trans X4))).mono ?_)
 rintro v h5 ⟨rfl,X5⟩
 refine WOL.bsl rfl u166 tp30 (by decide) (by decide) (by decide) (filled_ints _ _) fun h6 N6 => WOL.cl1 rfl rfl ((k71 H (l:=[_,_]) N6.at_.get (by simp)).mono ?_)
 rintro v h6 ⟨rfl,rfl⟩
 have Z:=(X4.trans X5).trans N6.hx
 have Y:=X3.trans Z
 replace A2:=A2.hx Z;replace A3:=A3.hx Z;replace A4:=A4.hx Z
 have yn:=Y.next
 refine WOL.as rfl <| WOL.nil <| keep [(2,_),(3,_),(4,_),(6,_)] ⟨rfl,rfl,rfl,rfl,trivial⟩ ?_
 generalize hE:firstNZ [chordE a b,traceE n L S] = E
 by_cases e0:E ≠ 0
 ·rw [errV_no e0]
  refine WL.sr <| WOL.mv rfl <| WOL.bt rfl rfl rfl (bne_iff_ne.2 e0) <| WOL.nil <| WL.yes rfl <| WL.sr <| WOL.bd rfl bd1117z <| WOL.mv rfl <| WOL.sto (vs:=[zi 0,.slice none 0 0,.slice none 0 0]) rfl rfl tp1117 A4 rfl rfl (Nat.le_of_ble_eq_true rfl) rfl (f.hx Y) (by omega) fun i1 M1 => WOL.as rfl <| WOL.nil ?_
  exact WL.ret (WL.endC1 rfl rfl (load_row tp1117 M1.at_ rfl (Nat.le_of_ble_eq_true rfl)) ⟨M1.hx _ Y (by omega),.inl ⟨e0,rfl⟩⟩)
 have e0:E = 0:=Classical.not_not.1 e0
 subst e0
 have all:=firstNZ_zero hE
 obtain ⟨⟨m1,m2⟩,m3,m4,m5,m6,m7⟩:=trace_ok (all (traceE n L S) (by simp))
 obtain ⟨p1,p2,p3,p4⟩:=chord_ok (all (chordE a b) (by simp))
 obtain ⟨p,rfl⟩:∃ p:Nat,a = p:=⟨a.toNat,by omega⟩
 obtain ⟨q,rfl⟩:∃ q:Nat,b = q:=⟨b.toNat,by omega⟩
 rw [errV_ok,Int.toNat_natCast,Int.toNat_natCast]
 refine WL.sr <| WOL.mv rfl <| WOL.bf rfl rfl rfl rfl <| WOL.nil <| keep [(2,_),(3,_),(4,_),(14,_)] ⟨rfl,rfl,rfl,rfl,trivial⟩ <| WL.no rfl <| WL.skip ?_
 refine WL.sr <| WOL.ld rfl (load_row tp1117 A3 rfl (Nat.le_of_ble_eq_true rfl)) <| WOL.ld rfl (load_row tp1128 A2 rfl (Nat.le_of_ble_eq_true rfl)) ?_
 refine WOL.lk1 rfl rfl fun M => ((k1194 H (a:=p) (b:=q) (by omega) (by omega) (by omega) (by omega) _).mono ?_)
 rintro v g1 ⟨Xg,c,rfl,hc,Ac⟩
 replace Xg:=Xg.relock
 replace Ac:=Ac.relock h6.lock
 generalize g1.withLock h6.lock = g1 at *
 rw [← vTapD] at Ac
 have Yg:=Y.trans Xg
 refine WOL.cl2 rfl rfl rfl ((k1193 (n:=n) (W:=p + q) (c:=-(p:Int)) H (r.hx Yg) (SlL.own eS Ac rfl) (vTaps (by omega) (by omega) (by omega) (by omega)) m3 m1 m2 (by omega) (by omega) (by omega) l1 (by omega) (holeE_in m4) (by omega) (f.on Yg)).mono ?_)
 rintro v g2 ⟨X2,R⟩
 rw [Int.sub_neg] at R
 have x2:=(Yg.trans X2).next
 have x3:=Yg.next
 have l4:=(A4.hx Xg).lt
 rcases R with ⟨heT,rfl⟩ | ⟨heT,hbT,rfl⟩ | ⟨heT,hbT,bvT,wT,rfl,hvT,toT⟩
 ·exact WOL.ex rfl rfl <| WOL.ex rfl rfl <| WOL.sto (vs:=[zi 0,.slice none 0 0,.slice none 0 0]) rfl rfl tp1117 ((A4.hx Xg).hx X2) rfl rfl (Nat.le_of_ble_eq_true rfl) rfl (f.hx (Yg.trans X2)) (by omega) fun iT MT => WOL.as rfl <| WOL.nil <| WL.ret (WL.endC1 rfl rfl (load_row tp1117 MT.at_ rfl (Nat.le_of_ble_eq_true rfl)) ⟨MT.hx _ (Yg.trans X2) (by omega),.inl ⟨heT,rfl⟩⟩)
 ·exact WOL.ex rfl rfl <| WOL.ex rfl rfl <| WOL.sto (vs:=[zi 0,.slice none 0 0,.slice none 0 0]) rfl rfl tp1117 ((A4.hx Xg).hx X2) rfl rfl (Nat.le_of_ble_eq_true rfl) rfl (f.hx (Yg.trans X2)) (by omega) fun iT MT => WOL.as rfl <| WOL.nil <| WL.ret (WL.endC1 rfl rfl (load_row tp1117 MT.at_ rfl (Nat.le_of_ble_eq_true rfl)) ⟨MT.hx _ (Yg.trans X2) (by omega),.inr (.inl ⟨heT,hbT,rfl⟩)⟩)
 ·obtain ⟨b2T,m2T,k2T,rfl⟩:=toT.form
  exact WOL.ex rfl rfl <| WOL.ex rfl rfl <| WOL.sto (vs:=[zi _,slA bvT _,.slice b2T m2T k2T]) rfl rfl tp1117 ((A4.hx Xg).hx X2) rfl rfl (Nat.le_of_ble_eq_true rfl) rfl (f.hx (Yg.trans X2)) (by omega) fun iT MT => WOL.as rfl <| WOL.nil <| WL.ret (WL.endC1 rfl rfl (load_row tp1117 MT.at_ rfl (Nat.le_of_ble_eq_true rfl)) ⟨MT.hx _ (Yg.trans X2) (by omega),.inr (.inr ⟨heT,hbT,bvT,_,rfl,by omega,(toT.put MT (by omega) (by omega)).low (by omega)⟩)⟩)
end
end Go.Tidy
namespace Go.Tidy
open Go Go.Proofs Tab
variable {tp:TProg}
theorem k11t (A:Awk tp) (h:TH):CallW Tryz.prog tp (.func (.func 9) #[] #[]) #[] h fun v h' => v = .bool true ∧ h' = h:=by
 obtain ⟨e,e1,e2⟩:=A.e
 exact CallW.ext A.no e1 rfl e2 rfl ⟨rfl,rfl⟩
theorem IsInts.keep {g g':TH} {y:Value} {L:List Int} (i:IsInts g y L) (k:∀ b x,bl y = some b → At g b x → At g' b x):IsInts g' y L:=by
 rcases i with i | ⟨b,c,fix,wr,el,i1,i2,i3⟩
 ·exact .inl i
 ·subst i1
  have:=k b _ rfl ⟨i3,i2⟩
  exact .inr ⟨b,c,fix,wr,el,rfl,this.lt,this.get⟩
def CelA (ty:TypeId) (n:Int) (o:Int × List Int × List (Int × Int)) (g:TH) (c:Nat):Prop:=∃ z b1 m1 k1 b2 m2 k2,At g c (.cells [zi z,.slice b1 m1 k1,.slice b2 m2 k2] true true ty) ∧ IsInts g (.slice b1 m1 k1) o.2.1 ∧ SlL encS 2 g (.slice b2 m2 k2) o.2.2 ∧ ((o.1 ≠ 0 ∧ z = 0 ∧ o.2.1 = [] ∧ o.2.2 = []) ∨ (o.1 = 0 ∧ z = n))
theorem CelA.hx {ty:TypeId} {n:Int} {o:Int × List Int × List (Int × Int)} {g g':TH} {c:Nat} (q:CelA ty n o g c) (x:HX g g'):CelA ty n o g' c:=by
 obtain ⟨z,b1,m1,k1,b2,m2,k2,A,i,s,e⟩:=q
 exact ⟨z,b1,m1,k1,b2,m2,k2,A.hx x,i.hx x,s.hx x,e⟩
section
variable {h h0:TH} {a b n1 n2 m1 m2 e1:Int} {v1 v2 w1 w2:Value} {L1:List Int} {S1:List (Int × Int)} {o1 o2:Int × List Int × List (Int × Int)} {c3 c4 c7 c9 c14 c15:Nat}
end
end Go.Tidy
namespace Go.Tidy
open Go Go.Proofs Tab
variable {tp:TProg}
theorem holesOf_le (B:List Bool):(holesOf B).length ≤ B.length:=by
 have:=holesN_len B B.length
 show (holesN _ _).length ≤ _
 exact this
section
variable {h:TH} {a b n1 n2 p:Int} {v1 v2 w1 w2:Value} {L1 L2:List Int} {S1 S2:List (Int × Int)}
end
end Go.Tidy
namespace Go.Tidy
open Go Go.Proofs Tab
theorem args3 {P:Program} {h:TH} {m:Nat} {t0 t1 t2:TypeId} {us:List Value} (ha:Args P h m [t0,t1,t2] us):∃ x0 x1 x2,us = [x0,x1,x2] ∧ (∃ ps,Ty P h m t0 ps ∧ x0 = valOf P t0 ps) ∧ (∃ ps,Ty P h m t1 ps ∧ x1 = valOf P t1 ps) ∧ ∃ ps,Ty P h m t2 ps ∧ x2 = valOf P t2 ps:=by
 match us,ha with
 | [x0,x1,x2],⟨a0,a1,a2,_⟩ => exact ⟨x0,x1,x2,rfl,a0,a1,a2⟩
end Go.Tidy
namespace Go.Tidy
open Go Go.Proofs Tab
variable {tp:TProg}
theorem CelA.keep {ty:TypeId} {n:Int} {o:Int × List Int × List (Int × Int)} {g g':TH} {c:Nat} (q:CelA ty n o g c) (k:∀ b x,At g b x → At g' b x):CelA ty n o g' c:=by
 obtain ⟨z,b1,m1,k1,b2,m2,k2,A,i,s,e⟩:=q
 exact ⟨z,b1,m1,k1,b2,m2,k2,k _ _ A,i.keep fun b x _ a => k _ _ a,slC_keep s fun b x _ a => k _ _ a,e⟩
section
variable {h h0:TH} {a b n m1 m2 E1:Int} {v1 v2 w9 w16:Value} {L:List Int} {S:List (Int × Int)} {l3:List Int} {o1 o2:Int × List Int × List (Int × Int)} {c2 c3 c5 c7 c14 c15 p q:Nat}
end
end Go.Tidy
namespace Go.Tidy
open Go Go.Proofs Tab
variable {tp:TProg}
theorem out_mm {x l m:Int} (h:outB x l m = 0):l ≤ x ∧ x ≤ m:=by
 unfold outB at h
 by_cases c1:x < l
 ·rw [decide_eq_true c1] at h;cases h
 ·by_cases c2:m < x
  ·rw [decide_eq_false c1,decide_eq_true c2] at h;cases h
  ·omega
section
variable {h:TH} {n a b s:Int} {v1 v2:Value} {L:List Int} {S:List (Int × Int)} {p q st:Nat}
end
end Go.Tidy
namespace Go.Tidy
open Go Go.Proofs Tab
variable {tp:TProg}
def rT (m:Nat) (g:Nat → Int):List (Nat × Int):=(List.range m).map fun i => (i,g i)
section
variable {h:TH} {n a b:Int} {v1 v2:Value} {L:List Int} {S:List (Int × Int)} {s l:Nat}
end
end Go.Tidy
namespace Go.Tidy
open Go Go.Proofs Tab
variable {tp:TProg}
section
variable {P:Program} {h:TH} {K:Regs → TH → Prop} {rest:List TOper} {d:Option Tmp} {ty:TypeId} {i:Nat} {x y:Operand} {t u:TypeId} {L:Rg}
theorem tdiv_lim (m n:Int):(m.tdiv n).natAbs ≤ m.natAbs:=by
 rw [Int.natAbs_tdiv]
 exact Nat.div_le_self _ _
theorem WOL.quoT {m n:Int} (hx:getL L x = some (.int .i64 m)) (hy:getL L y = some (.int .i64 n)) (hn:n ≠ 0) (h2:m.natAbs ≤ 4611686018427387904) (w:∀ a,Kn (putL L d (.int .i64 (m.tdiv n))) a → WO P tp rest a h K):∀ a,Kn L a → WO P tp (⟨d,.binOp .quo t x y u,ty,none,[],i⟩ :: rest) a h K:=fun a k => by
 refine WO.quoI (k.o hx) (k.o hy) hn ?_
 have:=tdiv_lim m n
 rw [fwrap_i64 (by omega) (by omega)]
 exact w _ (k.put d _)
end
theorem tmod_zero {m n:Int}:m.tdiv n * n = m ↔ m.tmod n = 0:=by
 rw [Int.tmod_def,Int.mul_comm (m.tdiv n)]
 omega
def resE1 (p:Nat) (n:Int):Int:=cond (n.tmod p != 0) 1 (cond (largeB (n.tdiv p)) 4 0)
def resN (p q:Nat) (H:List (Int × Bool)) (j:Nat) (x:Int):Int:=((p:Int) + q) * (H.getD (j + p) (0,false)).1 - (q:Int) * (H.getD j (0,false)).1 - x
def resK (p:Nat) (H:List (Int × Bool)) (j:Nat) (k:Bool):Bool:=k && ((H.getD (j + p) (0,false)).2 && (H.getD j (0,false)).2)
def resJ (p q:Nat) (E:List Int) (C:List (Int × Bool)):Nat → Int × List (Int × Bool)
 | 0 => (0,E.map fun x => (x,true))
 | j + 1 => if (resJ p q E C j).1 ≠ 0 then resJ p q E C j else if resK p (resJ p q E C j).2 j (C.getD j (0,false)).2 = true then (if resE1 p (resN p q (resJ p q E C j).2 j (C.getD j (0,false)).1) ≠ 0 then (resE1 p (resN p q (resJ p q E C j).2 j (C.getD j (0,false)).1),(resJ p q E C j).2) else (0,(resJ p q E C j).2 ++ [((resN p q (resJ p q E C j).2 j (C.getD j (0,false)).1).tdiv p,true)])) else (0,(resJ p q E C j).2 ++ [(0,false)])
section
variable {p q:Nat} {E:List Int} {C:List (Int × Bool)} {j:Nat} {H:List (Int × Bool)}
theorem resJ_eq:resJ p q E C (j + 1) = if (resJ p q E C j).1 ≠ 0 then resJ p q E C j else if resK p (resJ p q E C j).2 j (C.getD j (0,false)).2 = true then (if resE1 p (resN p q (resJ p q E C j).2 j (C.getD j (0,false)).1) ≠ 0 then (resE1 p (resN p q (resJ p q E C j).2 j (C.getD j (0,false)).1),(resJ p q E C j).2) else (0,(resJ p q E C j).2 ++ [((resN p q (resJ p q E C j).2 j (C.getD j (0,false)).1).tdiv p,true)])) else (0,(resJ p q E C j).2 ++ [(0,false)]):=rfl
theorem resJ_dark (h0:resJ p q E C j = (0,H)) (hk:resK p H j (C.getD j (0,false)).2 = false):resJ p q E C (j + 1) = (0,H ++ [(0,false)]):=by
 rw [resJ_eq,h0,if_neg (fun h => h rfl),if_neg (by rw [hk];decide)]
theorem resJ_err (h0:resJ p q E C j = (0,H)) (hk:resK p H j (C.getD j (0,false)).2 = true) (he:resE1 p (resN p q H j (C.getD j (0,false)).1) ≠ 0):resJ p q E C (j + 1) = (resE1 p (resN p q H j (C.getD j (0,false)).1),H):=by
 rw [resJ_eq,h0,if_neg (fun h => h rfl),if_pos hk,if_pos he]
theorem resJ_put (h0:resJ p q E C j = (0,H)) (hk:resK p H j (C.getD j (0,false)).2 = true) (he:resE1 p (resN p q H j (C.getD j (0,false)).1) = 0):resJ p q E C (j + 1) = (0,H ++ [((resN p q H j (C.getD j (0,false)).1).tdiv p,true)]):=by
 rw [resJ_eq,h0,if_neg (fun h => h rfl),if_pos hk,if_neg (fun h => h he)]
theorem resJ_stop (h:(resJ p q E C j).1 ≠ 0):∀ k,resJ p q E C (j + k) = resJ p q E C j
 | 0 => rfl
 | k + 1 => by
  have ih:=resJ_stop h k
  show resJ p q E C (j + k + 1) = _
  rw [resJ_eq,ih,if_pos h]
theorem resJ_len:∀ j,(resJ p q E C j).1 = 0 → (resJ p q E C j).2.length = E.length + j
  | 0,_ => by
    show (E.map _).length = _
    rw [List.length_map];rfl
  | j + 1,h => by
    by_cases h0:(resJ p q E C j).1 = 0
    · have ih:=resJ_len j h0
      obtain ⟨H,e⟩:∃ H,resJ p q E C j = (0,H):=⟨_,Prod.ext h0 rfl⟩
      rw [e] at ih
      replace ih:H.length = E.length + j:=ih
      cases hk:resK p H j (C.getD j (0,false)).2 with
      | false => rw [resJ_dark e hk];show (H ++ [_]).length = _;rw [List.length_append,ih];rfl
      | true =>
        by_cases he:resE1 p (resN p q H j (C.getD j (0,false)).1) = 0
        · rw [resJ_put e hk he];show (H ++ [_]).length = _;rw [List.length_append,ih];rfl
        · rw [resJ_err e hk he] at h
          exact absurd h he
    · have:=resJ_stop h0 1
      rw [this] at h
      exact absurd h h0
def HFine (H:List (Int × Bool)):Prop:=∀ c,c ∈ H → (c.2 = true → largeB c.1 = false) ∧ (c.2 = false → c.1 = 0)
theorem HFine.lim {H:List (Int × Bool)} (f:HFine H) (i:Nat):-1073741824 ≤ (H.getD i (0,false)).1 ∧ (H.getD i (0,false)).1 ≤ 1073741824:=by
  rw [List.getD_eq_getElem?_getD]
  cases hi:H[i]? with
  | none => decide
  | some c =>
    obtain ⟨f1,f2⟩:=f c (List.mem_of_getElem? hi)
    show -1073741824 ≤ c.1 ∧ c.1 ≤ 1073741824
    cases hc:c.2 with
    | false => rw [f2 hc];decide
    | true =>
      have:=f1 hc
      unfold largeB readE at this
      have h0:outB c.1 (-1073741824) 1073741824 = 0:=by
        by_cases q:outB c.1 (-1073741824) 1073741824 = 0
        · exact q
        · rw [bne_iff_ne.2 q] at this;cases this
      exact out_mm h0
theorem resJ_fine (hE:∀ x,x ∈ E → largeB x = false):∀ j,HFine (resJ p q E C j).2
  | 0 => fun c hc => by
    obtain ⟨x,hx,rfl⟩:=List.mem_map.1 hc
    exact ⟨fun _ => hE x hx,fun h => by cases h⟩
  | j + 1 => by
    have ih:=resJ_fine hE j
    by_cases h0:(resJ p q E C j).1 = 0
    · obtain ⟨H,e⟩:∃ H,resJ p q E C j = (0,H):=⟨_,Prod.ext h0 rfl⟩
      rw [e] at ih
      cases hk:resK p H j (C.getD j (0,false)).2 with
      | false =>
        rw [resJ_dark e hk]
        intro c hc
        rcases List.mem_append.1 hc with hc | hc
        · exact ih c hc
        · cases List.mem_singleton.1 hc
          exact ⟨fun h => (by cases h),fun _ => rfl⟩
      | true =>
        by_cases he:resE1 p (resN p q H j (C.getD j (0,false)).1) = 0
        · rw [resJ_put e hk he]
          intro c hc
          rcases List.mem_append.1 hc with hc | hc
          · exact ih c hc
          · cases List.mem_singleton.1 hc
            refine ⟨fun _ => ?_,fun h => by cases h⟩
            unfold resE1 at he
            cases h1:((resN p q H j (C.getD j (0,false)).1).tmod p != 0) with
            | true => rw [h1] at he;cases he
            | false =>
              rw [h1] at he
              cases h2:largeB ((resN p q H j (C.getD j (0,false)).1).tdiv p) with
              | true => rw [h2] at he;cases he
              | false => rfl
        · rw [resJ_err e hk he];exact ih
    · rw [resJ_stop h0 1];exact ih
theorem HFine.val {H:List (Int × Bool)} (f:HFine H):valC H = H.map fun c => c.1:=by
 unfold valC
 refine List.map_congr_left fun c hc => ?_
 cases h:c.2 with
 | true => rfl
 | false => rw [(f c hc).2 h];rfl
theorem HFine.big {H:List (Int × Bool)} (f:HFine H):bigC H = false:=by
 unfold bigC
 refine List.any_eq_false.2 fun c hc => ?_
 cases h:c.2 with
 | true => rw [(f c hc).1 h];decide
 | false => exact Bool.false_ne_true
end
def padL {α:Type} (l:List α) (z:α) (m:Nat):List α:=l ++ List.replicate (m - l.length) z
section
variable {α:Type} {l:List α} {z x:α} {m:Nat}
theorem padL_len (h:l.length ≤ m):(padL l z m).length = m:=by unfold padL;rw [List.length_append,List.length_replicate];omega
theorem padL_set (h:l.length < m):(padL l z m).set l.length x = padL (l ++ [x]) z m:=by
 unfold padL
 rw [List.set_append_right _ _ (Nat.le_refl _),Nat.sub_self,List.length_append,show m - l.length = (m - (l.length + [x].length)) + 1 by show m - l.length = (m - (l.length + 1)) + 1;omega,List.replicate_succ,List.set_cons_zero,List.append_assoc]
 rfl
theorem padL_same (h:l.length < m):padL (l ++ [z]) z m = padL l z m:=by
 unfold padL
 rw [List.length_append,show m - l.length = (m - (l.length + [z].length)) + 1 by show m - l.length = (m - (l.length + 1)) + 1;omega,List.replicate_succ,List.append_assoc]
 rfl
theorem padL_full (h:l.length = m):padL l z m = l:=by
 unfold padL
 rw [h,Nat.sub_self];simp
theorem padL_get {i:Nat}:(padL l z m).getD i z = l.getD i z:=by
 unfold padL
 rw [List.getD_eq_getElem?_getD,List.getD_eq_getElem?_getD]
 by_cases h:i < l.length
 ·rw [List.getElem?_append_left h]
 ·rw [List.getElem?_append_right (by omega),List.getElem?_replicate,List.getElem?_eq_none (l:=l) (by omega)]
  split <;> rfl
theorem map_getD {β:Type} {g:α → β} {i:Nat}:(l.map g).getD i (g z) = g (l.getD i z):=by
 rw [List.getD_eq_getElem?_getD,List.getD_eq_getElem?_getD,List.getElem?_map]
 cases l[i]? <;> rfl
end
theorem yX1224 (H:Has tp) {n:Int} {v1 v2:Value} {m c:Nat} (h0:0 ≤ n) (h1:n ≤ 1000000000) (hl:m ≤ 1000000):YieldsX Tryz.prog tp (.func (.func 164) #[] #[ptr c]) (fun g => At g c (.cells [zi n,v1,v2] true true 55) ∧ ∃ L:List Int,L.length = m ∧ SlL encI 1 g v1 L) m fun j => zi (n + (j:Nat)):=by
 intro h' yv I D I0 hI step
 refine CallW.fnC (H.fn 164 f1224 rfl rfl) ?_
 obtain ⟨A0,L,rfl,s0⟩:=hI 0 h' I0
 refine WL.sr <| WOL.fa rfl (fa_of fo1117_1) <| WOL.ld rfl (load_one tp29 A0 rfl) <| WOL.len rfl s0 u29 <| WOL.mv rfl <| WOL.nil <| keep [(0,_),(1,_),(6,_),(7,_)] ⟨rfl,rfl,rfl,rfl,trivial⟩ ?_
 refine WL.upto (α:=Unit) L.length (fun j _ g => I j g) (fun _ _ => [(0,yv),(1,ptr c),(6,zi (L.length:Nat))]) () rfl rfl (by omega) I0 ⟨rfl,rfl,rfl,rfl,trivial⟩ (fun _ _ => rfl) (fun _ _ _ => ⟨rfl,rfl,rfl,rfl,trivial⟩) (fun _ _ _ => ⟨rfl,rfl,rfl,rfl,trivial⟩) ?_ ?_
 ·rintro j _ g hj q1
  obtain ⟨A1,_⟩:=hI j g q1
  refine WL.sr <| WOL.mv rfl <| WOL.as rfl <| WOL.nil <| keep [(0,_),(1,_),(3,_),(6,_),(7,_)] ⟨rfl,rfl,rfl,rfl,rfl,trivial⟩ ?_
  refine WL.sr <| WOL.mv rfl <| WOL.fa rfl (fa_of fo1117_0) <| WOL.ld rfl (load_one tp3 A1 rfl) <| WOL.mv rfl <| WOL.add (m:=n) (n:=((j:Nat):Int)) rfl rfl (by omega) (by omega) <| WOL.cl1 rfl rfl ((step j g hj q1).mono ?_)
  rintro v g2 (⟨rfl,q2⟩ | ⟨rfl,q2⟩)
  ·exact WOL.nt rfl <| WOL.nil <| WL.no rfl <| WL.skip fun a q => ⟨(),q2,q.sub ⟨rfl,rfl,rfl,rfl,trivial⟩⟩
  ·exact WOL.nt rfl <| WOL.nil <| WL.yes rfl <| WL.ret (WL.end_ rfl (.inr q2))
 ·rintro _ g q1
  exact fun a q => WL.endn rfl (.inl q1) a q
theorem resE1_eq {p:Nat} {N:Int}:firstNZ [cond (N.tdiv p * p != N) 1 0,cond (largeB (N.tdiv p)) 4 0] = resE1 p N:=by
 have e:(N.tdiv p * p != N) = (N.tmod p != 0):=by
  by_cases h:N.tmod p = 0
  ·rw [bne_eq_false_iff_eq.2 h,bne_eq_false_iff_eq.2 (tmod_zero.2 h)]
  ·rw [bne_iff_ne.2 h,bne_iff_ne.2 (fun q => h (tmod_zero.1 q))]
 unfold resE1
 rw [e]
 cases (N.tmod p != 0) <;> cases largeB (N.tdiv p) <;> rfl
section
variable {h:TH} {n:Int} {p q:Nat} {L E:List Int} {S:List (Int × Int)} {rv rk hv hk:Nat}
set_option maxHeartbeats 8000000 in
set_option maxRecDepth 10000 in
theorem k1200 (H:Has tp) (R:RowA h rv rk L (knownL S L.length)) (T:RowA h hv hk (padL ((resJ p q E (zipK L S L.length) 0).2.map fun c => c.1) 0 (L.length + (p + q))) (padL ((resJ p q E (zipK L S L.length) 0).2.map fun c => c.2) false (L.length + (p + q)))) (d1:rv ≠ hv) (d2:rv ≠ hk) (d3:rk ≠ hv) (d4:rk ≠ hk) (hE:∀ x,x ∈ E → largeB x = false) (lE:E.length = p + q) (hp:1 ≤ p) (hp':p ≤ 32) (hq:1 ≤ q) (hq':q ≤ 32) (lim:∀ j,-1073741824 ≤ L.getD j 0 ∧ L.getD j 0 ≤ 1073741824) (n0:0 ≤ n - p) (n1:n ≤ 100000000) (lL:L.length ≤ 900000) {hb:TH} (Xb:HX hb h) (fb:Free0 hb.next hb) (b1:hb.next ≤ hv) (b2:hb.next ≤ hk) :
    CallW Tryz.prog tp (.func (.func 102) #[] #[]) #[.agg #[zi (p:Nat),zi (q:Nat)],rowV n (slA rv L.length) (slA rk L.length),rowV (n - p) (slA hv (L.length + (p + q))) (slA hk (L.length + (p + q)))] h fun v h' => (∀ h0,HX h0 h → h0.next ≤ hv → h0.next ≤ hk → HX h0 h') ∧ (∀ c y,c ≠ hv → c ≠ hk → At h c y → At h' c y) ∧ h.next ≤ h'.next ∧ v = zi (resJ p q E (zipK L S L.length) L.length).1 ∧ ((resJ p q E (zipK L S L.length) L.length).1 = 0 → RowA h' hv hk ((resJ p q E (zipK L S L.length) L.length).2.map fun c => c.1) ((resJ p q E (zipK L S L.length) L.length).2.map fun c => c.2)):=by
  have f:Free0 hb.next h:=fb.hx Xb
  have hm:hb.next ≤ h.next:=Xb.next
  refine CallW.fnL (H.fn 102 f1200 rfl rfl) ?_
  refine WL.sr <| WOL.box rfl fun h1 N1 => WOL.box rfl fun h2 N2 => WOL.box rfl fun h3 N3 => WOL.al tp30 fun h4 N4 => WOL.nil <| keep [(3,_),(4,_),(5,_),(6,_)] ⟨rfl,rfl,rfl,rfl,trivial⟩ ?_
  have q1:=N1.next
  have q2:=N2.next
  have q3:=N3.next
  have q4:=N4.next
  have X4:=((N1.hx.trans N2.hx).trans N3.hx).trans N4.hx
  have A3:At h4 h.next (.cells [zi (p:Nat),zi (q:Nat)] true true 31):=((N1.at_.hx N2.hx).hx N3.hx).hx N4.hx
  have A4:At h4 h1.next (.cells [zi n,slA rv L.length,.slice none 0 0,slA rk L.length] true true 148):=(N2.at_.hx N3.hx).hx N4.hx
  have A5:At h4 h2.next (.cells [zi (n - p),slA hv (L.length + (p + q)),.slice none 0 0,slA hk (L.length + (p + q))] true true 148):=N3.at_.hx N4.hx
  have A6:At h4 h3.next (.cells [zi 0] true true 28):=N4.at_
  have R4:=R.hx X4
  have T4:=T.hx X4
  have lr1:=R.v.lt
  have lr2:=R.k.lt
  have lh1:=T.v.lt
  have lh2:=T.k.lt
  have f4:=f.hx X4
  refine WL.seq <| WL.sr <| WOL.fa rfl (fa_of fo1194_0) <| WOL.ld rfl (load_row tp1117 A4 (l:=[zi n,slA rv L.length,.slice none 0 0]) rfl (Nat.le_of_ble_eq_true rfl)) <| WOL.cl1 rfl rfl ((k1179 H h4).mono ?_)
  rintro v h5 ⟨cc,rfl,X5,Ac,ac⟩
  have q5:=X5.next
  have lc:=Ac.lt
  have Y5:=X4.trans X5
  replace A3:=A3.hx X5;replace A4:=A4.hx X5;replace A5:=A5.hx X5;replace A6:=A6.hx X5;replace R4:=R4.hx X5;replace T4:=T4.hx X5
  have f5:=f.hx Y5
  refine WOL.nil <| keep [(3,_),(4,_),(5,_),(6,_),(19,_)] ⟨rfl,rfl,rfl,rfl,rfl,trivial⟩ ?_
  generalize hC:zipK L S L.length = C at *
  have hCj:∀ j,j < L.length → C.getD j (0,false) = (L.getD j 0,knownB S (j:Nat)):=fun j hj => by
    rw [← hC,List.getD_eq_getElem?_getD,zipK_get hj];rfl
  have fine:=fun j => resJ_fine (p:=p) (q:=q) (C:=C) hE j
  have leng:=fun j => resJ_len (p:=p) (q:=q) (E:=E) (C:=C) j
  have stop:=fun j => resJ_stop (p:=p) (q:=q) (E:=E) (C:=C) (j:=j)
  refine WL.block <| WL.rangeX rfl (H.fn 164 f1224 rfl rfl) (yX1224 (v1:=slA rv L.length) (v2:=.slice none 0 0) H (n:=n) (by omega) (by omega) (m:=L.length) (by omega)) (fun j g => (resJ p q E C j).1 = 0 ∧ (∀ h0,HX h0 h → h0.next ≤ hv → h0.next ≤ hk → HX h0 g) ∧ (∀ c y,c ≠ hv → c ≠ hk → At h5 c y → At g c y) ∧ Free0 hb.next g ∧ h5.next ≤ g.next ∧ RowA g hv hk (padL ((resJ p q E C j).2.map fun c => c.1) 0 (L.length + (p + q))) (padL ((resJ p q E C j).2.map fun c => c.2) false (L.length + (p + q)))) (fun e g => e = .ret ∧ (resJ p q E C L.length).1 ≠ 0 ∧ (∀ h0,HX h0 h → h0.next ≤ hv → h0.next ≤ hk → HX h0 g) ∧ (∀ c y,c ≠ hv → c ≠ hk → c ≠ h3.next → At h5 c y → At g c y) ∧ Free0 hb.next g ∧ h5.next ≤ g.next ∧ At g h3.next (.cells [zi (resJ p q E C L.length).1] true true 28)) ?_ ?_ ?_ ?_ ?_ ?_ ?_ ?_ ?_
  · rintro j g ⟨_,_,o,_⟩
    exact ⟨o _ _ (by omega) (by omega) Ac,L,rfl,SlL.own eI (o _ _ d1 d2 R4.v) rfl⟩
  · rintro j g ⟨_,_,_,fg,nx,_⟩
    exact fg.up (by omega)
  · rintro e g ⟨_,_,_,_,fg,nx,_⟩
    exact fg.up (by omega)
  · rintro j g g' x ⟨z0,x1,o,fg,nx,ra⟩ P
    exact ⟨z0,fun h0 X a b => P.hx _ (x1 h0 X a b) (by have:=X.next;omega),fun c y a b A => P.oth _ _ (by have:=A.lt;omega) (o _ _ a b A),⟨by rw [P.floor];exact fg.floor,fun l hl => fg.lock l (by rw [← P.lock];exact hl)⟩,by rw [P.next];exact nx,⟨P.oth _ _ (by omega) ra.v,P.oth _ _ (by omega) ra.k,ra.e,ra.n⟩⟩
  · rintro e g g' x ⟨ee,z0,x1,o,fg,nx,A⟩ P
    exact ⟨ee,z0,fun h0 X a b => P.hx _ (x1 h0 X a b) (by have:=X.next;omega),fun c y a b d A => P.oth _ _ (by have:=A.lt;omega) (o _ _ a b d A),⟨by rw [P.floor];exact fg.floor,fun l hl => fg.lock l (by rw [← P.lock];exact hl)⟩,by rw [P.next];exact nx,P.oth _ _ (by omega) A⟩
  · rintro g x N
    have:=N.next
    exact ⟨rfl,fun h0 X a b => (X.trans Y5).trans N.hx,fun c y _ _ A => A.hx N.hx,f5.hx N.hx,by omega,T4.hx N.hx⟩
  · rintro j g x hj _ A
    refine WL.reg <| WOL.as rfl <| WOL.nil ?_
    intro r' hr
    refine ⟨rfl,rfl,fun g2 xx ⟨z0,x1,o,fg,nx,ra⟩ A2 => ?_⟩
    refine hr.go ?_
    obtain ⟨Hj,e⟩:∃ Hj,resJ p q E C j = (0,Hj):=⟨_,Prod.ext z0 rfl⟩
    have fj:=fine j
    have lj:=leng j z0
    rw [e] at ra fj lj
    replace lj:Hj.length = E.length + j:=lj
    have hd:=hCj j hj
    have sd:=resJ_dark (p:=p) (q:=q) (E:=E) (C:=C) e
    have se:=resJ_err (p:=p) (q:=q) (E:=E) (C:=C) e
    have sp:=resJ_put (p:=p) (q:=q) (E:=E) (C:=C) e
    rw [hd] at sd se sp
    have lf:=fun i => fj.lim i
    have B3:=o _ _ (by omega) (by omega) A3
    have B4:=o _ _ (by omega) (by omega) A4
    have B5:=o _ _ (by omega) (by omega) A5
    have B6:=o _ _ (by omega) (by omega) A6
    have RR:RowA g2 rv rk L (knownL S L.length):=⟨o _ _ d1 d2 R4.v,o _ _ d3 d4 R4.k,R4.e,R4.n⟩
    have lv:(padL (Hj.map fun c => c.1) 0 (L.length + (p + q))).length = L.length + (p + q):=padL_len (by rw [List.length_map];omega)
    have k1:=fun g (X:HX g2 g) => k1180 (n:=n) H (RR.hx X) hj (by omega) (by omega) (by omega)
    rw [show (knownL S L.length).getD j false = knownB S (j:Nat) by rw [List.getD_eq_getElem?_getD,knownL_get hj];rfl] at k1
    have k2:=fun g (X:HX g2 g) => k1180 (n:=n - p) (i:=j + p) H (ra.hx X) (by rw [lv];omega) (by omega) (by omega) (by rw [lv];omega)
    have k3:=fun g (X:HX g2 g) => k1180 (n:=n - p) (i:=j) H (ra.hx X) (by rw [lv];omega) (by omega) (by omega) (by rw [lv];omega)
    have hv1:∀ i,(Hj.map fun c => c.1).getD i 0 = (Hj.getD i (0,false)).1:=fun i => map_getD (z:=((0:Int),false)) (g:=fun c => c.1)
    have hv2:∀ i,(Hj.map fun c => c.2).getD i false = (Hj.getD i (0,false)).2:=fun i => map_getD (z:=((0:Int),false)) (g:=fun c => c.2)
    simp only [lv,padL_get,hv1,hv2] at k2 k3
    rw [show n - (p:Int) + ((j + p:Nat):Int) = n + (j:Nat) by omega] at k2
    rw [show n - (p:Int) + ((j:Nat):Int) = n + (j:Nat) - p by omega] at k3
    refine WL.block <| WL.sr <| WOL.ld rfl (load_row tp1194 B4 rfl (Nat.le_of_ble_eq_true rfl)) <| WOL.mv rfl <| WOL.cl2 rfl rfl rfl ((k1 g2 (HX.refl _)).mono ?_)
    rintro u i1 ⟨rfl,M1⟩
    refine WOL.mv rfl <| WOL.ex rfl rfl <| WOL.ex rfl rfl <| WOL.as rfl <| WOL.as rfl <| WOL.nil <| keep [(3,_),(4,_),(5,_),(6,_),(7,_),(8,_),(9,_)] ⟨rfl,rfl,rfl,rfl,rfl,rfl,rfl,trivial⟩ ?_
    refine WL.sr <| WOL.ld rfl (load_row tp1194 (B5.hx M1) rfl (Nat.le_of_ble_eq_true rfl)) <| WOL.mv rfl <| WOL.cl2 rfl rfl rfl ((k2 i1 M1).mono ?_)
    rintro u i2 ⟨rfl,M2⟩
    have M12:=M1.trans M2
    refine WOL.mv rfl <| WOL.ex rfl rfl <| WOL.ex rfl rfl <| WOL.as rfl <| WOL.as rfl <| WOL.nil <| keep [(3,_),(4,_),(5,_),(6,_),(7,_),(8,_),(9,_),(10,_),(11,_)] ⟨rfl,rfl,rfl,rfl,rfl,rfl,rfl,rfl,rfl,trivial⟩ ?_
    refine WL.sr <| WOL.ld rfl (load_row tp1194 (B5.hx M12) rfl (Nat.le_of_ble_eq_true rfl)) <| WOL.mv rfl <| WOL.fa rfl (fa_of fo1128_0) <| WOL.ld rfl (load_one tp3 (B3.hx M12) rfl) <| WOL.sub (m:=n + (j:Nat)) (n:=(p:Int)) rfl rfl (by omega) (by omega) <| WOL.cl2 rfl rfl rfl ((k3 i2 M12).mono ?_)
    rintro u i3 ⟨rfl,M3⟩
    have M:=M12.trans M3
    have mn:=M.next
    refine WOL.mv rfl <| WOL.ex rfl rfl <| WOL.ex rfl rfl <| WOL.as rfl <| WOL.as rfl <| WOL.nil <| keep [(3,_),(4,_),(5,_),(6,_),(7,_),(8,_),(9,_),(10,_),(11,_),(12,_),(13,_)] ⟨rfl,rfl,rfl,rfl,rfl,rfl,rfl,rfl,rfl,rfl,rfl,trivial⟩ ?_
    have fM:=fg.hx M
    have OM:∀ c y,c ≠ hv → c ≠ hk → At h5 c y → At i3 c y:=fun c y a b A => (o _ _ a b A).hx M
    have XM:∀ h0,HX h0 h → h0.next ≤ hv → h0.next ≤ hk → HX h0 i3:=fun h0 X a b => (x1 h0 X a b).trans M
    have raM:=ra.hx M
    have AM:=A2.hx M
    clear k1 k2 k3 B3 B4 B5 B6
    have dark:resK p Hj j (knownB S (j:Nat)) = false → (resJ p q E C (j + 1)).1 = 0 ∧ (∀ h0,HX h0 h → h0.next ≤ hv → h0.next ≤ hk → HX h0 i3) ∧ (∀ c y,c ≠ hv → c ≠ hk → At h5 c y → At i3 c y) ∧ Free0 hb.next i3 ∧ h5.next ≤ i3.next ∧ RowA i3 hv hk (padL ((resJ p q E C (j + 1)).2.map fun c => c.1) 0 (L.length + (p + q))) (padL ((resJ p q E C (j + 1)).2.map fun c => c.2) false (L.length + (p + q))):=by
      intro hb
      rw [sd hb]
      refine ⟨rfl,XM,OM,fM,by omega,?_⟩
      rw [List.map_append,List.map_append]
      show RowA i3 hv hk (padL (Hj.map (fun c => c.1) ++ [0]) 0 _) (padL (Hj.map (fun c => c.2) ++ [false]) false _)
      rw [padL_same (by rw [List.length_map];omega),padL_same (by rw [List.length_map];omega)]
      exact raM
    unfold resK at dark se sp
    cases hk1:knownB S (j:Nat) with
    | false =>
      rw [hk1] at dark
      exact WL.seq <| WL.sr <| WOL.mv rfl <| WOL.nt rfl <| WOL.mv rfl <| WOL.skp (b:=true) rfl rfl <| WOL.skp (b:=true) rfl rfl <| WOL.pkt rfl rfl <| WOL.mv rfl <| WOL.skp (b:=true) rfl rfl <| WOL.skp (b:=true) rfl rfl <| WOL.pkt rfl rfl <| WOL.nil <| WL.yes rfl <| WL.exit fun r k => ⟨.inl ⟨rfl,dark rfl⟩,AM⟩
    | true =>
      rw [hk1] at dark se sp
      cases hk2:(Hj.getD (j + p) (0,false)).2 with
      | false =>
        rw [hk2] at dark
        exact WL.seq <| WL.sr <| WOL.mv rfl <| WOL.nt rfl <| WOL.mv rfl <| WOL.now (b:=false) rfl rfl <| WOL.mv rfl <| WOL.now (b:=false) rfl rfl <| WOL.nt rfl <| WOL.pkf rfl rfl <| WOL.mv rfl <| WOL.skp (b:=true) rfl rfl <| WOL.skp (b:=true) rfl rfl <| WOL.pkt rfl rfl <| WOL.nil <| WL.yes rfl <| WL.exit fun r k => ⟨.inl ⟨rfl,dark rfl⟩,AM⟩
      | true =>
        rw [hk2] at dark se sp
        cases hk3:(Hj.getD j (0,false)).2 with
        | false =>
          rw [hk3] at dark
          exact WL.seq <| WL.sr <| WOL.mv rfl <| WOL.nt rfl <| WOL.mv rfl <| WOL.now (b:=false) rfl rfl <| WOL.mv rfl <| WOL.now (b:=false) rfl rfl <| WOL.nt rfl <| WOL.pkf rfl rfl <| WOL.mv rfl <| WOL.now (b:=false) rfl rfl <| WOL.mv rfl <| WOL.now (b:=false) rfl rfl <| WOL.nt rfl <| WOL.pkf rfl rfl <| WOL.nil <| WL.yes rfl <| WL.exit fun r k => ⟨.inl ⟨rfl,dark rfl⟩,AM⟩
        | true =>
          rw [hk3] at se sp
          replace se:=se rfl
          replace sp:=sp rfl
          clear dark
          refine WL.seq <| WL.sr <| WOL.mv rfl <| WOL.nt rfl <| WOL.mv rfl <| WOL.now (b:=false) rfl rfl <| WOL.mv rfl <| WOL.now (b:=false) rfl rfl <| WOL.nt rfl <| WOL.pkf rfl rfl <| WOL.mv rfl <| WOL.now (b:=false) rfl rfl <| WOL.mv rfl <| WOL.now (b:=false) rfl rfl <| WOL.nt rfl <| WOL.pkf rfl rfl <| WOL.nil <| WL.no rfl <| WL.skip <| keep [(3,_),(4,_),(5,_),(6,_),(7,_),(8,_),(10,_),(12,_)] ⟨rfl,rfl,rfl,rfl,rfl,rfl,rfl,rfl,trivial⟩ ?_
          have l1:=lf (j + p)
          have l2:=lf j
          have l3:=lim j
          obtain ⟨u1,u2⟩:=mul_lim (w:=(p:Int) + q) (x:=(Hj.getD (j + p) (0,false)).1) (by omega) (by omega) l1.1 l1.2
          obtain ⟨u3,u4⟩:=mul_lim (w:=(q:Int)) (x:=(Hj.getD j (0,false)).1) (by omega) (by omega) l2.1 l2.2
          have B3:=OM _ _ (by omega) (by omega) A3
          refine WL.sr <| WOL.ld rfl (load_row tp1128 B3 rfl (Nat.le_of_ble_eq_true rfl)) <| WOL.mv rfl <| WOL.fa rfl (fa_of fo1128_1) <| WOL.ld rfl (load_one tp3 B3 rfl) <| WOL.mv rfl <| WOL.mul rfl rfl (Int.le_trans (by decide) u3) (Int.le_trans u4 (by decide)) <| WOL.mv rfl ?_
          refine WOL.lk1 rfl rfl fun M' => ((k1199 H (a:=(p:Int)) (b:=(q:Int)) (by omega) (by omega) (by omega) (by omega) _).mono ?_)
          rintro u i4 ⟨rfl,M4⟩
          replace M4:=M4.relock
          generalize i4.withLock i3.lock = i4 at *
          refine WOL.mul rfl rfl (Int.le_trans (by decide) u1) (Int.le_trans u2 (by decide)) <| WOL.sub rfl rfl (by omega) (by omega) <| WOL.sub rfl rfl (by omega) (by omega) <| WOL.as rfl <| WOL.nil <| keep [(3,_),(5,_),(6,_),(7,_),(14,_)] ⟨rfl,rfl,rfl,rfl,rfl,trivial⟩ ?_
          have hN:((p:Int) + q) * (Hj.getD (j + p) (0,false)).1 - (q:Int) * (Hj.getD j (0,false)).1 - L.getD j 0 = resN p q Hj j (L.getD j 0):=rfl
          rw [hN]
          have lN:(resN p q Hj j (L.getD j 0)).natAbs ≤ 32212254720000:=by rw [← hN];omega
          clear hN
          generalize resN p q Hj j (L.getD j 0) = N at *
          have ln:=tdiv_lim N p
          have lt:(N.tdiv p * (p:Int)).natAbs ≤ 32212254720000:=by
            rw [Int.natAbs_mul,Int.natAbs_tdiv]
            exact Nat.le_trans (Nat.div_mul_le_self _ _) lN
          have B3:=B3.hx M4
          refine WL.sr <| WOL.mv rfl <| WOL.fa rfl (fa_of fo1128_0) <| WOL.ld rfl (load_one tp3 B3 rfl) <| WOL.quoT rfl rfl (by omega) (by omega) <| WOL.as rfl <| WOL.nil <| keep [(3,_),(5,_),(6,_),(7,_),(14,_),(15,_)] ⟨rfl,rfl,rfl,rfl,rfl,rfl,trivial⟩ ?_
          refine WL.sr <| WOL.mv rfl <| WOL.fa rfl (fa_of fo1128_0) <| WOL.ld rfl (load_one tp3 B3 rfl) <| WOL.mul rfl rfl (by omega) (by omega) <| WOL.mv rfl <| WOL.bi (v:=.bool (N.tdiv p * (p:Int) != N)) rfl rfl rfl <| WOL.cl2 rfl rfl rfl ((k77 H _ _ _).mono ?_)
          rintro u i4 ⟨rfl,rfl⟩
          refine WOL.mv rfl <| WOL.cl1 rfl rfl ((k1225 H (N.tdiv p) _).mono ?_)
          rintro u i4 ⟨rfl,rfl⟩
          refine WOL.cl2 rfl rfl rfl ((k77 H _ _ _).mono ?_)
          rintro u i4 ⟨rfl,rfl⟩
          refine WOL.bsl rfl u166 tp30 (by decide) (by decide) (by decide) (filled_ints _ _) fun i5 M5 => WOL.cl1 rfl rfl ((k71 H (l:=[_,_]) M5.at_.get (by simp)).mono ?_)
          rintro u i5 ⟨rfl,rfl⟩
          rw [resE1_eq]
          have Z:=M4.trans M5.hx
          have zn:=Z.next
          refine WOL.as rfl <| WOL.nil <| keep [(3,_),(5,_),(6,_),(7,_),(15,_),(16,_)] ⟨rfl,rfl,rfl,rfl,rfl,rfl,trivial⟩ ?_
          have fZ:=fM.hx Z
          by_cases e0:resE1 p N ≠ 0
          · have es:=se e0
            have et:=stop (j + 1) (by rw [es];exact e0) (L.length - (j + 1))
            rw [show j + 1 + (L.length - (j + 1)) = L.length by omega,es] at et
            refine WL.seq <| WL.sr <| WOL.mv rfl <| WOL.bt rfl rfl rfl (bne_iff_ne.2 e0) <| WOL.nil <| WL.yes rfl <| WL.sr <| WOL.mv rfl <| WOL.sto (vs:=[zi (resE1 p N)]) rfl rfl tp30 ((OM _ _ (by omega) (by omega) A6).hx Z) rfl rfl (Nat.le_of_ble_eq_true rfl) rfl fZ (by omega) fun i6 M6 => WOL.nil ?_
            have m6:=M6.next
            refine WL.ret fun r k => ⟨.inr ⟨.inl rfl,rfl,?_,fun h0 X a b => M6.hx _ ((XM h0 X a b).trans Z) (by have:=X.next;omega),fun c y a b d A => M6.oth _ _ d ((OM _ _ a b A).hx Z),fb.hx (M6.hx _ ((XM hb Xb b1 b2).trans Z) (by omega)),by omega,?_⟩,M6.oth _ _ (by omega) (AM.hx Z)⟩
            · rw [et];exact e0
            · rw [et];exact M6.at_
          have e0:resE1 p N = 0:=Classical.not_not.1 e0
          have es:=sp e0
          rw [e0]
          refine WL.seq <| WL.sr <| WOL.mv rfl <| WOL.bf rfl rfl rfl rfl <| WOL.nil <| WL.no rfl <| WL.skip ?_
          have k:=k1181 (n:=n - p) (x:=N.tdiv p) H (raM.hx Z) (i:=p + q + j) (by rw [lv];omega) (by omega) (by omega) (by rw [lv];omega) (m:=hb.next) fZ b1 b2
          rw [lv,show n - (p:Int) + ((p + q + j:Nat):Int) = n + (j:Nat) + q by omega] at k
          refine WL.reg <| WOL.ld rfl (load_row tp1194 ((OM _ _ (by omega) (by omega) A5).hx Z) rfl (Nat.le_of_ble_eq_true rfl)) <| WOL.mv rfl <| WOL.fa rfl (fa_of fo1128_1) <| WOL.ld rfl (load_one tp3 (B3.hx M5.hx) rfl) <| WOL.add (m:=n + (j:Nat)) (n:=(q:Int)) rfl rfl (by omega) (by omega) <| WOL.mv rfl <| WOL.cl3 rfl rfl rfl rfl (k.mono ?_)
          rintro u i6 ⟨z6,r6,o6,n6⟩
          refine WOL.nil fun r k => ⟨.inl ⟨rfl,?_⟩,o6 _ _ (by omega) (by omega) (AM.hx Z)⟩
          rw [es]
          refine ⟨rfl,fun h0 X a b => z6 _ ((XM h0 X a b).trans Z) a b,fun c y a b A => o6 _ _ a b ((OM _ _ a b A).hx Z),fb.hx (z6 _ ((XM hb Xb b1 b2).trans Z) b1 b2),by omega,?_⟩
          · rw [List.map_append,List.map_append]
            have e1:=padL_set (l:=Hj.map fun c => c.1) (z:=0) (x:=N.tdiv p) (m:=L.length + (p + q)) (by rw [List.length_map];omega)
            have e2:=padL_set (l:=Hj.map fun c => c.2) (z:=false) (x:=true) (m:=L.length + (p + q)) (by rw [List.length_map];omega)
            rw [List.length_map,show Hj.length = p + q + j by omega] at e1 e2
            rw [e1,e2] at r6
            exact r6
  · rintro g ⟨z0,x1,o,fg,nx,ra⟩
    have lj:=leng L.length z0
    rw [padL_full (by rw [List.length_map,lj];omega),padL_full (by rw [List.length_map,lj];omega)] at ra
    refine WL.sr <| WOL.sto (vs:=[zi 0]) rfl rfl tp30 (o _ _ (by omega) (by omega) A6) rfl rfl (Nat.le_of_ble_eq_true rfl) rfl fg (by omega) fun i1 M1 => WOL.nil ?_
    have:=M1.next
    refine WL.ret (WL.endC rfl (load_one tp30 M1.at_ rfl) ⟨fun h0 X a b => M1.hx _ (x1 h0 X a b) (by have:=X.next;omega),fun c y a b A => M1.oth _ _ (by have:=A.lt;omega) (o _ _ a b (A.hx Y5)),by omega,by rw [z0],fun _ => ⟨M1.oth _ _ (by omega) ra.v,M1.oth _ _ (by omega) ra.k,ra.e,ra.n⟩⟩)
  · rintro _ g ⟨rfl,z0,x1,o,fg,nx,A⟩
    exact fun r k => WL.endC rfl (load_one tp30 A rfl) ⟨x1,fun c y a b A => o _ _ a b (by have:=A.lt;omega) (A.hx Y5),by omega,rfl,fun q => absurd q z0⟩ r k
end
end Go.Tidy
namespace Go.Tidy
open Go Go.Proofs Tab
variable {tp:TProg}
def endE (a b:Int) (X:List Int):Int:=cond ((X.length:Int) != a + b) 2 (firstNZ (X.map readE))
def rngE (n a b:Int) (m:Nat):Int:=cond (decide (n < a)) 14 (cond (decide ((m:Int) + (a + b) > 4096)) 5 (cond (decide (n + m + b > 100000000)) 4 0))
def resTot (n a b:Int) (L:List Int) (S:List (Int × Int)) (X:List Int):Int:=if firstNZ [chordE a b,traceE n L S] ≠ 0 then firstNZ [chordE a b,traceE n L S] else if endE a b X ≠ 0 then endE a b X else if rngE n a b L.length ≠ 0 then rngE n a b L.length else (resJ a.toNat b.toNat X (zipK L S L.length) L.length).1
theorem filled_ints7 (a b c d e f g:Int):filled 1 7 [.int .i64 0] [(0,.int .i64 a),(1,.int .i64 b),(2,.int .i64 c),(3,.int .i64 d),(4,.int .i64 e),(5,.int .i64 f),(6,.int .i64 g)] = some ([a,b,c,d,e,f,g].map (.int .i64)):=by
 simp [filled,zeros,Instr.fill,Value.cells]
theorem first_two {a b:Int} {l:List Int}:firstNZ (a :: b :: l) = if firstNZ [a,b] ≠ 0 then firstNZ [a,b] else firstNZ l:=by
 show cond (a != 0) a (cond (b != 0) b (firstNZ l)) = if cond (a != 0) a (cond (b != 0) b 0) ≠ 0 then cond (a != 0) a (cond (b != 0) b 0) else _
 by_cases h1:a = 0
 ·subst h1
  show cond (b != 0) b (firstNZ l) = if cond (b != 0) b 0 ≠ 0 then cond (b != 0) b 0 else _
  by_cases h2:b = 0
  ·subst h2;rfl
  ·rw [bne_iff_ne.2 h2];show b = if b ≠ 0 then b else _;rw [if_pos h2]
 ·rw [bne_iff_ne.2 h1];show a = if a ≠ 0 then a else _;rw [if_pos h1]
theorem end_rng {n a b:Int} {X:List Int} {m:Nat}:firstNZ [cond ((X.length:Int) != a + b) 2 0,firstNZ (X.map readE),cond (decide (n < a)) 14 0,cond (decide ((m:Int) + (a + b) > 4096)) 5 0,cond (decide (n + m + b > 100000000)) 4 0] = if endE a b X ≠ 0 then endE a b X else rngE n a b m:=by
 unfold endE rngE
 generalize firstNZ (X.map readE) = x
 by_cases hx:x = 0
 ·subst hx
  cases ((X.length:Int) != a + b) <;> cases decide (n < a) <;> cases decide ((m:Int) + (a + b) > 4096) <;> cases decide (n + m + b > 100000000) <;> rfl
 ·cases ((X.length:Int) != a + b) with
  | true => rfl
  | false =>
   show cond (x != 0) x _ = if x ≠ 0 then x else _
   rw [bne_iff_ne.2 hx,if_pos hx];rfl
section
variable {h:TH} {n a b:Int} {v1 v2 w:Value} {L X:List Int} {S:List (Int × Int)}
theorem k1136 (H:Has tp) (s:SlL encI 1 h w X) (lX:X.length ≤ 1000000) :
  CallW Tryz.prog tp (.func (.func 14) #[] #[]) #[w] h fun v h' => HX h h' ∧ ∃ b m k,v = .slice b m k ∧ SlL encI 1 h' v X ∧ ∀ z,bl v = some z → h.next ≤ z:=by
 refine CallW.fnL (H.fn 14 f1136 rfl rfl) ?_
 refine WL.sr <| WOL.as rfl <| WOL.nil ?_
 refine WL.sr <| WOL.bs0 u29 tp3 (by decide) (by decide) fun h1 N1 => WOL.mv rfl ?_
 obtain ⟨u2,h7,ap7,X7,s7,b7,rfl,hb7,F7⟩:=append_own u29 tp3 N1.at_ (s.hx N1.hx) (by omega) (eI.all _)
 exact WOL.ap rfl rfl ap7 <| WOL.as rfl <| WOL.nil <| WL.ret (WL.end_ rfl ⟨N1.hx.trans X7,_,_,_,rfl,s7,fun z hz => by have:b7 = z:=Option.some.inj hz;omega⟩)
theorem k1199w (H:Has tp) (a b:Int) (h:TH):CallW Tryz.prog tp (.func (.func 81) #[] #[]) #[.agg #[zi a,zi b]] h fun v h' => v = zi (fwrap .i64 (a + b)) ∧ HX h h':=by
 refine CallW.fnL (H.fn 81 f1199 rfl rfl) ?_
 refine WL.sr <| WOL.box rfl fun h1 N1 => WOL.as rfl <| WOL.nil <| keep [(1,_)] ⟨rfl,trivial⟩ ?_
 have A1:At h1 h.next (.cells [zi a,zi b] true true 31):=N1.at_
 exact WL.sr <| WOL.fa rfl (fa_of fo1128_0) <| WOL.ld rfl (load_one tp3 A1 rfl) <| WOL.fa rfl (fa_of fo1128_1) <| WOL.ld rfl (load_one tp3 A1 rfl) <| WOL.bi (v:=zi (fwrap .i64 (a + b))) rfl rfl rfl <| WOL.as rfl <| WOL.nil <| WL.ret (WL.end_ rfl ⟨rfl,N1.hx⟩)
set_option maxHeartbeats 8000000 in
set_option maxRecDepth 10000 in
theorem k1135 (H:Has tp) (r:TrcH h v1 v2 L S) (s:SlL encI 1 h w X) (l1:L.length ≤ 900000) (t1:S.length ≤ 900000) (lX:X.length ≤ 900000) (f:Free0 h.next h) :
  CallW Tryz.prog tp (.func (.func 35) #[] #[]) #[.agg #[zi a,zi b],trcV n v1 v2,w] h fun v h' => HX h h' ∧ ProgR (n - a) (resTot n a b L S X) (resJ a.toNat b.toNat X (zipK L S L.length) L.length).2 h.next h' v:=by
 refine CallW.fnL (H.fn 35 f1135 rfl rfl) ?_
 obtain ⟨b1,k1,e1,_⟩:=id r.l
 obtain ⟨b2,k2,e2,_⟩:=id r.s
 subst e1 e2
 refine WL.sr <| WOL.box rfl fun h1 N1 => WOL.box rfl fun h2 N2 => WOL.al tp1117 fun h3 N3 => WOL.as rfl <| WOL.nil <| keep [(2,_),(3,_),(4,_),(6,_)] ⟨rfl,rfl,rfl,rfl,trivial⟩ ?_
 have q1:=N1.next
 have q2:=N2.next
 have q3:=N3.next
 have A3:At h3 h.next (.cells [zi a,zi b] true true 31):=(N1.at_.hx N2.hx).hx N3.hx
 have A4:At h3 h1.next (.cells [zi n,.slice b1 L.length k1,.slice b2 S.length k2] true true 55):=N2.at_.hx N3.hx
 have A6:=N3.at_
 have X3:=(N1.hx.trans N2.hx).trans N3.hx
 have r3:=r.hx X3
 have s3:=s.hx X3
 refine WL.sr <| WOL.ld rfl (load_row tp1128 A3 rfl (Nat.le_of_ble_eq_true rfl)) <| WOL.ld rfl (load_row tp1117 A4 rfl (Nat.le_of_ble_eq_true rfl)) <| WOL.mv rfl <| WOL.len rfl s3 u29 <| WOL.ld rfl (load_row tp1128 A3 rfl (Nat.le_of_ble_eq_true rfl)) <| WOL.mv rfl <| WOL.fa rfl (fa_of fo1117_0) <| WOL.ld rfl (load_one tp3 A4 rfl) <| WOL.fa rfl (fa_of fo1128_0) <| WOL.ld rfl (load_one tp3 A3 rfl) <| WOL.bi (v:=.bool (decide (n < a))) rfl rfl rfl <| WOL.fa rfl (fa_of fo1117_1) <| WOL.ld rfl (load_one tp29 A4 rfl) <| WOL.len rfl r3.l u29 <| WOL.ld rfl (load_row tp1128 A3 rfl (Nat.le_of_ble_eq_true rfl)) <| WOL.ld rfl (load_row tp1117 A4 rfl (Nat.le_of_ble_eq_true rfl)) <| WOL.fa rfl (fa_of fo1128_1) <| WOL.ld rfl (load_one tp3 A3 rfl) ?_
 refine WOL.lk1 rfl rfl fun M => ((k1121 H a b _).mono ?_)
 rintro v h4 ⟨rfl,X4⟩
 replace X4:=X4.relock
 generalize h4.withLock h3.lock = h4 at *
 have q4:=X4.next
 have Y4:=X3.trans X4
 refine WOL.lq1 [h.next,h1.next,h.next,h1.next,h.next,h1.next,h.next] rfl rfl rfl fun M hM => ((k1123 (n:=n) H ((r.hx Y4).relock M) (by omega) (by omega) ((f.on Y4).held hM (fun b hb => by simp at hb;omega))).mono ?_)
 rintro v h5 ⟨rfl,X5⟩
 replace X5:=X5.relock
 generalize h5.withLock h4.lock = h5 at *
 refine WOL.lk1 rfl rfl fun M => ((k1199w H a b _).mono ?_)
 rintro v h6 ⟨rfl,X6⟩
 replace X6:=X6.relock
 generalize h6.withLock h5.lock = h6 at *
 refine WOL.bi (v:=.bool ((X.length:Int) != fwrap .i64 (a + b))) rfl rfl rfl <| WOL.lk2 rfl rfl rfl fun M => ((k77 H _ _ _).mono ?_)
 rintro v h7 ⟨rfl,rfl⟩
 rw [TH.relock]
 have Y6:=(Y4.trans X5).trans X6
 refine WOL.lk2 rfl rfl rfl fun M => ((k1190 H ((s.hx Y6).relock M) (by omega) (fun x => k1191 H x _)).mono ?_)
 rintro v h7 ⟨rfl,rfl⟩
 rw [TH.relock]
 refine WOL.lk2 rfl rfl rfl fun M => ((k77 H _ _ _).mono ?_)
 rintro v h7 ⟨rfl,rfl⟩
 rw [TH.relock]
 refine WOL.lk1 rfl rfl fun M => ((k1199w H a b _).mono ?_)
 rintro v h7 ⟨rfl,X7⟩
 replace X7:=X7.relock
 generalize h7.withLock h6.lock = h7 at *
 refine WOL.bi (v:=zi (fwrap .i64 ((L.length:Int) + fwrap .i64 (a + b)))) rfl rfl rfl <| WOL.bi (v:=.bool (decide (fwrap .i64 ((L.length:Int) + fwrap .i64 (a + b)) > 4096))) rfl rfl rfl <| WOL.lk2 rfl rfl rfl fun M => ((k77 H _ _ _).mono ?_)
 rintro v h8 ⟨rfl,rfl⟩
 rw [TH.relock]
 have Y7:=Y6.trans X7
 refine WOL.lk1 rfl rfl fun M => ((k1183 (n:=n) H ((r.hx Y7).relock M).l).mono ?_)
 rintro v h8 ⟨rfl,X8⟩
 replace X8:=X8.relock
 generalize h8.withLock h7.lock = h8 at *
 refine WOL.bi (v:=zi (fwrap .i64 (fwrap .i64 (n + L.length) + b))) rfl rfl rfl <| WOL.bi (v:=.bool (decide (fwrap .i64 (fwrap .i64 (n + L.length) + b) > 100000000))) rfl rfl rfl <| WOL.cl2 rfl rfl rfl ((k77 H _ _ _).mono ?_)
 rintro v h9 ⟨rfl,rfl⟩
 refine WOL.bsl rfl u166 tp30 (by decide) (by decide) (by decide) (filled_ints7 _ _ _ _ _ _ _) fun h9 N9 => WOL.cl1 rfl rfl ((k71 H (l:=[_,_,_,_,_,_,_]) N9.at_.get (by simp)).mono ?_)
 rintro v h9 ⟨rfl,rfl⟩
 rw [first_two]
 have Z:=((((X4.trans X5).trans X6).trans X7).trans X8).trans N9.hx
 have Y:=X3.trans Z
 replace A3:=A3.hx Z;replace A4:=A4.hx Z;replace A6:=A6.hx Z
 have yn:=Y.next
 have lt6:=A6.lt
 refine WOL.as rfl <| WOL.nil <| keep [(2,_),(3,_),(4,_),(6,_),(8,_)] ⟨rfl,rfl,rfl,rfl,rfl,trivial⟩ ?_
 have fail:∀ e,e ≠ 0 → resTot n a b L S X = e → ∀ y,Kn [(2,w),(3,ptr h.next),(4,ptr h1.next),(6,ptr h2.next),(8,zi e)] y → W Tryz.prog tp false (.seq (.seq (.reg r1135_2) (.cond (.tmp 49) (.seq (.reg r1135_3) .ret) .skip)) (.seq (.reg r1135_4) (.seq (.seq (.reg r1135_5) (.block 0 (.loop (.seq (.reg r1135_6) (.seq (.cond (.tmp 67) .skip (.exit 0)) (.seq (.block 1 (.seq (.reg r1135_7) (.reg r1135_8))) (.reg r1135_9))))))) (.seq (.seq (.reg r1135_10) (.seq (.reg r1135_11) (.cond (.tmp 86) (.seq (.reg r1135_12) .ret) .skip))) (.seq (.reg r1135_13) .ret))))) y h9 (Fin Tryz.prog [.cell 6 55,.tmp 7] fun v h' => HX h h' ∧ ProgR (n - a) (resTot n a b L S X) (resJ a.toNat b.toNat X (zipK L S L.length) L.length).2 h.next h' v):=by
  intro e e0 et
  refine WL.seq <| WL.sr <| WOL.mv rfl <| WOL.bt rfl rfl rfl (bne_iff_ne.2 e0) <| WOL.nil <| WL.yes rfl <| WL.sr <| WOL.bd rfl bd1117z <| WOL.mv rfl <| WOL.sto (vs:=[zi 0,.slice none 0 0,.slice none 0 0]) rfl rfl tp1117 A6 rfl rfl (Nat.le_of_ble_eq_true rfl) rfl (f.hx Y) (by omega) fun i1 M1 => WOL.as rfl <| WOL.nil ?_
  rw [et]
  exact WL.ret (WL.endC1 rfl rfl (load_row tp1117 M1.at_ rfl (Nat.le_of_ble_eq_true rfl)) ⟨M1.hx _ Y (by omega),.inl ⟨e0,rfl⟩⟩)
 by_cases e0:firstNZ [chordE a b,traceE n L S] ≠ 0
 ·rw [if_pos e0]
  exact kto (fail _ e0 (by unfold resTot;rw [if_pos e0])) ⟨rfl,rfl,rfl,rfl,rfl,trivial⟩
 rw [if_neg e0]
 have e0':=Classical.not_not.1 e0
 have all:=firstNZ_zero e0'
 obtain ⟨⟨m1,m2⟩,m3,m4,m5,m6,m7⟩:=trace_ok (all (traceE n L S) (by simp))
 obtain ⟨p1,p2,p3,p4⟩:=chord_ok (all (chordE a b) (by simp))
 rw [fwrap_i64 (n:=a + b) (by omega) (by omega),fwrap_i64 (n:=(L.length:Int) + (a + b)) (by omega) (by omega),fwrap_i64 (n:=n + L.length) (by omega) (by omega),fwrap_i64 (n:=n + L.length + b) (by omega) (by omega),end_rng]
 have tot:resTot n a b L S X = if endE a b X ≠ 0 then endE a b X else if rngE n a b L.length ≠ 0 then rngE n a b L.length else (resJ a.toNat b.toNat X (zipK L S L.length) L.length).1:=by unfold resTot;rw [if_neg e0]
 by_cases e1:endE a b X ≠ 0
 ·rw [if_pos e1] at tot ⊢
  exact kto (fail _ e1 tot) ⟨rfl,rfl,rfl,rfl,rfl,trivial⟩
 rw [if_neg e1] at tot ⊢
 by_cases e2:rngE n a b L.length ≠ 0
 ·rw [if_pos e2] at tot
  exact kto (fail _ e2 tot) ⟨rfl,rfl,rfl,rfl,rfl,trivial⟩
 rw [if_neg e2] at tot
 clear fail
 rw [tot,Classical.not_not.1 e2]
 have e1':=Classical.not_not.1 e1
 have e2':=Classical.not_not.1 e2
 clear tot e0 e1 e2
 obtain ⟨p,rfl⟩:∃ p:Nat,a = p:=⟨a.toNat,by omega⟩
 obtain ⟨q,rfl⟩:∃ q:Nat,b = q:=⟨b.toNat,by omega⟩
 rw [Int.toNat_natCast,Int.toNat_natCast]
 have lX':X.length = p + q:=by
  unfold endE at e1'
  cases c:((X.length:Int) != (p:Int) + q) with
  | true => rw [c] at e1';cases e1'
  | false => have:=bne_eq_false_iff_eq.1 c;omega
 have hX:∀ x,x ∈ X → largeB x = false:=fun x hx => by
  unfold endE at e1'
  rw [show ((X.length:Int) != (p:Int) + q) = false from bne_eq_false_iff_eq.2 (by omega)] at e1'
  have:=firstNZ_zero e1' (readE x) (List.mem_map_of_mem hx)
  unfold largeB
  rw [this];rfl
 have np:(p:Int) ≤ n:=by
  unfold rngE at e2'
  by_cases c:n < p
  ·rw [decide_eq_true c] at e2';cases e2'
  ·omega
 have lM:L.length + (p + q) ≤ 4096:=by
  unfold rngE at e2'
  rw [show decide (n < (p:Int)) = false from decide_eq_false (by omega)] at e2'
  by_cases c:(L.length:Int) + ((p:Int) + q) > 4096
  ·rw [decide_eq_true c] at e2';cases e2'
  ·omega
 clear e1' e2'
 refine WL.seq <| WL.sr <| WOL.mv rfl <| WOL.bf rfl rfl rfl rfl <| WOL.nil <| keep [(2,_),(3,_),(4,_),(6,_),(49,_)] ⟨rfl,rfl,rfl,rfl,rfl,trivial⟩ <| WL.no rfl <| WL.skip ?_
 have r9:=r.hx Y
 have lt3:=A3.lt
 have lt4:=A4.lt
 refine WL.sr <| WOL.fa rfl (fa_of fo1117_0) <| WOL.ld rfl (load_one tp3 A4 rfl) <| WOL.fa rfl (fa_of fo1128_0) <| WOL.ld rfl (load_one tp3 A3 rfl) <| WOL.sub (m:=n) (n:=(p:Int)) rfl rfl (by omega) (by omega) <| WOL.fa rfl (fa_of fo1117_1) <| WOL.ld rfl (load_one tp29 A4 rfl) <| WOL.len rfl r9.l u29 <| WOL.ld rfl (load_row tp1128 A3 rfl (Nat.le_of_ble_eq_true rfl)) <| WOL.al tp1194 fun g1 M1 => ?_
 have n1:=M1.next
 refine WOL.lk1 rfl rfl fun M => ((k1199 H (a:=(p:Int)) (b:=(q:Int)) (by omega) (by omega) (by omega) (by omega) _).mono ?_)
 rintro v g2 ⟨rfl,G2⟩
 replace G2:=G2.relock
 generalize g2.withLock g1.lock = g2 at *
 have n2:=G2.next
 have W2:=(Y.trans M1.hx).trans G2
 refine WOL.add (m:=(L.length:Int)) (n:=(p:Int) + q) rfl rfl (by omega) (by omega) ?_
 rw [show (L.length:Int) + ((p:Int) + q) = ((L.length + (p + q):Nat):Int) by omega]
 refine WOL.lq2 [h9.next] rfl rfl rfl rfl fun M hM => ((k1178 (h:=g2.withLock M) (n:=n - p) (m:=L.length + (p + q)) H (by omega) ((f.on W2).held hM (fun b hb => by simp at hb;omega))).mono ?_)
 rintro v g3 ⟨G3,hv,hk,rfl,a1,a2,T⟩
 replace G3:=G3.relock
 replace T:RowA (g3.withLock g2.lock) hv hk (List.replicate (L.length + (p + q)) 0) (List.replicate (L.length + (p + q)) false):=⟨T.v.relock _,T.k.relock _,T.e,T.n⟩
 replace a1:g2.next ≤ hv:=a1
 replace a2:g2.next ≤ hk:=a2
 generalize g3.withLock g2.lock = g3 at *
 have n3:=G3.next
 have W3:=W2.trans G3
 have t1':=T.v.lt
 have t2':=T.k.lt
 refine WOL.sto (vs:=[zi (n - p),slA hv (L.length + (p + q)),.slice none 0 0,slA hk (L.length + (p + q))]) rfl rfl tp1194 ((M1.at_.hx G2).hx G3) rfl rfl (Nat.le_of_ble_eq_true rfl) rfl (f.hx W3) (by omega) fun g4 P4 => WOL.nil <| keep [(2,_),(3,_),(4,_),(6,_),(9,_)] ⟨rfl,rfl,rfl,rfl,rfl,trivial⟩ ?_
 have n4:=P4.next
 have W4:HX h g4:=P4.hx _ W3 (by omega)
 have Z4:HX h9 g4:=P4.hx _ ((M1.hx.trans G2).trans G3) (Nat.le_refl _)
 have A9:At g4 h9.next (.cells [zi (n - p),slA hv (L.length + (p + q)),.slice none 0 0,slA hk (L.length + (p + q))] true true 148):=P4.at_
 have T4:RowA g4 hv hk (padL (((X.take 0).map fun x => (x,true)).map fun c => c.1) 0 (L.length + (p + q))) (padL (((X.take 0).map fun x => (x,true)).map fun c => c.2) false (L.length + (p + q))):=⟨P4.oth _ _ (by omega) T.v,P4.oth _ _ (by omega) T.k,T.e,T.n⟩
 replace A3:=A3.hx Z4;replace A4:=A4.hx Z4;replace A6:=A6.hx Z4
 clear P4
 have sX:=s.hx W4
 -- the ends
 refine WL.seq <| WL.sr <| WOL.mv rfl <| WOL.len rfl sX u29 <| WOL.mv rfl <| WOL.nil <| keep [(3,_),(4,_),(6,_),(9,_),(64,_),(65,_),(66,_)] ⟨rfl,rfl,rfl,rfl,rfl,rfl,rfl,trivial⟩ ?_
 refine WL.upto (α:=Unit) X.length (fun j _ g => (∀ h0,HX h0 g4 → h0.next ≤ hv → h0.next ≤ hk → HX h0 g) ∧ (∀ c y,c ≠ hv → c ≠ hk → At g4 c y → At g c y) ∧ g4.next ≤ g.next ∧ RowA g hv hk (padL (((X.take j).map fun x => (x,true)).map fun c => c.1) 0 (L.length + (p + q))) (padL (((X.take j).map fun x => (x,true)).map fun c => c.2) false (L.length + (p + q)))) (fun _ _ => [(3,ptr h.next),(4,ptr h1.next),(6,ptr h2.next),(9,ptr h9.next),(64,w),(65,zi (X.length:Nat))]) () rfl rfl (by omega) ⟨fun _ x _ _ => x,fun _ _ _ _ a => a,Nat.le_refl _,T4⟩ ⟨rfl,rfl,rfl,rfl,rfl,rfl,rfl,trivial⟩ (fun _ _ => rfl) (fun _ _ _ => ⟨rfl,rfl,rfl,rfl,rfl,rfl,rfl,trivial⟩) (fun _ _ _ => ⟨rfl,rfl,rfl,rfl,rfl,rfl,rfl,trivial⟩) ?_ ?_
 ·rintro j _ g hj ⟨x1,o,nx,ra⟩
  have hp:X[j]? = some X[j]:=List.getElem?_eq_getElem hj
  have ht:X.take (j + 1) = X.take j ++ [X[j]]:=(List.take_append_getElem hj).symm
  have Wg:=x1 h W4 (by omega) (by omega)
  obtain ⟨_,_,cc,fix,wr,el,g1',g2',g3',g4',g5'⟩:=(s.hx Wg).at eI u29 tp3 hp .i64
  have gx:=g5' 0 (by decide)
  rw [Nat.add_zero] at gx
  generalize X[j] = x at *
  have lt:(X.take j).length = j:=by rw [List.length_take];omega
  have lv:(padL (((X.take j).map fun x => (x,true)).map fun c => c.1) 0 (L.length + (p + q))).length = L.length + (p + q):=padL_len (by rw [List.length_map,List.length_map,lt];omega)
  have B9:=o _ _ (by omega) (by omega) A9
  refine WL.sr <| WOL.mv rfl <| WOL.ix rfl rfl g1' <| WOL.ld rfl (load_one tp3 g2' gx) <| WOL.as rfl <| WOL.as rfl <| WOL.nil <| keep [(3,_),(4,_),(6,_),(9,_),(10,_),(11,_),(64,_),(65,_),(66,_)] ⟨rfl,rfl,rfl,rfl,rfl,rfl,rfl,rfl,rfl,trivial⟩ ?_
  have k:=k1181 (n:=n - p) (x:=x) H ra (i:=j) (by rw [lv];omega) (by omega) (by omega) (by rw [lv];omega) (m:=h.next) (f.hx Wg) (by omega) (by omega)
  rw [lv] at k
  refine WL.reg <| WOL.ld rfl (load_row tp1194 B9 rfl (Nat.le_of_ble_eq_true rfl)) <| WOL.fa rfl (fa_of fo1194_0) <| WOL.fa rfl (fa_of fo1117_0) <| WOL.ld rfl (load_one tp3 B9 rfl) <| WOL.mv rfl <| WOL.add (m:=n - (p:Int)) (n:=((j:Nat):Int)) rfl rfl (by omega) (by omega) <| WOL.mv rfl <| WOL.cl3 rfl rfl rfl rfl (k.mono ?_)
  rintro u i6 ⟨z6,r6,o6,n6⟩
  refine WOL.nil fun r k => ⟨(),⟨fun h0 X a b => z6 _ (x1 h0 X a b) a b,fun c y a b A => o6 _ _ a b (o _ _ a b A),by omega,?_⟩,k.sub ⟨rfl,rfl,rfl,rfl,rfl,rfl,rfl,trivial⟩⟩
  have e1:=padL_set (l:=((X.take j).map fun x => (x,true)).map fun c => c.1) (z:=0) (x:=x) (m:=L.length + (p + q)) (by rw [List.length_map,List.length_map,lt];omega)
  have e2:=padL_set (l:=((X.take j).map fun x => (x,true)).map fun c => c.2) (z:=false) (x:=true) (m:=L.length + (p + q)) (by rw [List.length_map,List.length_map,lt];omega)
  rw [List.length_map,List.length_map,lt] at e1 e2
  rw [e1,e2] at r6
  rw [ht,List.map_append,List.map_append,List.map_append]
  exact r6
 ·rintro _ g5 ⟨x5,o5,n5,ra⟩
  have ra:RowA g5 hv hk (padL (((X.take X.length).map fun x => (x,true)).map fun c => c.1) 0 (L.length + (p + q))) (padL (((X.take X.length).map fun x => (x,true)).map fun c => c.2) false (L.length + (p + q))):=ra
  rw [List.take_length] at ra
  have W5:=x5 h W4 (by omega) (by omega)
  have A3:=o5 _ _ (by omega) (by omega) A3
  have A4:=o5 _ _ (by omega) (by omega) A4
  have A6:=o5 _ _ (by omega) (by omega) A6
  have A9:=o5 _ _ (by omega) (by omega) A9
  refine keep [(3,_),(4,_),(6,_),(9,_)] ⟨rfl,rfl,rfl,rfl,trivial⟩ ?_
  -- the readings
  refine WL.seq <| WL.sr <| WOL.ld rfl (load_row tp1128 A3 rfl (Nat.le_of_ble_eq_true rfl)) <| WOL.ld rfl (load_row tp1117 A4 rfl (Nat.le_of_ble_eq_true rfl)) <| WOL.ld rfl (load_row tp1194 A9 rfl (Nat.le_of_ble_eq_true rfl)) ?_
  refine WOL.lq1 [h9.next,h.next] rfl rfl rfl fun M hM => ((k1177 H ((r.hx W5).relock M) (by omega) (by omega) (holeE_in m4) ((f.on W5).held hM (fun b hb => by simp at hb;omega))).mono ?_)
  rintro v g6 ⟨G6,rv,rk,rfl,a3,a4,R⟩
  replace G6:=G6.relock
  replace R:RowA (g6.withLock g5.lock) rv rk L (knownL S L.length):=⟨R.v.relock _,R.k.relock _,R.e,R.n⟩
  replace a3:g5.next ≤ rv:=a3
  replace a4:g5.next ≤ rk:=a4
  generalize g6.withLock g5.lock = g6 at *
  have n6:=G6.next
  have W6:=W5.trans G6
  have v1:=ra.v.lt
  have v2:=ra.k.lt
  replace A3:=A3.hx G6;replace A4:=A4.hx G6;replace A6:=A6.hx G6;replace A9:=A9.hx G6;replace ra:=ra.hx G6
  have k:=k1200 (n:=n) (p:=p) (q:=q) (E:=X) H R ra (by omega) (by omega) (by omega) (by omega) hX lX' (by omega) (by omega) (by omega) (by omega) m3 (by omega) (by omega) l1 W6 f (by omega) (by omega)
  refine WOL.cl3 rfl rfl rfl rfl (k.mono ?_)
  rintro v g7 ⟨x7,o7,n7,rfl,fin⟩
  have W7:=x7 h W6 (by omega) (by omega)
  have A6:=o7 _ _ (by omega) (by omega) A6
  have A9:=o7 _ _ (by omega) (by omega) A9
  refine WOL.as rfl <| WOL.nil <| keep [(6,_),(9,_),(12,_)] ⟨rfl,rfl,rfl,trivial⟩ ?_
  have fine:=resJ_fine (p:=p) (q:=q) (C:=zipK L S L.length) hX L.length
  have leng:=resJ_len (p:=p) (q:=q) (E:=X) (C:=zipK L S L.length) L.length
  generalize hJ:resJ p q X (zipK L S L.length) L.length = J at *
  obtain ⟨er,C⟩:=J
  replace fine:HFine C:=fine
  by_cases e3:er = 0
  ·subst e3
   have ra:=fin rfl
   replace leng:C.length = X.length + L.length:=leng rfl
   have lc:(C.map fun c => c.1).length = L.length + (p + q):=by rw [List.length_map];omega
   refine WL.sr <| WOL.mv rfl <| WOL.bf rfl rfl rfl rfl <| WOL.nil <| WL.no rfl <| WL.skip ?_
   have kk:=k1186 (n:=n - p) H ra (by rw [lc];omega) (f.on W7)
   rw [lc] at kk
   refine WL.sr <| WOL.ld rfl (load_row tp1194 A9 rfl (Nat.le_of_ble_eq_true rfl)) <| WOL.cl1 rfl rfl (kk.mono ?_)
   rintro v g8 ⟨G8,w8,rfl,to⟩
   obtain ⟨b2,m2,k2,rfl⟩:=to.form
   have W8:=W7.trans G8
   refine WOL.sto (vs:=[zi (n - p),slA hv (L.length + (p + q)),.slice b2 m2 k2]) rfl rfl tp1117 (A6.hx G8) rfl rfl (Nat.le_of_ble_eq_true rfl) rfl (f.hx W8) (by omega) fun i1 M1 => WOL.as rfl <| WOL.nil ?_
   refine WL.ret (WL.endC1 rfl rfl (load_row tp1117 M1.at_ rfl (Nat.le_of_ble_eq_true rfl)) ⟨M1.hx _ W8 (by omega),.inr (.inr ⟨rfl,fine.big,hv,_,by rw [show C.length = L.length + (p + q) by omega];rfl,by omega,?_⟩)⟩)
   rw [fine.val]
   exact (to.put M1 (by omega) (by omega)).low (by omega)
  ·refine WL.sr <| WOL.mv rfl <| WOL.bt rfl rfl rfl (bne_iff_ne.2 e3) <| WOL.nil <| WL.yes rfl <| WL.sr <| WOL.bd rfl bd1117z <| WOL.mv rfl <| WOL.sto (vs:=[zi 0,.slice none 0 0,.slice none 0 0]) rfl rfl tp1117 A6 rfl rfl (Nat.le_of_ble_eq_true rfl) rfl (f.hx W7) (by omega) fun i1 M1 => WOL.as rfl <| WOL.nil ?_
   exact WL.ret (WL.endC1 rfl rfl (load_row tp1117 M1.at_ rfl (Nat.le_of_ble_eq_true rfl)) ⟨M1.hx _ W7 (by omega),.inl ⟨e3,rfl⟩⟩)
end
end Go.Tidy
namespace Go.Tidy
open Go Go.Proofs Tab
variable {tp:TProg}
def agreeB (A B:List Int) (KA KB:List Bool) (m:Nat):Bool:=(List.range m).all fun i => !(KA.getD i false && KB.getD i false && (A.getD i 0 != B.getD i 0))
section
variable {A B:List Int} {KA KB:List Bool} {j m:Nat}
theorem agree_succ (h:agreeB A B KA KB j = true) (hj:(KA.getD j false && KB.getD j false && (A.getD j 0 != B.getD j 0)) = false):agreeB A B KA KB (j + 1) = true:=by
 unfold agreeB at h ⊢
 rw [List.range_succ,List.all_append,h]
 simp only [List.all_cons,List.all_nil,hj]
 rfl
theorem agree_not (h:j < m) (hj:(KA.getD j false && KB.getD j false && (A.getD j 0 != B.getD j 0)) = true):agreeB A B KA KB m = false:=by
 cases hc:agreeB A B KA KB m with
 | false => rfl
 | true =>
  unfold agreeB at hc
  have:=List.all_eq_true.1 hc j (List.mem_range.2 h)
  rw [hj] at this
  exact absurd this (by decide)
end
section
variable {h:TH} {n:Int} {A B:List Int} {KA KB:List Bool} {av ak bv bk:Nat}
set_option maxHeartbeats 4000000 in
set_option maxRecDepth 10000 in
theorem k1201 (H:Has tp) (R:RowA h av ak A KA) (T:RowA h bv bk B KB) (hl:B.length = A.length) (n0:0 ≤ n) (n1:n ≤ 1000000000) (lA:A.length ≤ 1000000) (f:Free0 h.next h) :
    CallW Tryz.prog tp (.func (.func 105) #[] #[]) #[rowV n (slA av A.length) (slA ak A.length),rowV n (slA bv A.length) (slA bk A.length)] h fun v h' => v = .bool (agreeB A B KA KB A.length) ∧ HX h h':=by
  refine CallW.fnL (H.fn 105 f1201 rfl rfl) ?_
  refine WL.sr <| WOL.box rfl fun h1 N1 => WOL.box rfl fun h2 N2 => WOL.as rfl <| WOL.nil <| keep [(2,_),(3,_),(4,_)] ⟨rfl,rfl,rfl,trivial⟩ ?_
  have q1:=N1.next
  have q2:=N2.next
  refine WL.sr <| WOL.al tp4 fun h3 N3 => WOL.sto (vs:=[.bool true]) rfl rfl tp4 N3.at_ rfl rfl (Nat.le_of_ble_eq_true rfl) rfl (f.hx ((N1.hx.trans N2.hx).trans N3.hx)) (by omega) fun h4 P4 => WOL.nil <| keep [(2,_),(3,_),(4,_),(5,_)] ⟨rfl,rfl,rfl,rfl,trivial⟩ ?_
  have q3:=N3.next
  have q4:=P4.next
  have X4:HX h h4:=P4.hx _ ((N1.hx.trans N2.hx).trans N3.hx) (by omega)
  have A2:At h4 h.next (.cells [zi n,slA av A.length,.slice none 0 0,slA ak A.length] true true 148):=P4.oth _ _ (by omega) ((N1.at_.hx N2.hx).hx N3.hx)
  have A3:At h4 h1.next (.cells [zi n,slA bv A.length,.slice none 0 0,slA bk A.length] true true 148):=P4.oth _ _ (by omega) (N2.at_.hx N3.hx)
  have A5:At h4 h2.next (.cells [.bool true] true true 4):=P4.at_
  refine WL.seq <| WL.skip <| WL.seq <| WL.sr <| WOL.fa rfl (fa_of fo1194_0) <| WOL.ld rfl (load_row tp1117 A2 (l:=[zi n,slA av A.length,.slice none 0 0]) rfl (Nat.le_of_ble_eq_true rfl)) <| WOL.cl1 rfl rfl ((k1179 H h4).mono ?_)
  rintro v h5 ⟨cc,rfl,X5,Ac,ac⟩
  have q5:=X5.next
  have lc:=Ac.lt
  have Y5:=X4.trans X5
  replace A2:=A2.hx X5;replace A3:=A3.hx X5;replace A5:=A5.hx X5
  have R5:=R.hx Y5
  have T5:=T.hx Y5
  have lr1:=R.v.lt
  have lr2:=R.k.lt
  have lt1:=T.v.lt
  have lt2:=T.k.lt
  refine WOL.nil <| keep [(2,_),(3,_),(4,_),(5,_),(13,_)] ⟨rfl,rfl,rfl,rfl,rfl,trivial⟩ ?_
  refine WL.block <| WL.rangeX rfl (H.fn 164 f1224 rfl rfl) (yX1224 (v1:=slA av A.length) (v2:=.slice none 0 0) H (n:=n) n0 n1 (m:=A.length) lA) (fun j g => agreeB A B KA KB j = true ∧ HX h g ∧ (∀ c y,c ≠ h2.next → At h5 c y → At g c y) ∧ h5.next ≤ g.next ∧ At g h2.next (.cells [.bool true] true true 4)) (fun e g => e = .exit 0 ∧ agreeB A B KA KB A.length = false ∧ HX h g ∧ h5.next ≤ g.next ∧ At g h2.next (.cells [.bool false] true true 4)) ?_ ?_ ?_ ?_ ?_ ?_ ?_ ?_ ?_
  · rintro j g ⟨_,_,o,_⟩
    exact ⟨o _ _ (by omega) Ac,A,rfl,SlL.own eI (o _ _ (by omega) R5.v) rfl⟩
  · rintro j g ⟨_,X,o,nx,_⟩
    exact (f.hx X).up (by omega)
  · rintro e g ⟨_,_,X,nx,_⟩
    exact (f.hx X).up (by omega)
  · rintro j g g' x ⟨z0,X,o,nx,A⟩ P
    exact ⟨z0,P.hx _ X (by omega),fun c y a A => P.oth _ _ (by have:=A.lt;omega) (o _ _ a A),by rw [P.next];exact nx,P.oth _ _ (by omega) A⟩
  · rintro e g g' x ⟨ee,z0,X,nx,A⟩ P
    exact ⟨ee,z0,P.hx _ X (by omega),by rw [P.next];exact nx,P.oth _ _ (by omega) A⟩
  · rintro g x N
    have:=N.next
    exact ⟨rfl,Y5.trans N.hx,fun c y _ A => A.hx N.hx,by omega,A5.hx N.hx⟩
  · rintro j g x hj _ A'
    refine WL.reg <| WOL.as rfl <| WOL.nil ?_
    intro r' hr
    refine ⟨rfl,rfl,fun g2 xx ⟨z0,X,o,nx,B5⟩ A1 => ?_⟩
    refine hr.go ?_
    have B2:=o _ _ (by omega) A2
    have B3:=o _ _ (by omega) A3
    have RR:RowA g2 av ak A KA:=⟨o _ _ (by omega) R5.v,o _ _ (by omega) R5.k,R5.e,R5.n⟩
    have TT:RowA g2 bv bk B KB:=⟨o _ _ (by omega) T5.v,o _ _ (by omega) T5.k,T5.e,T5.n⟩
    refine WL.block <| WL.sr <| WOL.ld rfl (load_row tp1194 B2 rfl (Nat.le_of_ble_eq_true rfl)) <| WOL.mv rfl <| WOL.cl2 rfl rfl rfl ((k1180 (n:=n) H RR hj n0 n1 lA).mono ?_)
    rintro u i1 ⟨rfl,M1⟩
    refine WOL.mv rfl <| WOL.ex rfl rfl <| WOL.ex rfl rfl <| WOL.as rfl <| WOL.as rfl <| WOL.nil <| keep [(2,_),(3,_),(4,_),(5,_),(6,_),(7,_),(8,_)] ⟨rfl,rfl,rfl,rfl,rfl,rfl,rfl,trivial⟩ ?_
    have k2:=k1180 (n:=n) (i:=j) H (TT.hx M1) (by omega) n0 n1 (by omega)
    rw [hl] at k2
    refine WL.sr <| WOL.ld rfl (load_row tp1194 (B3.hx M1) rfl (Nat.le_of_ble_eq_true rfl)) <| WOL.mv rfl <| WOL.cl2 rfl rfl rfl (k2.mono ?_)
    rintro u i2 ⟨rfl,M2⟩
    refine WOL.mv rfl <| WOL.ex rfl rfl <| WOL.ex rfl rfl <| WOL.as rfl <| WOL.as rfl <| WOL.nil <| keep [(4,_),(5,_),(7,_),(8,_),(9,_),(10,_)] ⟨rfl,rfl,rfl,rfl,rfl,rfl,trivial⟩ ?_
    have M:=M1.trans M2
    have mn:=M.next
    have AM:=A1.hx M
    have on:(KA.getD j false && KB.getD j false && (A.getD j 0 != B.getD j 0)) = false → agreeB A B KA KB (j + 1) = true ∧ HX h i2 ∧ (∀ c y,c ≠ h2.next → At h5 c y → At i2 c y) ∧ h5.next ≤ i2.next ∧ At i2 h2.next (.cells [.bool true] true true 4):=fun e => ⟨agree_succ z0 e,X.trans M,fun c y a A => (o _ _ a A).hx M,by omega,B5.hx M⟩
    have off:=agree_not (A:=A) (B:=B) (KA:=KA) (KB:=KB) (j:=j) hj
    clear k2 B2 B3 RR TT
    generalize KA.getD j false = ka at *
    generalize KB.getD j false = kb at *
    cases ka with
    | false => exact WL.block <| WL.sr <| WOL.mv rfl <| WOL.nt rfl <| WOL.mv rfl <| WOL.skp (b:=true) rfl rfl <| WOL.skp (b:=true) rfl rfl <| WOL.pkt rfl rfl <| WOL.as rfl <| WOL.nil <| WL.yes rfl <| WL.exit fun r k => ⟨.inl ⟨rfl,on rfl⟩,AM⟩
    | true =>
      cases kb with
      | false => exact WL.block <| WL.sr <| WOL.mv rfl <| WOL.nt rfl <| WOL.mv rfl <| WOL.now (b:=false) rfl rfl <| WOL.mv rfl <| WOL.now (b:=false) rfl rfl <| WOL.nt rfl <| WOL.pkf rfl rfl <| WOL.as rfl <| WOL.nil <| WL.yes rfl <| WL.exit fun r k => ⟨.inl ⟨rfl,on rfl⟩,AM⟩
      | true =>
        refine WL.block <| WL.sr <| WOL.mv rfl <| WOL.nt rfl <| WOL.mv rfl <| WOL.now (b:=false) rfl rfl <| WOL.mv rfl <| WOL.now (b:=false) rfl rfl <| WOL.nt rfl <| WOL.pkf rfl rfl <| WOL.as rfl <| WOL.nil <| WL.no rfl ?_
        by_cases e:A.getD j 0 = B.getD j 0
        · refine WL.sr <| WOL.mv rfl <| WOL.mv rfl <| WOL.bf rfl rfl rfl (bne_eq_false_iff_eq.2 e) <| WOL.as rfl <| WOL.nil <| WL.no rfl <| WL.skip fun r k => ⟨.inl ⟨rfl,on ?_⟩,AM⟩
          rw [e,bne_self_eq_false];rfl
        · refine WL.sr <| WOL.mv rfl <| WOL.mv rfl <| WOL.bt rfl rfl rfl (bne_iff_ne.2 e) <| WOL.as rfl <| WOL.nil <| WL.yes rfl <| WL.sr <| WOL.sto (vs:=[.bool false]) rfl rfl tp4 (B5.hx M) rfl rfl (Nat.le_of_ble_eq_true rfl) rfl (f.hx (X.trans M)) (by omega) fun i3 M3 => WOL.nil ?_
          have m3:=M3.next
          refine WL.exit fun r k => ⟨.inr ⟨.inr ⟨0,rfl⟩,rfl,off ?_,M3.hx _ (X.trans M) (by omega),by omega,M3.at_⟩,M3.oth _ _ (by omega) AM⟩
          rw [bne_iff_ne.2 e];rfl
  · rintro g ⟨z0,X,o,nx,A⟩
    refine WL.sr <| WOL.ld rfl (load_one tp4 A rfl) <| WOL.as rfl <| WOL.nil <| WL.ret (WL.end_ rfl ⟨?_,X⟩)
    rw [z0];rfl
  · rintro _ g ⟨rfl,z0,X,nx,A⟩
    refine WL.sr <| WOL.ld rfl (load_one tp4 A rfl) <| WOL.as rfl <| WOL.nil <| WL.ret (WL.end_ rfl ⟨?_,X⟩)
    rw [z0];rfl
end
end Go.Tidy
namespace Go.Tidy
open Go Go.Proofs Tab
variable {tp:TProg}
def agnR (n:Int) (p q:Nat) (L:List Int) (S:List (Int × Int)) (n':Int) (L':List Int) (S':List (Int × Int)):Bool × Int :=
  if L.length ≤ p + q then (false,16) else if bigC (tapC L S (vTn p q) (L.length - (p + q))) = true then (false,4) else if ¬ (n + p = n' ∧ L.length - (p + q) = L'.length) then (false,2) else
    (agreeB (valC (tapC L S (vTn p q) (L.length - (p + q)))) L' ((tapC L S (vTn p q) (L.length - (p + q))).map fun c => c.2) (knownL S' L'.length) L'.length,0)
def agnO (n a b:Int) (L:List Int) (S:List (Int × Int)) (n':Int) (L':List Int) (S':List (Int × Int)):Bool × Int :=
 if firstNZ [chordE a b,traceE n L S,traceE n' L' S'] ≠ 0 then (false,firstNZ [chordE a b,traceE n L S,traceE n' L' S']) else agnR n a.toNat b.toNat L S n' L' S'
theorem TrcO.relock {n0 bv:Nat} {g:TH} {w:Value} {L:List Int} {S:List (Int × Int)} (r:TrcO n0 g bv w L S) (M:List Nat):TrcO n0 (g.withLock M) bv w L S:=⟨r.v.relock _,r.s.keep fun z y hz a => a.relock _⟩
section
variable {h:TH} {n n' a b:Int} {v1 v2 w1 w2:Value} {L L':List Int} {S S':List (Int × Int)}
set_option maxHeartbeats 8000000 in
set_option maxRecDepth 10000 in
theorem k1137 (H:Has tp) (r:TrcH h v1 v2 L S) (r':TrcH h w1 w2 L' S') (l1:L.length ≤ 900000) (t1:S.length ≤ 900000) (l2:L'.length ≤ 900000) (t2:S'.length ≤ 900000) (f:Free0 h.next h) :
  CallW Tryz.prog tp (.func (.func 36) #[] #[]) #[.agg #[zi a,zi b],trcV n v1 v2,trcV n' w1 w2] h fun v h' => v = .tuple #[.bool (agnO n a b L S n' L' S').1,zi (agnO n a b L S n' L' S').2] ∧ HX h h':=by
 refine CallW.fnL (H.fn 36 f1137 rfl rfl) ?_
 obtain ⟨b1,k1,e1,_⟩:=id r.l
 obtain ⟨b2,k2,e2,_⟩:=id r.s
 obtain ⟨b3,k3,e3,_⟩:=id r'.l
 obtain ⟨b4,k4,e4,_⟩:=id r'.s
 subst e1 e2 e3 e4
 refine WL.sr <| WOL.box rfl fun h1 N1 => WOL.box rfl fun h2 N2 => WOL.box rfl fun h3 N3 => WOL.as rfl <| WOL.as rfl <| WOL.nil <| keep [(3,_),(4,_),(5,_)] ⟨rfl,rfl,rfl,trivial⟩ ?_
 have q1:=N1.next
 have q2:=N2.next
 have q3:=N3.next
 have A3:At h3 h.next (.cells [zi a,zi b] true true 31):=(N1.at_.hx N2.hx).hx N3.hx
 have A4:At h3 h1.next (.cells [zi n,.slice b1 L.length k1,.slice b2 S.length k2] true true 55):=N2.at_.hx N3.hx
 have A5:At h3 h2.next (.cells [zi n',.slice b3 L'.length k3,.slice b4 S'.length k4] true true 55):=N3.at_
 have X3:=(N1.hx.trans N2.hx).trans N3.hx
 refine WL.seq <| WL.sr <| WOL.ld rfl (load_row tp1128 A3 rfl (Nat.le_of_ble_eq_true rfl)) <| WOL.ld rfl (load_row tp1117 A4 rfl (Nat.le_of_ble_eq_true rfl)) <| WOL.ld rfl (load_row tp1117 A5 rfl (Nat.le_of_ble_eq_true rfl)) ?_
 refine WOL.lk1 rfl rfl fun M => ((k1121 H a b _).mono ?_)
 rintro v h4 ⟨rfl,X4⟩
 replace X4:=X4.relock
 generalize h4.withLock h3.lock = h4 at *
 have Y4:=X3.trans X4
 have y4:=X4.next
 refine WOL.lq1 [h2.next] rfl rfl rfl fun M hM => ((k1123 (n:=n) H ((r.hx Y4).relock M) (by omega) (by omega) ((f.on Y4).held hM (fun b hb => by simp at hb;omega))).mono ?_)
 rintro v h5 ⟨rfl,X5⟩
 replace X5:=X5.relock
 generalize h5.withLock h4.lock = h5 at *
 have Y5:=Y4.trans X5
 refine WOL.cl1 rfl rfl ((k1123 (n:=n') H (r'.hx Y5) (by omega) (by omega) (f.on Y5)).mono ?_)
 rintro v h6 ⟨rfl,X6⟩
 refine WOL.bsl rfl u166 tp30 (by decide) (by decide) (by decide) (filled_ints3 _ _ _) fun h7 N7 => WOL.cl1 rfl rfl ((k71 H (l:=[_,_,_]) N7.at_.get (by simp)).mono ?_)
 rintro v h7 ⟨rfl,rfl⟩
 have Z:=((X4.trans X5).trans X6).trans N7.hx
 have Y:=X3.trans Z
 replace A3:=A3.hx Z;replace A4:=A4.hx Z;replace A5:=A5.hx Z
 have yn:=Z.next
 have fY:=f.hx Y
 refine WOL.as rfl <| WOL.nil <| keep [(3,_),(4,_),(5,_),(8,_)] ⟨rfl,rfl,rfl,rfl,trivial⟩ ?_
 unfold agnO
 generalize hE:firstNZ [chordE a b,traceE n L S,traceE n' L' S'] = E
 by_cases e0:E ≠ 0
 ·rw [if_pos e0]
  exact WL.sr <| WOL.mv rfl <| WOL.bt rfl rfl rfl (bne_iff_ne.2 e0) <| WOL.nil <| WL.yes rfl <| WL.sr <| WOL.mv rfl <| WOL.as rfl <| WOL.as rfl <| WOL.nil <| WL.ret (WL.end_ rfl ⟨rfl,Y⟩)
 rw [if_neg e0]
 have e0:E = 0:=Classical.not_not.1 e0
 subst e0
 have all:=firstNZ_zero hE
 obtain ⟨⟨m1,m2⟩,m3,m4,m5,m6,m7⟩:=trace_ok (all (traceE n L S) (by simp))
 obtain ⟨⟨m1',m2'⟩,m3',m4',m5',m6',m7'⟩:=trace_ok (all (traceE n' L' S') (by simp))
 obtain ⟨p1,p2,p3,p4⟩:=chord_ok (all (chordE a b) (by simp))
 obtain ⟨p,rfl⟩:∃ p:Nat,a = p:=⟨a.toNat,by omega⟩
 obtain ⟨q,rfl⟩:∃ q:Nat,b = q:=⟨b.toNat,by omega⟩
 rw [Int.toNat_natCast,Int.toNat_natCast]
 refine WL.sr <| WOL.mv rfl <| WOL.bf rfl rfl rfl rfl <| WOL.nil <| WL.no rfl <| WL.skip <| keep [(3,_),(4,_),(5,_)] ⟨rfl,rfl,rfl,trivial⟩ ?_
 -- measured
 refine WL.sr <| WOL.ld rfl (load_row tp1117 A4 rfl (Nat.le_of_ble_eq_true rfl)) <| WOL.ld rfl (load_row tp1128 A3 rfl (Nat.le_of_ble_eq_true rfl)) <| WOL.al tp1117 fun h8 N8 => ?_
 have q8:=N8.next
 have Y8:=Y.trans N8.hx
 refine WOL.lk1 rfl rfl fun M => ((k1194 H (a:=p) (b:=q) (by omega) (by omega) (by omega) (by omega) _).mono ?_)
 rintro v g1 ⟨Xg,c,rfl,hc,Ac⟩
 replace Xg:=Xg.relock
 replace Ac:=Ac.relock h8.lock
 replace hc:h8.next ≤ c:=hc
 generalize g1.withLock h8.lock = g1 at *
 rw [← vTapD] at Ac
 have Yg:=Y8.trans Xg
 have xg:=Xg.next
 refine WOL.lq2 [h7.next] rfl rfl rfl rfl fun M hM => ((k1193 (n:=n) (W:=p + q) (c:=-(p:Int)) H ((r.hx Yg).relock M) ((SlL.own eS Ac rfl).relock M) (vTaps (by omega) (by omega) (by omega) (by omega)) m3 m1 m2 (by omega) (by omega) (by omega) l1 (by omega) (holeE_in m4) (by omega) ((f.on Yg).held hM (fun b hb => by simp at hb;omega))).mono ?_)
 rintro v g2 ⟨X2,R⟩
 replace X2:=X2.relock
 rw [Int.sub_neg] at R
 have x2:=X2.next
 have Y2:=Yg.trans X2
 have B4:=((A4.hx N8.hx).hx Xg).hx X2
 have B5:=((A5.hx N8.hx).hx Xg).hx X2
 have B9:=(N8.at_.hx Xg).hx X2
 have l4:=B4.lt
 unfold agnR
 rcases R with ⟨he,rfl⟩ | ⟨he,hb,rfl⟩ | ⟨he,hb,bv,w,rfl,hv,to⟩
 ·have hc':L.length ≤ p + q:=by
   by_cases hh:L.length ≤ p + q
   ·exact hh
   ·rw [decide_eq_false hh] at he;exact absurd rfl he
  rw [decide_eq_true hc',if_pos hc']
  exact WOL.mv rfl <| WOL.ex rfl rfl <| WOL.ex rfl rfl <| WOL.sto (vs:=[zi 0,.slice none 0 0,.slice none 0 0]) rfl rfl tp1117 B9 rfl rfl (Nat.le_of_ble_eq_true rfl) rfl (f.hx Y2) (by omega) fun i1 M1 => WOL.as rfl <| WOL.nil <| WL.seq <| WL.sr <| WOL.mv rfl <| WOL.bt rfl rfl rfl rfl <| WOL.nil <| WL.yes rfl <| WL.sr <| WOL.mv rfl <| WOL.as rfl <| WOL.as rfl <| WOL.nil <| WL.ret (WL.end_ rfl ⟨rfl,M1.hx _ Y2 (by omega)⟩)
 ·have hc':¬ L.length ≤ p + q:=fun hh => by
   rw [decide_eq_true hh] at he;exact absurd he (by decide)
  rw [if_neg hc',if_pos hb]
  exact WOL.mv rfl <| WOL.ex rfl rfl <| WOL.ex rfl rfl <| WOL.sto (vs:=[zi 0,.slice none 0 0,.slice none 0 0]) rfl rfl tp1117 B9 rfl rfl (Nat.le_of_ble_eq_true rfl) rfl (f.hx Y2) (by omega) fun i1 M1 => WOL.as rfl <| WOL.nil <| WL.seq <| WL.sr <| WOL.mv rfl <| WOL.bt rfl rfl rfl rfl <| WOL.nil <| WL.yes rfl <| WL.sr <| WOL.mv rfl <| WOL.as rfl <| WOL.as rfl <| WOL.nil <| WL.ret (WL.end_ rfl ⟨rfl,M1.hx _ Y2 (by omega)⟩)
 ·have hc':¬ L.length ≤ p + q:=fun hh => by
   rw [decide_eq_true hh] at he;exact absurd he (by decide)
  rw [if_neg hc',if_neg (by rw [hb];decide)]
  replace to:TrcO g1.next (g2.withLock g1.lock) bv w _ _:=to.relock g1.lock
  replace hv:g1.next ≤ bv:=hv
  generalize g2.withLock g1.lock = g2 at *
  obtain ⟨b5,l5,k5,rfl⟩:=to.form
  have lC:(tapC L S (vTn p q) (L.length - (p + q))).length = L.length - (p + q):=tapC_len
  have lD:((tapC L S (vTn p q) (L.length - (p + q))).map fun c => c.2).length = L.length - (p + q):=by rw [List.length_map,lC]
  have ho:=holes_ok ((tapC L S (vTn p q) (L.length - (p + q))).map fun c => c.2)
  have kh:=known_holes ((tapC L S (vTn p q) (L.length - (p + q))).map fun c => c.2)
  have lh:=holesOf_le ((tapC L S (vTn p q) (L.length - (p + q))).map fun c => c.2)
  have lV:(valC (tapC L S (vTn p q) (L.length - (p + q)))).length = L.length - (p + q):=by unfold valC;rw [List.length_map,lC]
  rw [lD] at ho kh lh
  rw [lC]
  generalize tapC L S (vTn p q) (L.length - (p + q)) = C at *
  refine WOL.mv rfl <| WOL.ex rfl rfl <| WOL.ex rfl rfl <| WOL.sto (vs:=[zi (n + p),slA bv _,.slice b5 l5 k5]) rfl rfl tp1117 B9 rfl rfl (Nat.le_of_ble_eq_true rfl) rfl (f.hx Y2) (by omega) fun g3 P3 => WOL.as rfl <| WOL.nil <| keep [(4,_),(5,_),(9,_),(10,_)] ⟨rfl,rfl,rfl,rfl,trivial⟩ ?_
  have Y3:HX h g3:=P3.hx _ Y2 (by omega)
  have p3:=P3.next
  replace to:=to.put P3 (by omega) (by omega)
  have C9:=P3.at_
  have C5:=P3.oth _ _ (by omega) B5
  have ro:=to.trc
  rw [lV] at ro
  refine WL.seq <| WL.sr <| WOL.mv rfl <| WOL.bf rfl rfl rfl rfl <| WOL.nil <| WL.no rfl <| WL.skip <| keep [(4,_),(5,_),(9,_)] ⟨rfl,rfl,rfl,trivial⟩ ?_
  refine WL.seq <| WL.sr <| WOL.ld rfl (load_row tp1117 C9 rfl (Nat.le_of_ble_eq_true rfl)) <| WOL.ld rfl (load_row tp1117 C5 rfl (Nat.le_of_ble_eq_true rfl)) <| WOL.cl2 rfl rfl rfl ((k1176 (n:=n + p) (n':=n') H ro.l (r'.hx Y3).l).mono ?_)
  rintro v g4 ⟨rfl,X4'⟩
  rw [lV]
  have Y4':=Y3.trans X4'
  have x4:=X4'.next
  replace C9:=C9.hx X4';replace C5:=C5.hx X4';replace ro:=ro.hx X4'
  by_cases hs:n + p = n' ∧ L.length - (p + q) = L'.length
  ·rw [if_neg (fun c => c hs),decide_eq_true hs]
   obtain ⟨rfl,hs⟩:=hs
   refine WOL.nt rfl <| WOL.nil <| WL.no rfl <| WL.skip <| keep [(4,_),(5,_),(9,_)] ⟨rfl,rfl,rfl,trivial⟩ ?_
   refine WL.sr <| WOL.ld rfl (load_row tp1117 C9 rfl (Nat.le_of_ble_eq_true rfl)) <| WOL.ld rfl (load_row tp1117 C5 rfl (Nat.le_of_ble_eq_true rfl)) ?_
   refine WOL.lq1 [h2.next] rfl rfl rfl fun M hM => ((k1177 (n:=n + p) H (ro.relock M) (by omega) (by omega) (by rw [lV];exact holeE_in ho) ((f.on Y4').held hM (fun b hb => by simp at hb;omega))).mono ?_)
   rintro v g5 ⟨X5',av,ak,rfl,ha1,ha2,RA⟩
   replace X5':=X5'.relock
   replace RA:RowA (g5.withLock g4.lock) av ak _ _:=⟨RA.v.relock _,RA.k.relock _,RA.e,RA.n⟩
   generalize g5.withLock g4.lock = g5 at *
   have Y5':=Y4'.trans X5'
   refine WOL.cl1 rfl rfl ((k1177 (n:=n + p) H (r'.hx Y5') (by omega) (by omega) (holeE_in m4') (f.on Y5')).mono ?_)
   rintro v g6 ⟨X6',cv,ck,rfl,hc1,hc2,RB⟩
   have Y6':=Y5'.trans X6'
   rw [lV,kh] at RA
   have kk:=k1201 (n:=n + p) H (RA.hx X6') RB (by omega) (by omega) (by omega) (by omega) (f.on Y6')
   rw [lV,hs] at kk
   rw [lV,hs]
   refine WOL.cl2 rfl rfl rfl (kk.mono ?_)
   rintro v g7 ⟨rfl,X7'⟩
   exact WOL.as rfl <| WOL.as rfl <| WOL.nil <| WL.ret (WL.end_ rfl ⟨rfl,Y6'.trans X7'⟩)
  ·rw [if_pos hs,decide_eq_false hs]
   exact WOL.nt rfl <| WOL.nil <| WL.yes rfl <| WL.sr <| WOL.as rfl <| WOL.as rfl <| WOL.nil <| WL.ret (WL.end_ rfl ⟨rfl,Y4'⟩)
end
end Go.Tidy
namespace Go.Tidy
open Go Go.Proofs Tab
variable {tp:TProg}
section
variable {h:TH} {n n':Int} {p q:Nat} {v1 v2 w1 w2:Value} {L L':List Int} {S S':List (Int × Int)}
theorem knownL_getD {S:List (Int × Int)} {m i:Nat} (hi:i < m):(knownL S m).getD i false = knownB S (i:Nat):=by
 rw [List.getD_eq_getElem?_getD,knownL_get hi];rfl
end
end Go.Tidy
namespace Go.Tidy
open Go Go.Proofs Tab
variable {tp:TProg}
section
variable {h0 h:TH} {n:Int} {b1 b2:Option Addr} {k1 k2 cb:Nat} {L:List Int} {S:List (Int × Int)} {T:Int}
set_option maxHeartbeats 4000000 in
set_option maxRecDepth 10000 in
theorem k1117bw (H:Has tp) (r:TrcH h (.slice b1 L.length k1) (.slice b2 S.length k2) L S) (hL:L.length ≤ 900000) (f:Free0 h.next h) (X0:HX h0 h) (A1:At h cb (.cells [zi n,.slice b1 L.length k1,.slice b2 S.length k2] true true 52)) (eT:T = cond (holeE L.length (-1) S != 0) (holeE L.length (-1) S) (formE L S)) :
    ∀ a,Kn [(1,ptr cb)] a → W Tryz.prog tp false cd1117b a h (Fin Tryz.prog [.tmp 2] fun v h' => v = zi T ∧ HX h0 h'):=by
  have l1:=A1.lt
  unfold cd1117b
  refine WL.seq <| WL.sr <| WOL.as rfl <| WOL.nil <| keep [(1,_),(6,_)] ⟨rfl,rfl,trivial⟩ ?_
  refine WL.forz (α:=Int) S.length (fun j prev g => HX h g ∧ holeE L.length (-1) S = holeE L.length prev (S.drop j) ∧ (((j:Nat):Int) ≤ prev + 1 ∧ prev ≤ (L.length:Nat)) ∧ ((j = 0 ∧ prev = -1) ∨ (0 < j ∧ ∃ q,S[j - 1]? = some q ∧ q.2 = prev))) (fun j _ => [(1,ptr cb),(6,zi (j:Nat))]) (fun j _ => [(1,ptr cb),(6,zi (j:Nat))]) (-1) ⟨HX.refl _,rfl,⟨by omega,by omega⟩,.inl ⟨rfl,rfl⟩⟩ ⟨rfl,rfl,trivial⟩ ?_ ?_ (fun _ _ _ => ⟨rfl,rfl,trivial⟩) ?_ ?_
  · rintro j _ g hj ⟨X,_,_,_⟩
    exact WOL.mv rfl <| WOL.fa rfl (fa_of fo1114_2) <| WOL.ld rfl (load_one tp44 (A1.hx X) rfl) <| WOL.len rfl (r.s.hx X) u44 <| WOL.bi rfl rfl rfl <| WOL.nil fun a q => ⟨rfl,q.sub ⟨rfl,rfl,rfl,trivial⟩⟩
  · rintro j pv g hj hH
    have hb:=hH.2.2.1
    exact WOL.mv rfl <| WOL.inc rfl (by omega) <| WOL.as rfl <| WOL.nil fun a q => ⟨hH,q.sub ⟨rfl,rfl,trivial⟩⟩
  · rintro j prev g hj ⟨X,hE,hbd,hprev⟩
    have hp:S[j]? = some S[j]:=List.getElem?_eq_getElem hj
    have hd:S.drop j = S[j] :: S.drop (j + 1):=List.drop_eq_getElem_cons hj
    generalize S[j] = p at hp hd
    obtain ⟨p1,p2⟩:=p
    rw [hd,holeE_cons] at hE
    obtain ⟨b,o,cc,fix,wr,el,g1,g2,g3,g4,g5⟩:=(r.s.hx X).at eS u44 tp48 hp .i64
    have A1':=A1.hx X
    refine WL.sr <| WOL.fa rfl (fa_of fo1114_2) <| WOL.ld rfl (load_one tp44 A1' rfl) <| WOL.mv rfl <| WOL.ix rfl rfl g1 <| WOL.ld rfl (load_row tp48 g2 g4 g3) <| WOL.al tp48 fun i1 M1 => ?_
    refine WOL.sto (vs:=encS (p1,p2)) rfl rfl tp48 M1.at_ rfl rfl (Nat.le_of_ble_eq_true rfl) rfl (f.hx (X.trans M1.hx)) X.next fun i2 M2 => ?_
    have A7:At i2 g.next (.cells [zi p1,zi p2] true true 77):=M2.at_
    have XI:HX g i2:=M2.hx _ M1.hx (Nat.le_refl _)
    have r2:=r.hx (X.trans XI)
    replace A1':=A1'.hx XI
    have Z:=X0.trans (X.trans XI)
    refine WOL.nil <| keep [(1,_),(6,_),(7,_)] ⟨rfl,rfl,rfl,trivial⟩ ?_
    by_cases c1:p1 < 0
    · rw [show badS L.length (p1,p2) = true by unfold badS;rw [decide_eq_true c1];rfl] at hE
      replace hE:holeE L.length (-1) S = 14:=hE
      refine WL.seq <| WL.sr ?_
      repeat' (first
    | (refine WOL.fa rfl (fa_of fo48_0) ?_)
    | (refine WOL.fa rfl (fa_of fo48_1) ?_)
    | (refine WOL.fa rfl (fa_of fo1114_1) ?_)
    | (refine WOL.ld rfl (load_one tp3 A7 rfl) ?_)
    | (refine WOL.ld rfl (load_one tp29 A1' rfl) ?_)
    | (refine WOL.len rfl r2.l u29 ?_)
    | (refine WOL.bt rfl rfl rfl (by first | exact decide_eq_true (by omega) | exact beq_iff_eq.2 (by omega) | exact bne_iff_ne.2 (by omega)) ?_)
    | refine WOL.now (b:=true) rfl rfl ?_ | refine WOL.now (b:=false) rfl rfl ?_
    | refine WOL.skp (b:=true) rfl rfl ?_ | refine WOL.skp (b:=false) rfl rfl ?_ | refine WOL.gu rfl rfl ?_
    | refine WOL.mv rfl ?_ | refine WOL.as rfl ?_
    | refine WOL.bi rfl rfl rfl ?_ | refine WOL.nt rfl ?_
    | refine WOL.pkt rfl rfl ?_ | refine WOL.pkf rfl rfl ?_)
      refine WOL.nil <| keep [(74,_)] ⟨rfl,trivial⟩ ?_
      refine WL.yes rfl <| WL.sr <| WOL.as rfl <| WOL.nil ?_
      exact WL.ret (WL.end_ rfl ⟨by rw [eT,hE];rfl,Z⟩)
    by_cases c2:p2 ≤ p1
    · rw [show badS L.length (p1,p2) = true by unfold badS;rw [decide_eq_false c1,decide_eq_true c2];rfl] at hE
      replace hE:holeE L.length (-1) S = 14:=hE
      refine WL.seq <| WL.sr ?_
      repeat' (first
    | (refine WOL.fa rfl (fa_of fo48_0) ?_)
    | (refine WOL.fa rfl (fa_of fo48_1) ?_)
    | (refine WOL.fa rfl (fa_of fo1114_1) ?_)
    | (refine WOL.ld rfl (load_one tp3 A7 rfl) ?_)
    | (refine WOL.ld rfl (load_one tp29 A1' rfl) ?_)
    | (refine WOL.len rfl r2.l u29 ?_)
    | (refine WOL.bf rfl rfl rfl (by first | exact decide_eq_false (by omega) | exact beq_eq_false_iff_ne.2 (by omega) | exact bne_eq_false_iff_eq.2 (by omega)) ?_)
    | (refine WOL.bt rfl rfl rfl (by first | exact decide_eq_true (by omega) | exact beq_iff_eq.2 (by omega) | exact bne_iff_ne.2 (by omega)) ?_)
    | refine WOL.now (b:=true) rfl rfl ?_ | refine WOL.now (b:=false) rfl rfl ?_
    | refine WOL.skp (b:=true) rfl rfl ?_ | refine WOL.skp (b:=false) rfl rfl ?_ | refine WOL.gu rfl rfl ?_
    | refine WOL.mv rfl ?_ | refine WOL.as rfl ?_
    | refine WOL.bi rfl rfl rfl ?_ | refine WOL.nt rfl ?_
    | refine WOL.pkt rfl rfl ?_ | refine WOL.pkf rfl rfl ?_)
      refine WOL.nil <| keep [(74,_)] ⟨rfl,trivial⟩ ?_
      refine WL.yes rfl <| WL.sr <| WOL.as rfl <| WOL.nil ?_
      exact WL.ret (WL.end_ rfl ⟨by rw [eT,hE];rfl,Z⟩)
    by_cases c3:(L.length:Int) < p2
    · rw [show badS L.length (p1,p2) = true by unfold badS;rw [decide_eq_false c1,decide_eq_false c2,decide_eq_true c3];rfl] at hE
      replace hE:holeE L.length (-1) S = 14:=hE
      refine WL.seq <| WL.sr ?_
      repeat' (first
    | (refine WOL.fa rfl (fa_of fo48_0) ?_)
    | (refine WOL.fa rfl (fa_of fo48_1) ?_)
    | (refine WOL.fa rfl (fa_of fo1114_1) ?_)
    | (refine WOL.ld rfl (load_one tp3 A7 rfl) ?_)
    | (refine WOL.ld rfl (load_one tp29 A1' rfl) ?_)
    | (refine WOL.len rfl r2.l u29 ?_)
    | (refine WOL.bf rfl rfl rfl (by first | exact decide_eq_false (by omega) | exact beq_eq_false_iff_ne.2 (by omega) | exact bne_eq_false_iff_eq.2 (by omega)) ?_)
    | (refine WOL.bt rfl rfl rfl (by first | exact decide_eq_true (by omega) | exact beq_iff_eq.2 (by omega) | exact bne_iff_ne.2 (by omega)) ?_)
    | refine WOL.now (b:=true) rfl rfl ?_ | refine WOL.now (b:=false) rfl rfl ?_
    | refine WOL.skp (b:=true) rfl rfl ?_ | refine WOL.skp (b:=false) rfl rfl ?_ | refine WOL.gu rfl rfl ?_
    | refine WOL.mv rfl ?_ | refine WOL.as rfl ?_
    | refine WOL.bi rfl rfl rfl ?_ | refine WOL.nt rfl ?_
    | refine WOL.pkt rfl rfl ?_ | refine WOL.pkf rfl rfl ?_)
      refine WOL.nil <| keep [(74,_)] ⟨rfl,trivial⟩ ?_
      refine WL.yes rfl <| WL.sr <| WOL.as rfl <| WOL.nil ?_
      exact WL.ret (WL.end_ rfl ⟨by rw [eT,hE];rfl,Z⟩)
    rw [show badS L.length (p1,p2) = false by unfold badS;rw [decide_eq_false c1,decide_eq_false c2,decide_eq_false c3];rfl] at hE
    replace hE:holeE L.length (-1) S = cond (decide (p1 ≤ prev)) 11 (holeE L.length p2 (S.drop (j + 1))):=hE
    refine WL.seq <| WL.sr ?_
    repeat' (first
    | (refine WOL.fa rfl (fa_of fo48_0) ?_)
    | (refine WOL.fa rfl (fa_of fo48_1) ?_)
    | (refine WOL.fa rfl (fa_of fo1114_1) ?_)
    | (refine WOL.ld rfl (load_one tp3 A7 rfl) ?_)
    | (refine WOL.ld rfl (load_one tp29 A1' rfl) ?_)
    | (refine WOL.len rfl r2.l u29 ?_)
    | (refine WOL.bf rfl rfl rfl (by first | exact decide_eq_false (by omega) | exact beq_eq_false_iff_ne.2 (by omega) | exact bne_eq_false_iff_eq.2 (by omega)) ?_)
    | refine WOL.now (b:=true) rfl rfl ?_ | refine WOL.now (b:=false) rfl rfl ?_
    | refine WOL.skp (b:=true) rfl rfl ?_ | refine WOL.skp (b:=false) rfl rfl ?_ | refine WOL.gu rfl rfl ?_
    | refine WOL.mv rfl ?_ | refine WOL.as rfl ?_
    | refine WOL.bi rfl rfl rfl ?_ | refine WOL.nt rfl ?_
    | refine WOL.pkt rfl rfl ?_ | refine WOL.pkf rfl rfl ?_)
    refine WOL.nil <| keep [(1,_),(6,_),(7,_),(74,_)] ⟨rfl,rfl,rfl,rfl,trivial⟩ ?_
    refine WL.no rfl <| WL.skip ?_
    have fin:p1 > prev → ∀ a,Kn [(1,ptr cb),(6,zi (j:Nat))] a → ∃ x,(HX h i2 ∧ holeE L.length (-1) S = holeE L.length x (S.drop (j + 1)) ∧ (((j + 1:Nat):Int) ≤ x + 1 ∧ x ≤ (L.length:Nat)) ∧ ((j + 1 = 0 ∧ x = -1) ∨ (0 < j + 1 ∧ ∃ q,S[j + 1 - 1]? = some q ∧ q.2 = x))) ∧ Kn [(1,ptr cb),(6,zi (j:Nat))] a:=fun hp1 a q => by
      rw [decide_eq_false (show ¬ p1 ≤ prev by omega)] at hE
      exact ⟨p2,⟨X.trans XI,hE,⟨by omega,by omega⟩,.inr ⟨by omega,(p1,p2),by rw [Nat.add_sub_cancel];exact hp,rfl⟩⟩,q⟩
    rcases hprev with ⟨rfl,rfl⟩ | ⟨hj0,q,hq,rfl⟩
    · refine WL.sr <| WOL.mv rfl <| WOL.bf rfl rfl rfl rfl <| WOL.mv rfl ?_
      repeat' (first
    | (refine WOL.mv rfl ?_)
    | refine WOL.now (b:=true) rfl rfl ?_ | refine WOL.now (b:=false) rfl rfl ?_
    | refine WOL.skp (b:=true) rfl rfl ?_ | refine WOL.skp (b:=false) rfl rfl ?_ | refine WOL.gu rfl rfl ?_
    | refine WOL.mv rfl ?_ | refine WOL.as rfl ?_
    | refine WOL.bi rfl rfl rfl ?_ | refine WOL.nt rfl ?_
    | refine WOL.pkt rfl rfl ?_ | refine WOL.pkf rfl rfl ?_)
      refine WOL.nil <| keep [(1,_),(6,_),(88,_)] ⟨rfl,rfl,rfl,trivial⟩ ?_
      exact WL.no rfl <| WL.skip <| kto (fin (by omega)) ⟨rfl,rfl,trivial⟩
    · obtain ⟨b3,o3,cc3,fix3,wr3,el3,m1,m2,m3,m4,m5⟩:=r2.s.at eS u44 tp48 hq .i64
      have m6:=m5 1 (by decide)
      replace m6:cc3[o3 + 1]? = some (zi q.2):=m6
      refine WL.sr <| WOL.mv rfl <| WOL.bt rfl rfl rfl (by first | exact decide_eq_true (by omega) | exact beq_iff_eq.2 (by omega) | exact bne_iff_ne.2 (by omega)) <| WOL.mv rfl <| WOL.now (b:=true) rfl rfl <| WOL.fa rfl (fa_of fo48_0) <| WOL.now (b:=true) rfl rfl <| WOL.ld rfl (load_one tp3 A7 rfl) <| WOL.now (b:=true) rfl rfl <| WOL.fa rfl (fa_of fo1114_2) <| WOL.now (b:=true) rfl rfl <| WOL.ld rfl (load_one tp44 A1' rfl) <| WOL.now (b:=true) rfl rfl <| WOL.mv rfl <| WOL.now (b:=true) rfl rfl <| WOL.sub (m:=((j:Nat):Int)) (n:=1) rfl rfl (by omega) (by omega) ?_
      rw [show ((j:Nat):Int) - 1 = ((j - 1:Nat):Int) by omega]
      refine WOL.now (b:=true) rfl rfl <| WOL.ix rfl rfl m1 <| WOL.now (b:=true) rfl rfl <| WOL.fa rfl (fa_of fo48_1) <| WOL.now (b:=true) rfl rfl <| WOL.ld rfl (load_one tp3 m2 m6) <| WOL.now (b:=true) rfl rfl ?_
      by_cases c4:p1 ≤ q.2
      · rw [decide_eq_true c4] at hE
        replace hE:holeE L.length (-1) S = 11:=hE
        refine WOL.bt rfl rfl rfl (by first | exact decide_eq_true (by omega) | exact beq_iff_eq.2 (by omega) | exact bne_iff_ne.2 (by omega)) <| WOL.pkt rfl rfl <| WOL.nil <| keep [(88,_)] ⟨rfl,trivial⟩ ?_
        refine WL.yes rfl <| WL.sr <| WOL.as rfl <| WOL.nil ?_
        exact WL.ret (WL.end_ rfl ⟨by rw [eT,hE];rfl,Z⟩)
      · refine WOL.bf rfl rfl rfl (by first | exact decide_eq_false (by omega) | exact beq_eq_false_iff_ne.2 (by omega) | exact bne_eq_false_iff_eq.2 (by omega)) <| WOL.pkt rfl rfl <| WOL.nil <| keep [(1,_),(6,_),(88,_)] ⟨rfl,rfl,rfl,trivial⟩ ?_
        exact WL.no rfl <| WL.skip <| kto (fin (by omega)) ⟨rfl,rfl,trivial⟩
  · rintro prev g ⟨X,hE,hbd,_⟩
    have hS:S.length ≤ 1000001:=by omega
    rw [List.drop_length] at hE
    replace hE:holeE L.length (-1) S = 0:=hE
    rw [hE] at eT
    replace eT:T = formE L S:=eT
    have hin:=holeE_in hE
    refine WL.seq <| WL.sr <| WOL.as rfl <| WOL.nil <| keep [(1,_),(8,_)] ⟨rfl,rfl,trivial⟩ ?_
    refine WL.forz (α:=Unit) L.length (fun j _ g => HX h g ∧ ∀ (i:Nat) x,i < j → L[i]? = some x → x ≠ 0 → knownB S i = true) (fun j _ => [(1,ptr cb),(8,zi (j:Nat))]) (fun j _ => [(1,ptr cb),(8,zi (j:Nat))]) () ⟨X,fun i x hi => absurd hi (by omega)⟩ ⟨rfl,rfl,trivial⟩ ?_ ?_ (fun _ _ _ => ⟨rfl,rfl,trivial⟩) ?_ ?_
    · rintro j _ g hj ⟨X,_⟩
      exact WOL.mv rfl <| WOL.fa rfl (fa_of fo1114_1) <| WOL.ld rfl (load_one tp29 (A1.hx X) rfl) <| WOL.len rfl (r.l.hx X) u29 <| WOL.bi rfl rfl rfl <| WOL.nil fun a q => ⟨rfl,q.sub ⟨rfl,rfl,rfl,trivial⟩⟩
    · rintro j _ g hj hH
      exact WOL.mv rfl <| WOL.inc rfl (by omega) <| WOL.as rfl <| WOL.nil fun a q => ⟨hH,q.sub ⟨rfl,rfl,trivial⟩⟩
    · rintro j _ g hj ⟨X,hz⟩
      have hp:L[j]? = some L[j]:=List.getElem?_eq_getElem hj
      generalize L[j] = x at hp
      obtain ⟨b,o,cc,fix,wr,el,g1,g2,g3,g4,g5⟩:=(r.l.hx X).at eI u29 tp3 hp .i64
      have A1':=A1.hx X
      refine WL.sr <| WOL.fa rfl (fa_of fo1114_1) <| WOL.ld rfl (load_one tp29 A1' rfl) <| WOL.mv rfl <| WOL.ix rfl rfl g1 <| WOL.ld rfl (load_one tp3 g2 (by have:=g5 0 (by decide);rwa [Nat.add_zero] at this)) ?_
      by_cases c0:x = 0
      · refine WOL.bf rfl rfl rfl (bne_eq_false_iff_eq.2 c0) <| WOL.mv rfl ?_
        refine WOL.skp (b:=false) rfl rfl <| WOL.skp (b:=false) rfl rfl <| WOL.skp (b:=false) rfl rfl <| WOL.skp (b:=false) rfl rfl <| WOL.pkf rfl rfl <| WOL.nil <| keep [(1,_),(8,_),(107,_)] ⟨rfl,rfl,rfl,trivial⟩ ?_
        refine WL.no rfl <| WL.skip fun a q => ⟨(),⟨X,fun i y hi hy hne => ?_⟩,q.sub ⟨rfl,rfl,trivial⟩⟩
        by_cases e:i = j
        · subst e
          rw [hp] at hy
          cases hy
          exact absurd c0 hne
        · exact hz i y (by omega) hy hne
      · refine WOL.bt rfl rfl rfl (bne_iff_ne.2 c0) <| WOL.mv rfl <| WOL.now (b:=true) rfl rfl <| WOL.ld rfl (load_row tp1114 A1' rfl (Nat.le_of_ble_eq_true rfl)) <| WOL.now (b:=true) rfl rfl <| WOL.mv rfl <| WOL.now (b:=true) rfl rfl ?_
        refine WOL.cl2 rfl rfl rfl ((k1154 H (r.s.hx X) (by omega)).mono ?_)
        rintro v g3 ⟨rfl,X3⟩
        refine WOL.now (b:=true) rfl rfl <| WOL.nt rfl <| WOL.pkt rfl rfl <| WOL.nil <| keep [(1,_),(8,_),(107,_)] ⟨rfl,rfl,rfl,trivial⟩ ?_
        cases hk:knownB S ((j:Nat):Int) with
        | true =>
          refine WL.no rfl <| WL.skip fun a q => ⟨(),⟨X.trans X3,fun i y hi hy hne => ?_⟩,q.sub ⟨rfl,rfl,trivial⟩⟩
          by_cases e:i = j
          · subst e;exact hk
          · exact hz i y (by omega) hy hne
        | false =>
          refine WL.yes rfl <| WL.sr <| WOL.as rfl <| WOL.nil ?_
          refine WL.ret (WL.end_ rfl ⟨?_,X0.trans (X.trans X3)⟩)
          rw [eT]
          unfold formE
          rw [(form_iff hin).2 ⟨j,x,hp,c0,hk⟩]
          rfl
    · rintro _ g ⟨X,hz⟩
      refine WL.sr <| WOL.as rfl <| WOL.nil ?_
      refine WL.ret (WL.end_ rfl ⟨?_,X0.trans X⟩)
      rw [eT]
      unfold formE
      cases hf:S.any (anyIn L) with
      | false => rfl
      | true =>
        obtain ⟨j,x,q1,q2,q3⟩:=(form_iff hin).1 hf
        rw [hz j x (List.getElem?_eq_some_iff.1 q1).1 q1 q2] at q3
        cases q3
end
section
variable {h:TH} {n:Int} {v1 v2:Value} {L:List Int} {S:List (Int × Int)}
set_option maxHeartbeats 4000000 in
set_option maxRecDepth 10000 in
theorem k1117w (H:Has tp) (r:TrcH h v1 v2 L S) (f:Free0 h.next h):CallW Tryz.prog tp (.func (.func 28) #[] #[]) #[trcV n v1 v2] h fun v h' => v = zi (traceE n L S) ∧ HX h h':=by
  obtain ⟨b1,k1,e1,_⟩:=id r.l
  obtain ⟨b2,k2,e2,_⟩:=id r.s
  subst e1 e2
  refine CallW.fnL (H.fn 28 f1117 rfl rfl) ?_
  refine WL.sr <| WOL.box rfl fun h1 N1 => WOL.as rfl <| WOL.nil <| keep [(1,_)] ⟨rfl,trivial⟩ ?_
  have A1:At h1 h.next (.cells [zi n,.slice b1 L.length k1,.slice b2 S.length k2] true true 52):=N1.at_
  have X1:=N1.hx
  replace r:=r.hx X1
  have n1:=N1.next
  refine WL.seq <| WL.sr <| WOL.fa rfl (fa_of fo1114_0) <| WOL.ld rfl (load_one tp3 A1 rfl) <| WOL.fa rfl (fa_of fo1114_1) <| WOL.ld rfl (load_one tp29 A1 rfl) <| WOL.len rfl r.l u29 <| WOL.bi (v:=.bool (decide ((L.length:Int) > 4096))) rfl rfl rfl ?_
  refine WOL.lk3 rfl rfl rfl rfl fun M => ((k14 H n 0 100000000 _).mono ?_)
  rintro v h2 ⟨rfl,rfl⟩
  rw [TH.relock]
  refine WOL.cl2 rfl rfl rfl ((k32 H _ _ _).mono ?_)
  rintro v h3 ⟨rfl,rfl⟩
  refine WOL.bsl rfl u29 tp3 (by decide) (by decide) (by decide) (filled_ints _ _) fun h4 N4 => ?_
  refine WOL.cl1 rfl rfl ((k13 H (l:=[_,_]) N4.at_.get (by simp)).mono ?_)
  rintro v h5 ⟨rfl,rfl⟩
  replace A1:=A1.hx N4.hx
  replace r:=r.hx N4.hx
  have X4:=X1.trans N4.hx
  have x4:=X4.next
  refine WOL.as rfl <| WOL.nil <| keep [(1,_),(3,_)] ⟨rfl,rfl,trivial⟩ ?_
  have eT:traceE n L S = cond (firstNZ [outB n 0 100000000,cond (decide ((L.length:Int) > 4096)) 5 0] != 0) (firstNZ [outB n 0 100000000,cond (decide ((L.length:Int) > 4096)) 5 0]) (firstNZ [cond (decide (n + (L.length:Int) > 100000000)) 4 0,firstNZ (L.map readE),cond (holeE L.length (-1) S != 0) (holeE L.length (-1) S) (formE L S)]):=first_head
  by_cases e0:firstNZ [outB n 0 100000000,cond (decide ((L.length:Int) > 4096)) 5 0] ≠ 0
  · refine WL.sr <| WOL.mv rfl <| WOL.bt rfl rfl rfl (bne_iff_ne.2 e0) <| WOL.nil <| keep [(3,_),(20,_)] ⟨rfl,rfl,trivial⟩ ?_
    refine WL.yes rfl <| WL.sr <| WOL.mv rfl <| WOL.as rfl <| WOL.nil ?_
    exact WL.ret (WL.end_ rfl ⟨by rw [eT,bne_iff_ne.2 e0];rfl,X4⟩)
  have e0:firstNZ [outB n 0 100000000,cond (decide ((L.length:Int) > 4096)) 5 0] = 0:=Classical.not_not.1 e0
  have hL:L.length ≤ 900000:=by
    have:=firstNZ_zero e0 (cond (decide ((L.length:Int) > 4096)) 5 0) (by simp)
    by_cases c:(L.length:Int) > 4096
    · rw [decide_eq_true c] at this;cases this
    · omega
  rw [e0] at eT
  replace eT:traceE n L S = firstNZ [cond (decide (n + (L.length:Int) > 100000000)) 4 0,firstNZ (L.map readE),cond (holeE L.length (-1) S != 0) (holeE L.length (-1) S) (formE L S)]:=eT
  have z1:=fst_zero e0
  obtain ⟨n0,n2⟩:=out_in z1
  refine WL.sr <| WOL.mv rfl <| WOL.bf rfl rfl rfl (bne_eq_false_iff_eq.2 e0) <| WOL.nil <| keep [(1,_),(20,_)] ⟨rfl,rfl,trivial⟩ ?_
  refine WL.no rfl <| WL.skip ?_
  by_cases e4:n + (L.length:Int) > 100000000
  · rw [decide_eq_true e4] at eT
    replace eT:traceE n L S = 4:=eT
    refine WL.seq <| WL.sr <| WOL.fa rfl (fa_of fo1114_0) <| WOL.ld rfl (load_one tp3 A1 rfl) <| WOL.fa rfl (fa_of fo1114_1) <| WOL.ld rfl (load_one tp29 A1 rfl) <| WOL.len rfl r.l u29 <| WOL.add (m:=n) (n:=((L.length:Nat):Int)) rfl rfl (by omega) (by omega) <| WOL.bt rfl rfl rfl (by first | exact decide_eq_true (by omega) | exact beq_iff_eq.2 (by omega) | exact bne_iff_ne.2 (by omega)) <| WOL.nil <| keep [(28,_)] ⟨rfl,trivial⟩ ?_
    refine WL.yes rfl <| WL.sr <| WOL.as rfl <| WOL.nil ?_
    exact WL.ret (WL.end_ rfl ⟨by rw [eT];rfl,X4⟩)
  rw [decide_eq_false e4] at eT
  replace eT:traceE n L S = firstNZ [firstNZ (L.map readE),cond (holeE L.length (-1) S != 0) (holeE L.length (-1) S) (formE L S)]:=eT
  refine WL.seq <| WL.sr <| WOL.fa rfl (fa_of fo1114_0) <| WOL.ld rfl (load_one tp3 A1 rfl) <| WOL.fa rfl (fa_of fo1114_1) <| WOL.ld rfl (load_one tp29 A1 rfl) <| WOL.len rfl r.l u29 <| WOL.add (m:=n) (n:=((L.length:Nat):Int)) rfl rfl (by omega) (by omega) <| WOL.bf rfl rfl rfl (by first | exact decide_eq_false (by omega) | exact beq_eq_false_iff_ne.2 (by omega) | exact bne_eq_false_iff_eq.2 (by omega)) <| WOL.nil <| keep [(1,_),(28,_)] ⟨rfl,rfl,trivial⟩ ?_
  refine WL.no rfl <| WL.skip ?_
  -- the readings
  refine WL.seq <| WL.sr <| WOL.as rfl <| WOL.nil <| keep [(1,_),(4,_)] ⟨rfl,rfl,trivial⟩ ?_
  refine WL.forz (α:=Unit) L.length (fun j _ g => g = h5 ∧ ∀ i,i < j → (L.map readE).getD i 0 = 0) (fun j _ => [(1,ptr h.next),(4,zi (j:Nat))]) (fun j _ => [(1,ptr h.next),(4,zi (j:Nat))]) () ⟨rfl,fun i hi => absurd hi (by omega)⟩ ⟨rfl,rfl,trivial⟩ ?_ ?_ (fun _ _ _ => ⟨rfl,rfl,trivial⟩) ?_ ?_
  · rintro j _ g hj ⟨rfl,hz⟩
    exact WOL.mv rfl <| WOL.fa rfl (fa_of fo1114_1) <| WOL.ld rfl (load_one tp29 A1 rfl) <| WOL.len rfl r.l u29 <| WOL.bi rfl rfl rfl <| WOL.nil fun a q => ⟨rfl,q.sub ⟨rfl,rfl,rfl,trivial⟩⟩
  · rintro j _ g hj hH
    exact WOL.mv rfl <| WOL.inc rfl (by omega) <| WOL.as rfl <| WOL.nil fun a q => ⟨hH,q.sub ⟨rfl,rfl,trivial⟩⟩
  · rintro j _ g hj ⟨rfl,hz⟩
    have hp:L[j]? = some L[j]:=List.getElem?_eq_getElem hj
    generalize L[j] = x at hp
    obtain ⟨b,o,cc,fix,wr,el,g1,g2,g3,g4,g5⟩:=r.l.at eI u29 tp3 hp .i64
    have he:(L.map readE)[j]? = some (readE x):=by rw [List.getElem?_map,hp];rfl
    refine WL.sr <| WOL.fa rfl (fa_of fo1114_1) <| WOL.ld rfl (load_one tp29 A1 rfl) <| WOL.mv rfl <| WOL.ix rfl rfl g1 <| WOL.ld rfl (load_one tp3 g2 (by have:=g5 0 (by decide);rwa [Nat.add_zero] at this)) <| WOL.cl1 rfl rfl ((k1187 H x _).mono ?_)
    rintro w g' ⟨rfl,rfl⟩
    refine WOL.as rfl <| WOL.nil <| keep [(1,_),(4,_),(5,_)] ⟨rfl,rfl,rfl,trivial⟩ ?_
    by_cases h0:readE x = 0
    · refine WL.sr <| WOL.mv rfl <| WOL.bf rfl rfl rfl (bne_eq_false_iff_eq.2 h0) <| WOL.nil <| keep [(1,_),(4,_),(43,_)] ⟨rfl,rfl,rfl,trivial⟩ ?_
      refine WL.no rfl <| WL.skip fun a q => ⟨(),⟨rfl,fun i hi => ?_⟩,q.sub ⟨rfl,rfl,trivial⟩⟩
      by_cases e:i = j
      · subst e
        rw [List.getD_eq_getElem?_getD,he]
        exact h0
      · exact hz i (by omega)
    · refine WL.sr <| WOL.mv rfl <| WOL.bt rfl rfl rfl (bne_iff_ne.2 h0) <| WOL.nil <| keep [(5,_),(43,_)] ⟨rfl,rfl,trivial⟩ ?_
      refine WL.yes rfl <| WL.sr <| WOL.mv rfl <| WOL.as rfl <| WOL.nil ?_
      refine WL.ret (WL.end_ rfl ⟨?_,X4⟩)
      rw [eT,fNZ_at hz he h0]
      show zi _ = zi (cond (readE x != 0) (readE x) _)
      rw [bne_iff_ne.2 h0];rfl
  rintro _ g ⟨rfl,hz⟩
  rw [fNZ_all (fun i hi => hz i (by rw [List.length_map] at hi;exact hi))] at eT
  replace eT:traceE n L S = firstNZ [cond (holeE L.length (-1) S != 0) (holeE L.length (-1) S) (formE L S)]:=eT
  rw [first_one] at eT
  exact kto (M:=[(1,ptr h.next)]) (k1117bw H r (by omega) (f.on X4) X4 A1 eT) ⟨rfl,trivial⟩
end
end Go.Tidy
namespace Go.Tidy
open Go Go.Proofs Tab
variable {tp:TProg}
section
variable {h:TH} {n a b:Int} {v1 v2 w1 w2:Value} {L L':List Int} {S S':List (Int × Int)}
set_option maxHeartbeats 4000000 in
set_option maxRecDepth 10000 in
theorem k1149 (H:Has tp) (r:TrcH h v1 v2 L S) (f:Free0 h.next h) :
    CallW Tryz.prog tp (.func (.func 32) #[] #[]) #[.agg #[zi a,zi b],trcV n v1 v2] h fun v h' => HX h h' ∧ ∃ ok,v = .bool ok ∧ (ok = true → chordE a b = 0 ∧ traceE n L S = 0 ∧ L.length ≤ 60 ∧ a + b < (L.length:Int) ∧ ∀ j,-20000 ≤ L.getD j 0 ∧ L.getD j 0 ≤ 20000):=by
  refine CallW.fnL (H.fn 32 f1149 rfl rfl) ?_
  obtain ⟨b1,k1,e1,_⟩:=id r.l
  obtain ⟨b2,k2,e2,_⟩:=id r.s
  subst e1 e2
  refine WL.sr <| WOL.box rfl fun h1 N1 => WOL.box rfl fun h2 N2 => WOL.as rfl <| WOL.nil <| keep [(2,_),(3,_)] ⟨rfl,rfl,trivial⟩ ?_
  have q1:=N1.next
  have q2:=N2.next
  have A2:At h2 h.next (.cells [zi a,zi b] true true 23):=N1.at_.hx N2.hx
  have A3:At h2 h1.next (.cells [zi n,.slice b1 L.length k1,.slice b2 S.length k2] true true 52):=N2.at_
  have X2:=N1.hx.trans N2.hx
  refine WL.seq <| WL.sr <| WOL.ld rfl (load_row tp1112 A2 rfl (Nat.le_of_ble_eq_true rfl)) <| WOL.cl1 rfl rfl ((k1122 H a b _).mono ?_)
  rintro v h3 ⟨rfl,X3⟩
  have Y3:=X2.trans X3
  have no:∀ g,HX h g → HX h g ∧ ∃ ok,Value.bool false = .bool ok ∧ (ok = true → chordE a b = 0 ∧ traceE n L S = 0 ∧ L.length ≤ 60 ∧ a + b < (L.length:Int) ∧ ∀ j,-20000 ≤ L.getD j 0 ∧ L.getD j 0 ≤ 20000):=fun g X => ⟨X,false,rfl,fun c => by cases c⟩
  by_cases e1:chordE a b = 0
  · obtain ⟨p1,p2,p3,p4⟩:=chord_ok e1
    refine WOL.bf rfl rfl rfl (bne_eq_false_iff_eq.2 e1) <| WOL.mv rfl <| WOL.now (b:=false) rfl rfl <| WOL.ld rfl (load_row tp1114 (A3.hx X3) rfl (Nat.le_of_ble_eq_true rfl)) <| WOL.now (b:=false) rfl rfl <| WOL.cl1 rfl rfl ((k1117w (n:=n) H (r.hx Y3) (f.on Y3)).mono ?_)
    rintro v h4 ⟨rfl,X4⟩
    have Y4:=Y3.trans X4
    have X34:=X3.trans X4
    replace A2:=A2.hx X34;replace A3:=A3.hx X34
    have r4:=r.hx Y4
    by_cases e2:traceE n L S = 0
    · refine WOL.now (b:=false) rfl rfl <| WOL.bf rfl rfl rfl (bne_eq_false_iff_eq.2 e2) <| WOL.pkf rfl rfl <| WOL.mv rfl <| WOL.now (b:=false) rfl rfl <| WOL.fa rfl (fa_of fo1114_1) <| WOL.now (b:=false) rfl rfl <| WOL.ld rfl (load_one tp29 A3 rfl) <| WOL.now (b:=false) rfl rfl <| WOL.len rfl r4.l u29 <| WOL.now (b:=false) rfl rfl ?_
      by_cases e3:(L.length:Int) > 60
      · exact WOL.bt rfl rfl rfl (decide_eq_true e3) <| WOL.pkf rfl rfl <| WOL.mv rfl <| WOL.skp (b:=true) rfl rfl <| WOL.skp (b:=true) rfl rfl <| WOL.skp (b:=true) rfl rfl <| WOL.skp (b:=true) rfl rfl <| WOL.skp (b:=true) rfl rfl <| WOL.skp (b:=true) rfl rfl <| WOL.skp (b:=true) rfl rfl <| WOL.skp (b:=true) rfl rfl <| WOL.skp (b:=true) rfl rfl <| WOL.pkt rfl rfl <| WOL.nil <| WL.yes rfl <| WL.sr <| WOL.as rfl <| WOL.nil <| WL.ret (WL.end_ rfl (no _ Y4))
      · refine WOL.bf rfl rfl rfl (decide_eq_false e3) <| WOL.pkf rfl rfl <| WOL.mv rfl <| WOL.now (b:=false) rfl rfl <| WOL.fa rfl (fa_of fo1114_1) <| WOL.now (b:=false) rfl rfl <| WOL.ld rfl (load_one tp29 A3 rfl) <| WOL.now (b:=false) rfl rfl <| WOL.len rfl r4.l u29 <| WOL.now (b:=false) rfl rfl <| WOL.fa rfl (fa_of fo1112_0) <| WOL.now (b:=false) rfl rfl <| WOL.ld rfl (load_one tp3 A2 rfl) <| WOL.now (b:=false) rfl rfl <| WOL.fa rfl (fa_of fo1112_1) <| WOL.now (b:=false) rfl rfl <| WOL.ld rfl (load_one tp3 A2 rfl) <| WOL.now (b:=false) rfl rfl <| WOL.add (m:=a) (n:=b) rfl rfl (by omega) (by omega) <| WOL.now (b:=false) rfl rfl ?_
        by_cases e4:(L.length:Int) ≤ a + b
        · exact WOL.bt rfl rfl rfl (decide_eq_true e4) <| WOL.pkf rfl rfl <| WOL.nil <| WL.yes rfl <| WL.sr <| WOL.as rfl <| WOL.nil <| WL.ret (WL.end_ rfl (no _ Y4))
        · refine WOL.bf rfl rfl rfl (decide_eq_false e4) <| WOL.pkf rfl rfl <| WOL.nil <| WL.no rfl <| WL.skip <| keep [(2,_),(3,_)] ⟨rfl,rfl,trivial⟩ ?_
          refine WL.seq <| WL.sr <| WOL.fa rfl (fa_of fo1114_1) <| WOL.ld rfl (load_one tp29 A3 rfl) <| WOL.len rfl r4.l u29 <| WOL.mv rfl <| WOL.nil <| keep [(33,_),(34,_),(35,_)] ⟨rfl,rfl,rfl,trivial⟩ ?_
          refine WL.upto (α:=Unit) L.length (fun j _ g' => g' = h4 ∧ ∀ i,i < j → -20000 ≤ L.getD i 0 ∧ L.getD i 0 ≤ 20000) (fun _ _ => [(33,.slice b1 L.length k1),(34,zi (L.length:Nat))]) () rfl rfl (by omega) ⟨rfl,fun i hi => absurd hi (by omega)⟩ ⟨rfl,rfl,rfl,trivial⟩ (fun _ _ => rfl) (fun _ _ _ => ⟨rfl,rfl,rfl,trivial⟩) (fun _ _ _ => ⟨rfl,rfl,rfl,trivial⟩) ?_ ?_
          · rintro j _ g' hj ⟨rfl,hz⟩
            have hp:L[j]? = some (L.getD j 0):=by rw [List.getD_eq_getElem?_getD,List.getElem?_eq_getElem hj];rfl
            obtain ⟨_,_,cc,fix,wr,el,g1,g2,g3,g4,g5⟩:=r4.l.at eI u29 tp3 hp .i64
            have gx:=g5 0 (by decide)
            rw [Nat.add_zero] at gx
            refine WL.sr <| WOL.ix rfl rfl g1 <| WOL.ld rfl (load_one tp3 g2 gx) <| WOL.as rfl <| WOL.nil <| keep [(6,_),(33,_),(34,_),(35,_)] ⟨rfl,rfl,rfl,rfl,trivial⟩ ?_
            by_cases c1:L.getD j 0 > 20000
            · exact WL.sr <| WOL.mv rfl <| WOL.bt rfl rfl rfl (decide_eq_true c1) <| WOL.mv rfl <| WOL.skp (b:=true) rfl rfl <| WOL.skp (b:=true) rfl rfl <| WOL.pkt rfl rfl <| WOL.nil <| WL.yes rfl <| WL.sr <| WOL.as rfl <| WOL.nil <| WL.ret (WL.end_ rfl (no _ Y4))
            by_cases c2:L.getD j 0 < -20000
            · exact WL.sr <| WOL.mv rfl <| WOL.bf rfl rfl rfl (decide_eq_false c1) <| WOL.mv rfl <| WOL.now (b:=false) rfl rfl <| WOL.mv rfl <| WOL.now (b:=false) rfl rfl <| WOL.bt rfl rfl rfl (decide_eq_true c2) <| WOL.pkf rfl rfl <| WOL.nil <| WL.yes rfl <| WL.sr <| WOL.as rfl <| WOL.nil <| WL.ret (WL.end_ rfl (no _ Y4))
            · refine WL.sr <| WOL.mv rfl <| WOL.bf rfl rfl rfl (decide_eq_false c1) <| WOL.mv rfl <| WOL.now (b:=false) rfl rfl <| WOL.mv rfl <| WOL.now (b:=false) rfl rfl <| WOL.bf rfl rfl rfl (decide_eq_false c2) <| WOL.pkf rfl rfl <| WOL.nil <| WL.no rfl <| WL.skip fun y k => ⟨(),⟨rfl,fun i hi => ?_⟩,k.sub ⟨rfl,rfl,rfl,trivial⟩⟩
              by_cases e:i = j
              · subst e;omega
              · exact hz i (by omega)
          · rintro _ g' ⟨rfl,hz⟩
            refine WL.sr <| WOL.as rfl <| WOL.nil <| WL.ret (WL.end_ rfl ⟨Y4,true,rfl,fun _ => ⟨e1,e2,by omega,by omega,fun j => ?_⟩⟩)
            by_cases hj:j < L.length
            · exact hz j hj
            · rw [List.getD_eq_getElem?_getD,List.getElem?_eq_none (by omega)];decide
    · exact WOL.now (b:=false) rfl rfl <| WOL.bt rfl rfl rfl (bne_iff_ne.2 e2) <| WOL.pkf rfl rfl <| WOL.mv rfl <| WOL.skp (b:=true) rfl rfl <| WOL.skp (b:=true) rfl rfl <| WOL.skp (b:=true) rfl rfl <| WOL.skp (b:=true) rfl rfl <| WOL.pkt rfl rfl <| WOL.mv rfl <| WOL.skp (b:=true) rfl rfl <| WOL.skp (b:=true) rfl rfl <| WOL.skp (b:=true) rfl rfl <| WOL.skp (b:=true) rfl rfl <| WOL.skp (b:=true) rfl rfl <| WOL.skp (b:=true) rfl rfl <| WOL.skp (b:=true) rfl rfl <| WOL.skp (b:=true) rfl rfl <| WOL.skp (b:=true) rfl rfl <| WOL.pkt rfl rfl <| WOL.nil <| WL.yes rfl <| WL.sr <| WOL.as rfl <| WOL.nil <| WL.ret (WL.end_ rfl (no _ Y4))
  · exact WOL.bt rfl rfl rfl (bne_iff_ne.2 e1) <| WOL.mv rfl <| WOL.skp (b:=true) rfl rfl <| WOL.skp (b:=true) rfl rfl <| WOL.skp (b:=true) rfl rfl <| WOL.pkt rfl rfl <| WOL.mv rfl <| WOL.skp (b:=true) rfl rfl <| WOL.skp (b:=true) rfl rfl <| WOL.skp (b:=true) rfl rfl <| WOL.skp (b:=true) rfl rfl <| WOL.pkt rfl rfl <| WOL.mv rfl <| WOL.skp (b:=true) rfl rfl <| WOL.skp (b:=true) rfl rfl <| WOL.skp (b:=true) rfl rfl <| WOL.skp (b:=true) rfl rfl <| WOL.skp (b:=true) rfl rfl <| WOL.skp (b:=true) rfl rfl <| WOL.skp (b:=true) rfl rfl <| WOL.skp (b:=true) rfl rfl <| WOL.skp (b:=true) rfl rfl <| WOL.pkt rfl rfl <| WOL.nil <| WL.yes rfl <| WL.sr <| WOL.as rfl <| WOL.nil <| WL.ret (WL.end_ rfl (no _ Y3))
end
end Go.Tidy
namespace Go.Tidy
open Go Go.Proofs Tab
section
variable {C:List (Int × Bool)} {n:Int}
theorem valC_len:(valC C).length = C.length:=by unfold valC;rw [List.length_map]
theorem valC_getD {i:Nat}:(valC C).getD i 0 = cond (C.getD i (0,false)).2 (C.getD i (0,false)).1 0:=by
 unfold valC
 rw [List.getD_eq_getElem?_getD,List.getD_eq_getElem?_getD,List.getElem?_map]
 cases C[i]? <;> rfl
theorem holesC_known {i:Nat} (hi:i < C.length):knownB (holesOf (C.map fun c => c.2)) (i:Nat) = (C.getD i (0,false)).2:=by
 have k:=known_holes (C.map fun c => c.2)
 rw [List.length_map] at k
 rw [← knownL_getD hi,k,List.getD_eq_getElem?_getD,List.getD_eq_getElem?_getD,List.getElem?_map]
 cases C[i]? <;> rfl
theorem traceE_made (hb:bigC C = false) (h0:0 ≤ n) (hl:C.length ≤ 4096) (h1:n + (C.length:Nat) ≤ 100000000):traceE n (valC C) (holesOf (C.map fun c => c.2)) = 0:=by
 have ho:=holes_ok (C.map fun c => c.2)
 rw [List.length_map] at ho
 have hr:firstNZ ((valC C).map readE) = 0:=by
  refine firstNZ_all fun x hx => ?_
  obtain ⟨y,hy,rfl⟩:=List.mem_map.1 hx
  rw [bigC_val,List.any_eq_false] at hb
  have:=hb y hy
  unfold largeB at this
  exact bne_eq_false_iff_eq.1 (by cases h:(readE y != 0) with
   | false => rfl
   | true => exact absurd h this)
 have hf:formE (valC C) (holesOf (C.map fun c => c.2)) = 0:=by
  unfold formE
  cases hb:(holesOf (C.map fun c => c.2)).any (anyIn (valC C)) with
  | false => rfl
  | true =>
   obtain ⟨j,x,hj,hx,hk⟩:=(form_iff (holeE_in ho)).1 hb
   have hj':j < C.length:=by have:=(List.getElem?_eq_some_iff.1 hj).1;rwa [valC_len] at this
   rw [holesC_known hj'] at hk
   have e:(valC C).getD j 0 = x:=by rw [List.getD_eq_getElem?_getD,hj];rfl
   rw [valC_getD,hk] at e
   exact absurd e.symm hx
 unfold traceE
 rw [valC_len,hr,ho,hf]
 unfold outB
 rw [decide_eq_false (by omega:¬ n < 0),decide_eq_false (by omega:¬ n > 100000000),decide_eq_false (by omega:¬ (C.length:Int) > 4096),decide_eq_false (by omega:¬ n + (C.length:Int) > 100000000)]
 rfl
end
section
variable {L:List Int} {S:List (Int × Int)} {M c p q j:Nat}
theorem vTn_val {p q:Nat}:tapN L j (vTn p q) 0 = -(q:Int) * L.getD j 0 + ((p:Int) + q) * L.getD (j + p) 0 - (p:Int) * L.getD (j + (p + q)) 0:=by
 show 0 + -(q:Int) * L.getD (j + 0) 0 + ((p:Int) + q) * L.getD (j + p) 0 + -(p:Int) * L.getD (j + (p + q)) 0 = _
 rw [Int.neg_mul (p:Int),Nat.add_zero]
 omega
theorem mulb {w x:Int} {a b:Nat} (h1:w.natAbs ≤ a) (h2:x.natAbs ≤ b):(w * x).natAbs ≤ a * b:=by
 rw [Int.natAbs_mul]
 exact Nat.mul_le_mul h1 h2
theorem big_not {T:List (Nat × Int)} (h:∀ i,i < M → tapK S i T = true → largeB (tapN L i T 0) = false):bigC (tapC L S T M) = false:=by
 unfold bigC
 rw [List.any_eq_false]
 intro c hc
 obtain ⟨i,hi,rfl⟩:=List.mem_map.1 hc
 have hi:=List.mem_range.1 hi
 show ¬ (tapK S i T && largeB (tapN L i T 0)) = true
 cases k:tapK S i T with
 | false => exact Bool.false_ne_true
 | true => rw [h i hi k];decide
end
end Go.Tidy
namespace Go.Tidy
open Go Go.Proofs Tab
variable {tp:TProg}
theorem ProgR.ok {n e:Int} {C:List (Int × Bool)} {n0:Nat} {g:TH} {v:Value} (r:ProgR n e C n0 g v) (he:e = 0) (hb:bigC C = false):∃ bv b2 m2 k2,v = .tuple #[trcV n (slA bv C.length) (.slice b2 m2 k2),zi 0] ∧ n0 ≤ bv ∧ TrcO n0 g bv (.slice b2 m2 k2) (valC C) (holesOf (C.map fun c => c.2)):=by
 rcases r with ⟨h1,_⟩ | ⟨_,h1,_⟩ | ⟨_,_,bv,w,h2,h3,h4⟩
 ·exact absurd he h1
 ·rw [hb] at h1;cases h1
 ·obtain ⟨b2,m2,k2,rfl⟩:=h4.form
  exact ⟨bv,b2,m2,k2,h2,h3,h4⟩
theorem TrcO.trcC {n0 bv:Nat} {g:TH} {w:Value} {C:List (Int × Bool)} {S:List (Int × Int)} (r:TrcO n0 g bv w (valC C) S):TrcH g (slA bv C.length) w (valC C) S:=by
 have:=r.trc
 rwa [valC_len] at this
theorem chordE_in {a b:Int} (h1:1 ≤ a) (h2:a ≤ 32) (h3:1 ≤ b) (h4:b ≤ 32):chordE a b = 0:=by
 unfold chordE outB
 rw [decide_eq_false (by omega:¬ a < 1),decide_eq_false (by omega:¬ a > 32),decide_eq_false (by omega:¬ b < 1),decide_eq_false (by omega:¬ b > 32)]
 rfl
theorem errV_in {E:Int} {m w:Nat} (h:E = 0) (h2:w < m):errV E m w = 0:=by
 rw [h,errV_ok,decide_eq_false (by omega)];rfl
section
variable {h h0:TH} {n:Int} {v1 v2:Value} {L:List Int} {S:List (Int × Int)} {c3 c4 p q z:Nat}
end
end Go.Tidy
namespace Go.Tidy
open Go Go.Proofs Tab
section
variable {L L1 L2:List Int} {S S1 S2:List (Int × Int)} {T:List (Nat × Int)} {M p q m i:Nat}
theorem tapN_small {B:Nat} (hL:∀ j,(L.getD j 0).natAbs ≤ B):∀ {T:List (Nat × Int)} {s:Int},(∀ t,t ∈ T → t.2.natAbs ≤ 65) → (tapN L i T s).natAbs ≤ s.natAbs + T.length * (65 * B)
 | [],s,_ => by show s.natAbs ≤ _;omega
 | t :: T,s,h => by
  have b:=mulb (h t (List.mem_cons_self ..)) (hL (i + t.1))
  have ih:=tapN_small hL (T:=T) (s:=s + t.2 * L.getD (i + t.1) 0) fun t ht => h t (List.mem_cons_of_mem _ ht)
  show (tapN L i T (s + t.2 * L.getD (i + t.1) 0)).natAbs ≤ s.natAbs + (T.length + 1) * (65 * B)
  rw [Nat.add_mul,Nat.one_mul]
  omega
theorem taps_small {B:Nat} (hB:B ≤ 40000) (hL:∀ j,(L.getD j 0).natAbs ≤ B) (hT:∀ t,t ∈ T → t.2.natAbs ≤ 65) (lT:T.length ≤ 65):bigC (tapC L S T M) = false:=big_not fun i _ _ => by
 have b:=tapN_small (i:=i) hL (s:=0) hT
 have:T.length * (65 * B) ≤ 65 * (65 * 40000):=Nat.mul_le_mul lT (Nat.mul_le_mul (Nat.le_refl _) hB)
 have:(tapN L i T 0).natAbs ≤ 169000000:=by omega
 generalize tapN L i T 0 = x at *
 unfold largeB readE outB
 rw [decide_eq_false (by omega),decide_eq_false (by omega)]
 rfl
end
end Go.Tidy
namespace Go.Tidy
open Go Go.Proofs Tab
variable {tp:TProg}
theorem tapK_nil {T:List (Nat × Int)} {i:Nat}:tapK [] i T = true:=List.all_eq_true.2 fun _ _ => rfl
section
variable {h h0:TH} {x y:Int} {p c5 c22:Nat}
end
end Go.Tidy
namespace Go.Tidy
open Go Go.Proofs Tab
variable {tp:TProg}
theorem RevR.ok {n p e:Int} {L:List Int} {S:List (Int × Int)} {n0:Nat} {g:TH} {v:Value} (r:RevR n p e L S n0 g v) (he:e = 0) (h0:0 ≤ 2 * p + 1 - (n + L.length)) (h1:2 * p + 1 - (n + L.length) + L.length ≤ 100000000):∃ bv b2 m2 k2,v = .tuple #[trcV (2 * p + 1 - (n + L.length)) (slA bv L.length) (.slice b2 m2 k2),zi 0] ∧ n0 ≤ bv ∧ TrcO n0 g bv (.slice b2 m2 k2) L.reverse (holesOf (knownL S L.length).reverse):=by
 rcases r with ⟨q,_⟩ | ⟨_,q,_⟩ | ⟨_,_,_,bv,w,q2,q3,q4⟩
 ·exact absurd he q
 ·omega
 ·obtain ⟨b2,m2,k2,rfl⟩:=q4.form
  exact ⟨bv,b2,m2,k2,q2,q3,q4⟩
theorem vTn_w {p q:Nat} (hp:p ≤ 32) (hq:q ≤ 32) (t:Nat × Int) (ht:t ∈ vTn p q):t.2.natAbs ≤ 65:=by
 simp only [vTn,List.mem_cons,List.not_mem_nil,or_false] at ht
 rcases ht with rfl | rfl | rfl
 ·show (-(q:Int)).natAbs ≤ 65;omega
 ·show ((p:Int) + q).natAbs ≤ 65;omega
 ·show (-(p:Int)).natAbs ≤ 65;omega
section
variable {h h0:TH} {x y n:Int} {p q c3 c4 c5:Nat} {v1 v2 w1 w2:Value} {L1 L2:List Int} {S1 S2:List (Int × Int)}
end
end Go.Tidy
namespace Go.Tidy
open Go Go.Proofs Tab
variable {tp:TProg}
section
variable {h h0:TH} {x y n n1 n2 a b:Int} {p q c3 c4 c5:Nat} {v1 v2 w1 w2:Value} {L1 L2:List Int} {S1 S2:List (Int × Int)}
end
set_option maxRecDepth 100000 in
theorem ty_intsI {h:TH} {n:Nat} {ps:List Value} (y:Ty Tryz.prog h (n + 2) 24 ps):∃ v L,ps = [v] ∧ SlL encI 1 h v L ∧ (∀ e',Fits h v e') ∧ IsInts h v L:=by
 unfold Ty at y;rw [u29] at y
 obtain ⟨a,m,cap,rfl,h1,_,⟨rfl,rfl⟩ | ⟨b,c,el,rfl,h2,h3,h4⟩⟩:=y
 ·obtain rfl:m = 0:=by omega
  exact ⟨_,[],rfl,SlC.nil _ _ _,(fun e' b off m cap hv => by cases hv),.inl ⟨rfl,rfl⟩⟩
 ·obtain ⟨l,rfl,rfl⟩:=row_cat (enc:=encI) (fun p y => by obtain ⟨b,e,_⟩:=ty_int y;exact ⟨b,e⟩) m c h4
  refine ⟨_,l,rfl,⟨_,cap,rfl,h1,eI.cat_len l,.inr ⟨b,0,_,true,false,el,rfl,⟨h3,h2⟩,?_,?_⟩⟩,fun e' => Fits.of ⟨h3,h2⟩ (.inl rfl),.inr ⟨b,cap,true,false,el,rfl,h2,?_⟩⟩
  ·rw [List.drop_zero,← eI.cat_len l,List.take_length]
  ·rw [eI.cat_len];omega
  ·rw [cat_I] at h3;exact h3
set_option maxRecDepth 100000 in
theorem ty_trcI {h:TH} {n:Nat} {ps:List Value} (y:Ty Tryz.prog h (n + 4) 52 ps):∃ z v1 v2 L S,ps = [zi z,v1,v2] ∧ TrcH h v1 v2 L S ∧ IsInts h v1 L:=by
 obtain ⟨p,q,rfl,_,y1,p',q',rfl,_,y2,p2,q2,rfl,_,y3,rfl⟩:=tyg_struct Tryz.underlying52 y
 obtain ⟨z,rfl,_⟩:=ty_int y1
 obtain ⟨v1,L,rfl,r1,g1,i1⟩:=ty_intsI y2
 obtain ⟨v2,S,rfl,r2,_⟩:=tyg_slice eS u44 (fun p y => ty_span y) y3
 exact ⟨z,v1,v2,L,S,rfl,⟨r1,r2,g1 3⟩,i1⟩
theorem i8_inT {z:Int} (h:(Lit.int .i8 z).wf = true):-128 ≤ z ∧ z ≤ 127:=by
 have h:(decide (IntKind.i8.min ≤ z) && decide (z ≤ IntKind.i8.max)) = true:=h
 have e1:IntKind.i8.min = -128:=by decide
 have e2:IntKind.i8.max = 127:=by decide
 rw [e1,e2,Bool.and_eq_true] at h
 exact ⟨of_decide_eq_true h.1,of_decide_eq_true h.2⟩
end Go.Tidy
namespace Go.Tidy
open Go Go.Proofs Tab
section
variable {L:List Int} {p q m M j:Nat}
theorem vers_all (h:j < M):(valC (tapC L [] (vTn p q) M)).getD j 0 = tapN L j (vTn p q) 0:=by
 rw [tapV_get h,tapK_nil];rfl
theorem vers_flags:((tapC L [] (vTn p q) M).map fun c => c.2) = List.replicate M true:=by
 refine List.ext_getElem? fun i => ?_
 by_cases h:i < M
 ·rw [List.getElem?_map,tapC_get h,tapK_nil,List.getElem?_replicate,if_pos h];rfl
 ·rw [List.getElem?_eq_none (by rw [List.length_map,tapC_len];omega),List.getElem?_eq_none (by rw [List.length_replicate];omega)]
def allK (L:List Int) (k:Nat):List (Int × Bool):=(L.take k).map fun x => (x,true)
theorem allK_get {k i:Nat} (h:i < k) (hk:k ≤ L.length):(allK L k).getD i (0,false) = (L.getD i 0,true):=by
 unfold allK
 rw [List.getD_eq_getElem?_getD,List.getElem?_map,List.getElem?_take_of_lt h,List.getD_eq_getElem?_getD,List.getElem?_eq_getElem (by omega)];rfl
theorem allK_succ {k:Nat} (hk:k < L.length):allK L (k + 1) = allK L k ++ [(L.getD k 0,true)]:=by
 unfold allK
 rw [List.take_add_one,List.map_append,List.getD_eq_getElem?_getD,List.getElem?_eq_getElem hk];rfl
theorem res_step (hp:1 ≤ p) (x:Int):resE1 p ((p:Int) * x) = cond (largeB x) 4 0 ∧ ((p:Int) * x).tdiv p = x:=by
 have h0:(p:Int) ≠ 0:=by omega
 have h1:((p:Int) * x).tdiv p = x:=Int.mul_tdiv_cancel_left x h0
 have h2:((p:Int) * x).tmod p = 0:=Int.mul_tmod_right _ _
 refine ⟨?_,h1⟩
 unfold resE1
 rw [h1,h2];rfl
theorem resJ_vers (hp:1 ≤ p) (hq:1 ≤ q) (hL:∀ i,largeB (L.getD i 0) = false) (hM:M + (p + q) = L.length):∀ j,j ≤ M → resJ p q (L.take (p + q)) (zipK (valC (tapC L [] (vTn p q) M)) [] M) j = (0,allK L (p + q + j))
  | 0,_ => rfl
  | j + 1,hj => by
    have ih:=resJ_vers hp hq hL hM j (by omega)
    have hc:(zipK (valC (tapC L [] (vTn p q) M)) [] M).getD j (0,false) = (tapN L j (vTn p q) 0,true):=by
      rw [List.getD_eq_getElem?_getD,zipK_get (by omega),vers_all (by omega)];rfl
    have hn:resN p q (allK L (p + q + j)) j (tapN L j (vTn p q) 0) = (p:Int) * L.getD (j + (p + q)) 0:=by
      unfold resN
      rw [allK_get (by omega) (by omega),allK_get (by omega) (by omega),vTn_val,Int.neg_mul]
      show ((p:Int) + q) * L.getD (j + p) 0 - (q:Int) * L.getD j 0 - (-((q:Int) * L.getD j 0) + ((p:Int) + q) * L.getD (j + p) 0 - (p:Int) * L.getD (j + (p + q)) 0) = _
      omega
    obtain ⟨r1,r2⟩:=res_step hp (L.getD (j + (p + q)) 0)
    have hk:resK p (allK L (p + q + j)) j ((zipK (valC (tapC L [] (vTn p q) M)) [] M).getD j (0,false)).2 = true:=by
      unfold resK
      rw [hc,allK_get (by omega) (by omega),allK_get (by omega) (by omega)];rfl
    rw [resJ_put ih hk (by rw [hc];show resE1 p (resN p q _ j (tapN L j (vTn p q) 0)) = 0;rw [hn,r1,hL];rfl),hc]
    show (0,allK L (p + q + j) ++ [((resN p q (allK L (p + q + j)) j (tapN L j (vTn p q) 0)).tdiv p,true)]) = _
    rw [hn,r2,show p + q + (j + 1) = j + (p + q) + 1 by omega,show p + q + j = j + (p + q) by omega,allK_succ (by omega)]
def knH (p q x:Nat) (i:Nat):Bool:=if h:i < p + q ∨ q = 0 then true else (i - (p + q) != x) && (knH p q x (i - (p + q)) && knH p q x (i - q))
termination_by i
decreasing_by
 all_goals omega
theorem knH_end {x i:Nat} (h:i < p + q):knH p q x i = true:=by
 unfold knH
 rw [dif_pos (.inl h)]
theorem knH_step {x:Nat} (hq:1 ≤ q):knH p q x (p + q + j) = ((j != x) && (knH p q x j && knH p q x (j + p))):=by
 conv => lhs;unfold knH
 rw [dif_neg (by omega),show p + q + j - (p + q) = j by omega,show p + q + j - q = j + p by omega]
def darkK (L:List Int) (p q x k:Nat):List (Int × Bool):=(List.range k).map fun i => (cond (knH p q x i) (L.getD i 0) 0,knH p q x i)
theorem darkK_get {x k i:Nat} (h:i < k):(darkK L p q x k).getD i (0,false) = (cond (knH p q x i) (L.getD i 0) 0,knH p q x i):=by
 unfold darkK
 rw [List.getD_eq_getElem?_getD,List.getElem?_map,List.getElem?_range h];rfl
theorem darkK_succ {x k:Nat}:darkK L p q x (k + 1) = darkK L p q x k ++ [(cond (knH p q x k) (L.getD k 0) 0,knH p q x k)]:=by
 unfold darkK
 rw [List.range_succ,List.map_append];rfl
theorem inS_one {x j:Nat}:knownB [((x:Int),(x:Int) + 1)] (j:Nat) = (j != x):=by
 by_cases h:j = x
 ·subst h
  rw [bne_self_eq_false]
  unfold knownB inS
  simp
  omega
 ·rw [bne_iff_ne.2 h]
  unfold knownB inS
  simp
  omega
theorem resJ_dark_ (hp:1 ≤ p) (hq:1 ≤ q) (hL:∀ i,largeB (L.getD i 0) = false) (hM:M + (p + q) = L.length) {x:Nat}:∀ j,j ≤ M → resJ p q (L.take (p + q)) (zipK ((valC (tapC L [] (vTn p q) M)).set x 0) [((x:Int),(x:Int) + 1)] M) j = (0,darkK L p q x (p + q + j))
  | 0,_ => by
    show (0,(L.take (p + q)).map fun x => (x,true)) = _
    congr 1
    refine List.ext_getElem? fun i => ?_
    unfold darkK
    by_cases h:i < p + q
    · rw [List.getElem?_map,List.getElem?_take_of_lt h,List.getElem?_map,List.getElem?_range (by omega),List.getElem?_eq_getElem (by omega)]
      show some (L[i],true) = some (cond (knH p q x i) (L.getD i 0) 0,knH p q x i)
      rw [knH_end h,List.getD_eq_getElem?_getD,List.getElem?_eq_getElem (by omega)];rfl
    · rw [List.getElem?_eq_none (by rw [List.length_map,List.length_take];omega),List.getElem?_eq_none (by rw [List.length_map,List.length_range];omega)]
  | j + 1,hj => by
    have ih:=resJ_dark_ hp hq hL hM (x:=x) j (by omega)
    have hc:(zipK ((valC (tapC L [] (vTn p q) M)).set x 0) [((x:Int),(x:Int) + 1)] M).getD j (0,false) = (((valC (tapC L [] (vTn p q) M)).set x 0).getD j 0,j != x):=by
      rw [List.getD_eq_getElem?_getD,zipK_get (by omega),inS_one];rfl
    rw [show p + q + (j + 1) = p + q + j + 1 by omega,darkK_succ]
    have hk:resK p (darkK L p q x (p + q + j)) j ((zipK ((valC (tapC L [] (vTn p q) M)).set x 0) [((x:Int),(x:Int) + 1)] M).getD j (0,false)).2 = knH p q x (p + q + j):=by
      unfold resK
      rw [hc,darkK_get (by omega),darkK_get (by omega),knH_step hq]
      cases knH p q x (j + p) <;> cases knH p q x j <;> rfl
    cases hb:knH p q x (p + q + j) with
    | false =>
      rw [hb] at hk
      exact resJ_dark ih hk
    | true =>
      rw [hb] at hk
      have hs:=knH_step (p:=p) (x:=x) (j:=j) hq
      rw [hb] at hs
      have hx:(j != x) = true:=by cases h:(j != x) with
        | true => rfl
        | false => rw [h] at hs;cases hs
      rw [hx] at hs
      have k1:knH p q x j = true:=by cases h:knH p q x j with
        | true => rfl
        | false => rw [h] at hs;cases hs
      rw [k1] at hs
      have k2:knH p q x (j + p) = true:=hs.symm
      have hv:((valC (tapC L [] (vTn p q) M)).set x 0).getD j 0 = tapN L j (vTn p q) 0:=by
        rw [List.getD_eq_getElem?_getD,List.getElem?_set_ne (fun c => (bne_iff_ne.1 hx) c.symm),← List.getD_eq_getElem?_getD,vers_all (by omega)]
      have hn:resN p q (darkK L p q x (p + q + j)) j (tapN L j (vTn p q) 0) = (p:Int) * L.getD (p + q + j) 0:=by
        unfold resN
        rw [darkK_get (by omega),darkK_get (by omega),k1,k2,vTn_val,Int.neg_mul,show j + (p + q) = p + q + j by omega]
        show ((p:Int) + q) * L.getD (j + p) 0 - (q:Int) * L.getD j 0 - (-((q:Int) * L.getD j 0) + ((p:Int) + q) * L.getD (j + p) 0 - (p:Int) * L.getD (p + q + j) 0) = _
        omega
      obtain ⟨r1,r2⟩:=res_step hp (L.getD (p + q + j) 0)
      rw [resJ_put ih hk (by rw [hc,hv];show resE1 p (resN p q _ j (tapN L j (vTn p q) 0)) = 0;rw [hn,r1,hL];rfl),hc,hv]
      show (0,darkK L p q x (p + q + j) ++ [((resN p q (darkK L p q x (p + q + j)) j (tapN L j (vTn p q) 0)).tdiv p,true)]) = _
      rw [hn,r2];rfl
end
theorem vers_line {L:List Int} {p q g m j:Nat} {a b c:Int} (hg:g ∣ p) (hg':g ∣ q) (hj:j + (p + q) < m) (hm:m = L.length):tapN ((List.range m).map fun (i:Nat) => L.getD i 0 + (a + b * i + c * ((i % g:Nat):Int))) j (vTn p q) 0 = tapN L j (vTn p q) 0:=by
 have e:∀ i,i < m → ((List.range m).map fun (i:Nat) => L.getD i 0 + (a + b * i + c * ((i % g:Nat):Int))).getD i 0 = L.getD i 0 + (a + b * i + c * ((i % g:Nat):Int)):=fun i hi => by
  rw [List.getD_eq_getElem?_getD,List.getElem?_map,List.getElem?_range hi];rfl
 obtain ⟨k1,e1⟩:=hg
 obtain ⟨k2,e2⟩:=hg'
 have m1:(j + p) % g = j % g:=by rw [e1,Nat.add_mul_mod_self_left]
 have m2:(j + (p + q)) % g = j % g:=by rw [e1,e2,← Nat.mul_add,Nat.add_mul_mod_self_left]
 rw [vTn_val,vTn_val,e j (by omega),e (j + p) (by omega),e (j + (p + q)) (by omega),m1,m2]
 generalize c * ((j % g:Nat):Int) = u
 rw [show ((j + p:Nat):Int) = (j:Int) + p by omega,show ((j + (p + q):Nat):Int) = (j:Int) + p + q by omega]
 generalize L.getD j 0 = x1
 generalize L.getD (j + p) 0 = x2
 generalize L.getD (j + (p + q)) 0 = x3
 generalize (p:Int) = P
 generalize (q:Int) = Q
 generalize (j:Int) = J
 grind
end Go.Tidy
namespace Go.Tidy
open Go Go.Proofs Tab
variable {tp:TProg}
section
variable {h:TH} {n:Int} {v1 v2:Value} {L:List Int} {S:List (Int × Int)}
set_option maxHeartbeats 2000000 in
theorem k1153w (H:Has tp) (r:TrcH h v1 v2 L S) (h0:0 < L.length) (hL:L.length ≤ 900000) (hS:S.length ≤ 1000000) (f:Free0 h.next h):CallW Tryz.prog tp (.func (.func 38) #[] #[]) #[trcV n v1 v2] h fun v h' => HX h h' ∧ ∃ b fix b2 m2 k2,v = trcV n (slA b L.length) (.slice b2 m2 k2) ∧ h.next ≤ b ∧ At h' b (.cells (cat encI L) fix true 3) ∧ SlL encS 2 h' (.slice b2 m2 k2) S ∧ ∀ z,bl (.slice b2 m2 k2) = some z → b < z:=by
 refine CallW.fnL (H.fn 38 f1153 rfl rfl) ?_
 refine WL.sr <| WOL.box rfl fun h1 N1 => WOL.al tp1114 fun h2 N2 => WOL.nil <| keep [(1,_),(2,_)] ⟨rfl,rfl,trivial⟩ ?_
 have n1:=N1.next
 have n2:=N2.next
 have A1:At h2 h.next (.cells [zi n,v1,v2] true true 52):=N1.at_.hx N2.hx
 have A2:=N2.at_
 have X2:=N1.hx.trans N2.hx
 obtain ⟨b1,k1,e1,_⟩:=id r.l
 obtain ⟨b2,k2,e2,_⟩:=id r.s
 subst e1 e2
 refine WL.sr <| WOL.bs0 u29 tp3 (by decide) (by decide) fun h3 N3 => WOL.fa rfl (fa_of fo1114_1) <| WOL.ld rfl (load_one tp29 (A1.hx N3.hx) rfl) ?_
 have n3:=N3.next
 have X3:=X2.trans N3.hx
 have oN:OwnF encI h2.next h3 (.slice (some ⟨h2.next,0,none⟩) 0 0) 3 []:=.inr ⟨_,rfl,Nat.le_refl _,N3.at_⟩
 obtain ⟨u1,h4,ap,O4,x4,n4⟩:=own_catF (sT:=24) eI u29 tp3 oN (r.l.hx X3) h0 ((f.hx X3).up (by omega)) (by show 0 + L.length ≤ _;omega) (by omega)
 rw [List.nil_append] at O4
 obtain ⟨b4,fix,rfl,C4⟩:=O4.at_ (fun c => by rw [c] at h0;exact absurd h0 (by decide))
 have hb4:h2.next ≤ b4:=by
  rcases O4 with (⟨e,_⟩ | ⟨_,b,e,q,_⟩) | ⟨b,e,q,_⟩
  ·cases e
  ·cases e;exact q
  ·cases e;exact q
 have X4:HX h2 h4:=x4 _ N3.hx (Nat.le_refl _)
 refine WOL.ap rfl rfl ap <| WOL.fa rfl (fa_of fo1114_1) ?_
 have x24:=X4.next
 refine WOL.sto (vs:=[.slice (some ⟨b4,0,none⟩) L.length L.length]) rfl rfl tp29 (A1.hx X4) rfl rfl (Nat.le_of_ble_eq_true rfl) rfl (f.hx (X2.trans X4)) (Nat.le_refl _) fun h5 P5 => WOL.nil <| keep [(1,_),(2,_)] ⟨rfl,rfl,trivial⟩ ?_
 have n5:=P5.next
 have A5:At h5 h.next (.cells [zi n,.slice (some ⟨b4,0,none⟩) L.length L.length,.slice b2 S.length k2] true true 52):=P5.at_
 have X5:HX h h5:=P5.hx _ (X2.trans X4) (Nat.le_refl _)
 have C5:=P5.oth _ _ (by omega) C4
 have A2':=P5.oth _ _ (by omega) (A2.hx X4)
 have l5:=C5.lt
 refine WL.sr <| WOL.bs0 u44 tp48 (by decide) (by decide) fun h6 N6 => WOL.fa rfl (fa_of fo1114_2) <| WOL.ld rfl (load_one tp44 (A5.hx N6.hx) rfl) ?_
 have n6:=N6.next
 obtain ⟨u2,h7,ap7,X7,s7,b7,rfl,hb7,F7⟩:=append_own u44 tp48 N6.at_ (r.s.hx (X5.trans N6.hx)) (by omega) (eS.all _)
 have x7:=X7.next
 have X6:=X5.trans N6.hx
 refine WOL.ap rfl rfl ap7 <| WOL.fa rfl (fa_of fo1114_2) ?_
 refine WOL.sto (vs:=[.slice (some ⟨b7,0,none⟩) S.length S.length]) rfl rfl tp44 ((A5.hx N6.hx).hx X7) rfl rfl (Nat.le_of_ble_eq_true rfl) rfl (f.hx (X6.trans X7)) (Nat.le_refl _) fun h8 P8 => WOL.nil <| keep [(1,_),(2,_)] ⟨rfl,rfl,trivial⟩ ?_
 have A8:At h8 h.next (.cells [zi n,.slice (some ⟨b4,0,none⟩) L.length L.length,.slice (some ⟨b7,0,none⟩) S.length S.length] true true 52):=P8.at_
 have X8:HX h h8:=P8.hx _ (X6.trans X7) (Nat.le_refl _)
 have A2'':=P8.oth _ _ (by omega) ((A2'.hx N6.hx).hx X7)
 have n8:=P8.next
 refine WL.sr <| WOL.ld rfl (load_row tp1114 A8 rfl (Nat.le_of_ble_eq_true rfl)) <| WOL.sto (vs:=[zi n,.slice (some ⟨b4,0,none⟩) L.length L.length,.slice (some ⟨b7,0,none⟩) S.length S.length]) rfl rfl tp1114 A2'' rfl rfl (Nat.le_of_ble_eq_true rfl) rfl (f.hx X8) (by omega) fun h9 P9 => WOL.nil ?_
 refine WL.ret (WL.endC rfl (load_row tp1114 P9.at_ rfl (Nat.le_of_ble_eq_true rfl)) ⟨P9.hx _ X8 (by omega),b4,fix,_,_,_,rfl,by omega,P9.oth _ _ (by omega) (P8.oth _ _ (by omega) ((C5.hx N6.hx).hx X7)),?_,fun z hz => (by have:b7 = z:=Option.some.inj hz;omega)⟩)
 exact slC_keep (slC_keep s7 fun z y hz a => P8.oth _ _ (by have:b7 = z:=Option.some.inj hz;omega) a) fun z y hz a => P9.oth _ _ (by have:b7 = z:=Option.some.inj hz;omega) a
end
end Go.Tidy
namespace Go.Tidy
open Go Go.Proofs Tab
section
variable {L V X:List Int} {S:List (Int × Int)} {p q m M j k:Nat} {n:Int}
theorem small_read {x:Int} (h:-20000 ≤ x ∧ x ≤ 20000):readE x = 0:=by
 unfold readE outB
 rw [decide_eq_false (by omega),decide_eq_false (by omega)];rfl
theorem small_big {x:Int} (h:-20000 ≤ x ∧ x ≤ 20000):largeB x = false:=by
 unfold largeB
 rw [small_read h];rfl
theorem lim_mem (hL:∀ j,-20000 ≤ L.getD j 0 ∧ L.getD j 0 ≤ 20000) {x:Int} (hx:x ∈ L):-20000 ≤ x ∧ x ≤ 20000:=by
 obtain ⟨i,hi,e⟩:=List.getElem_of_mem hx
 have:=hL i
 rw [List.getD_eq_getElem?_getD,List.getElem?_eq_getElem hi] at this
 rw [← e]
 exact this
theorem endE_take (h:p + q ≤ L.length) (hL:∀ j,-20000 ≤ L.getD j 0 ∧ L.getD j 0 ≤ 20000):endE (p:Int) (q:Int) (L.take (p + q)) = 0:=by
 unfold endE
 rw [show (((L.take (p + q)).length:Int) != (p:Int) + q) = false from bne_eq_false_iff_eq.2 (by rw [List.length_take];omega)]
 refine firstNZ_all fun x hx => ?_
 obtain ⟨y,hy,rfl⟩:=List.mem_map.1 hx
 exact small_read (lim_mem hL (List.mem_of_mem_take hy))
theorem res_tot (hp:1 ≤ p) (hp':p ≤ 32) (hq:1 ≤ q) (hq':q ≤ 32) (t1:traceE n V S = 0) (hX:endE (p:Int) (q:Int) X = 0) (h1:V.length + (p + q) ≤ 4096) (h2:(p:Int) ≤ n) (h3:n + (V.length:Nat) + q ≤ 100000000):resTot n p q V S X = (resJ p q X (zipK V S V.length) V.length).1:=by
 unfold resTot
 have e1:firstNZ [chordE p q,traceE n V S] = 0:=by rw [chordE_in (by omega) (by omega) (by omega) (by omega),t1];rfl
 have e2:rngE n p q V.length = 0:=by
  unfold rngE
  rw [decide_eq_false (by omega),decide_eq_false (by omega),decide_eq_false (by omega)];rfl
 rw [if_neg (fun c => c e1),if_neg (fun c => c hX),if_neg (fun c => c e2),Int.toNat_natCast,Int.toNat_natCast]
theorem vers_holes:holesOf ((tapC L [] (vTn p q) M).map fun c => c.2) = []:=by
 rw [vers_flags,← known_nil]
 exact holes_back rfl
theorem agree_self {KA KB:List Bool}:agreeB V V KA KB m = true:=by
 unfold agreeB
 refine List.all_eq_true.2 fun i _ => ?_
 rw [bne_self_eq_false,Bool.and_false];rfl
theorem agn_same (hp:1 ≤ p) (hp':p ≤ 32) (hq:1 ≤ q) (hq':q ≤ 32) (t1:traceE n L [] = 0) (hM:M + (p + q) = L.length) (h0:0 < M) (hb:bigC (tapC L [] (vTn p q) M) = false) (t2:traceE (n + p) (valC (tapC L [] (vTn p q) M)) [] = 0):agnO n p q L [] (n + p) (valC (tapC L [] (vTn p q) M)) [] = (true,0):=by
 unfold agnO
 have e1:firstNZ [chordE p q,traceE n L [],traceE (n + p) (valC (tapC L [] (vTn p q) M)) []] = 0:=by rw [chordE_in (by omega) (by omega) (by omega) (by omega),t1,t2];rfl
 rw [if_neg (fun c => c e1),Int.toNat_natCast,Int.toNat_natCast]
 unfold agnR
 rw [show L.length - (p + q) = M by omega,if_neg (by omega),if_neg (by rw [hb];exact Bool.false_ne_true),if_neg (fun c => c ⟨rfl,by rw [valC_len,tapC_len]⟩),agree_self]
theorem hole_one (hk:k < m):holeE m (-1) [((k:Int),(k:Int) + 1)] = 0:=by
 rw [holeE_cons]
 unfold badS
 rw [decide_eq_false (by omega:¬ (k:Int) < 0),decide_eq_false (by omega:¬ (k:Int) + 1 ≤ k),decide_eq_false (by omega:¬ ((m:Nat):Int) < (k:Int) + 1),decide_eq_false (by omega:¬ (k:Int) ≤ -1)]
 rfl
theorem torn_ok (t1:traceE n V [] = 0) (hk:k < V.length):traceE n (V.set k 0) [((k:Int),(k:Int) + 1)] = 0:=by
  have all:=firstNZ_zero t1
  have a1:=all _ (List.mem_cons_self ..)
  have a2:=all (cond (decide ((V.length:Int) > 4096)) 5 0) (by simp)
  have a3:=all (cond (decide (n + (V.length:Int) > 100000000)) 4 0) (by simp)
  have a4:=all (firstNZ (V.map readE)) (by simp)
  have hr:firstNZ ((V.set k 0).map readE) = 0:=by
    refine firstNZ_all fun x hx => ?_
    obtain ⟨y,hy,rfl⟩:=List.mem_map.1 hx
    rcases List.mem_or_eq_of_mem_set hy with h | h
    · exact firstNZ_zero a4 _ (List.mem_map_of_mem h)
    · subst h;rfl
  have hf:formE (V.set k 0) [((k:Int),(k:Int) + 1)] = 0:=by
    unfold formE
    cases hb:[((k:Int),(k:Int) + 1)].any (anyIn (V.set k 0)) with
    | false => rfl
    | true =>
      obtain ⟨j,x,hj,hx,hkn⟩:=(form_iff (holeE_in (hole_one hk))).1 hb
      rw [inS_one] at hkn
      have:j = k:=by
        by_cases h:j = k
        · exact h
        · rw [bne_iff_ne.2 h] at hkn;cases hkn
      subst this
      rw [List.getElem?_set_self hk] at hj
      exact absurd (Option.some.inj hj).symm hx
  unfold traceE
  rw [List.length_set,hr,hole_one hk,hf,a1,a2,a3]
  rfl
theorem allK_len (h:m ≤ L.length):(allK L m).length = m:=by unfold allK;rw [List.length_map,List.length_take];omega
theorem allK_val:valC (allK L L.length) = L:=by
 unfold allK valC
 rw [List.take_length,List.map_map]
 exact List.map_id L
theorem allK_holes:holesOf ((allK L L.length).map fun c => c.2) = []:=by
 have:((allK L L.length).map fun c => c.2) = List.replicate L.length true:=by
  unfold allK
  rw [List.take_length,List.map_map]
  exact List.map_const' ..
 rw [this,← known_nil]
 exact holes_back rfl
theorem allK_big (hL:∀ j,-20000 ≤ L.getD j 0 ∧ L.getD j 0 ≤ 20000):bigC (allK L m) = false:=by
 unfold bigC
 rw [List.any_eq_false]
 intro c hc
 obtain ⟨x,hx,rfl⟩:=List.mem_map.1 hc
 show ¬ (true && largeB x) = true
 rw [small_big (lim_mem hL (List.mem_of_mem_take hx))];decide
theorem darkK_len:(darkK L p q k m).length = m:=by unfold darkK;rw [List.length_map,List.length_range]
theorem darkK_big (hL:∀ j,-20000 ≤ L.getD j 0 ∧ L.getD j 0 ≤ 20000):bigC (darkK L p q k m) = false:=by
 unfold bigC
 rw [List.any_eq_false]
 intro c hc
 obtain ⟨i,hi,rfl⟩:=List.mem_map.1 hc
 show ¬ (knH p q k i && largeB (cond (knH p q k i) (L.getD i 0) 0)) = true
 cases knH p q k i with
 | false => exact Bool.false_ne_true
 | true => rw [show largeB (cond true (L.getD i 0) 0) = false from small_big (hL i)];decide
theorem darkK_val {i:Nat} (h:i < m) (hk:knH p q k i = true):(valC (darkK L p q k m)).getD i 0 = L.getD i 0:=by
 rw [valC_getD,darkK_get h,hk];rfl
theorem darkK_known {i:Nat} (h:i < m):knownB (holesOf ((darkK L p q k m).map fun c => c.2)) (i:Nat) = knH p q k i:=by
 rw [holesC_known (by rw [darkK_len];exact h),darkK_get h]
def movL (L:List Int) (a b c:Int) (g:Nat):List Int:=(List.range L.length).map fun (i:Nat) => L.getD i 0 + (a + b * i + c * ((i % g:Nat):Int))
theorem movL_len {a b c:Int} {g:Nat}:(movL L a b c g).length = L.length:=by unfold movL;rw [List.length_map,List.length_range]
theorem movL_vers {a b c:Int} {g:Nat} (hg:g ∣ p) (hg':g ∣ q) (hM:M + (p + q) = L.length):tapC (movL L a b c g) [] (vTn p q) M = tapC L [] (vTn p q) M:=by
 refine List.ext_getElem? fun i => ?_
 by_cases h:i < M
 ·rw [tapC_get h,tapC_get h]
  unfold movL
  rw [vers_line hg hg' (by omega) rfl]
 ·rw [List.getElem?_eq_none (by rw [tapC_len];omega),List.getElem?_eq_none (by rw [tapC_len];omega)]
theorem mov_step {i g:Nat} {b c:Int} (hb:-128 ≤ b ∧ b ≤ 127) (hc:-128 ≤ c ∧ c ≤ 127) (hi:i ≤ 60):(-7680 ≤ b * (i:Nat) ∧ b * (i:Nat) ≤ 7680) ∧ (-7680 ≤ c * ((i % g:Nat):Int) ∧ c * ((i % g:Nat):Int) ≤ 7680):=by
 have hm:i % g ≤ 60:=Nat.le_trans (Nat.mod_le _ _) hi
 have b1:=mulb (w:=b) (x:=((i:Nat):Int)) (a:=128) (b:=60) (by omega) (by omega)
 have b2:=mulb (w:=c) (x:=((i % g:Nat):Int)) (a:=128) (b:=60) (by omega) (by omega)
 generalize b * (i:Nat) = x1 at *
 generalize c * ((i % g:Nat):Int) = x2 at *
 omega
theorem movL_lim {a b c:Int} {g:Nat} (ha:-128 ≤ a ∧ a ≤ 127) (hb:-128 ≤ b ∧ b ≤ 127) (hc:-128 ≤ c ∧ c ≤ 127) (l1:L.length ≤ 60) (hL:∀ j,-20000 ≤ L.getD j 0 ∧ L.getD j 0 ≤ 20000) (i:Nat):((movL L a b c g).getD i 0).natAbs ≤ 36000:=by
 unfold movL
 rw [List.getD_eq_getElem?_getD,List.getElem?_map]
 by_cases h:i < L.length
 ·rw [List.getElem?_range h]
  show (L.getD i 0 + (a + b * i + c * ((i % g:Nat):Int))).natAbs ≤ 36000
  obtain ⟨s1,s2⟩:=mov_step (g:=g) hb hc (by omega:i ≤ 60)
  have:=hL i
  generalize b * (i:Nat) = x1 at *
  generalize c * ((i % g:Nat):Int) = x2 at *
  omega
 ·rw [List.getElem?_eq_none (by rw [List.length_range];omega)]
  show (0:Int).natAbs ≤ 36000;decide
theorem movL_trc {a b c:Int} {g:Nat} (ha:-128 ≤ a ∧ a ≤ 127) (hb:-128 ≤ b ∧ b ≤ 127) (hc:-128 ≤ c ∧ c ≤ 127) (l1:L.length ≤ 60) (hL:∀ j,-20000 ≤ L.getD j 0 ∧ L.getD j 0 ≤ 20000) (t1:traceE n L [] = 0):traceE n (movL L a b c g) [] = 0:=by
 have all:=firstNZ_zero t1
 have a1:=all _ (List.mem_cons_self ..)
 have a2:=all (cond (decide ((L.length:Int) > 4096)) 5 0) (by simp)
 have a3:=all (cond (decide (n + (L.length:Int) > 100000000)) 4 0) (by simp)
 have hr:firstNZ ((movL L a b c g).map readE) = 0:=by
  refine firstNZ_all fun x hx => ?_
  obtain ⟨y,hy,rfl⟩:=List.mem_map.1 hx
  obtain ⟨i,hi,e⟩:=List.getElem_of_mem hy
  have:=movL_lim (g:=g) ha hb hc l1 hL i
  rw [List.getD_eq_getElem?_getD,List.getElem?_eq_getElem hi,e] at this
  replace this:y.natAbs ≤ 36000:=this
  unfold readE outB
  rw [decide_eq_false (by omega),decide_eq_false (by omega)];rfl
 unfold traceE
 rw [movL_len,hr,a1,a2,a3]
 rfl
end
end Go.Tidy
namespace Go.Tidy
open Go Go.Proofs Tab
variable {tp:TProg}
theorem tp91u:Tp Tryz.prog 67 1 [.int .i8 0] false:=tp_of (by kernel_rfl) (by kernel_rfl) rfl
theorem u91u:Tryz.prog.underlying 67 = some (.int .i8):=by kernel_rfl
theorem ix1163_0 {c:Nat}:indexAddrT Tryz.prog 68 (.pointer (some ⟨c,0,none⟩)) (.int .i64 0) = some (.pointer (some ⟨c,0,none⟩)):=by kernel_rfl
theorem ix1163_1 {c:Nat}:indexAddrT Tryz.prog 68 (.pointer (some ⟨c,0,none⟩)) (.int .i64 1) = some (.pointer (some ⟨c,1,none⟩)):=by kernel_rfl
theorem ix1163_2 {c:Nat}:indexAddrT Tryz.prog 68 (.pointer (some ⟨c,0,none⟩)) (.int .i64 2) = some (.pointer (some ⟨c,2,none⟩)):=by kernel_rfl
theorem ix1163_3 {c:Nat}:indexAddrT Tryz.prog 68 (.pointer (some ⟨c,0,none⟩)) (.int .i64 3) = some (.pointer (some ⟨c,3,none⟩)):=by kernel_rfl
theorem WOL.cvJ {P:Program} {tp:TProg} {h:TH} {K:Regs → TH → Prop} {rest:List TOper} {d:Option Tmp} {ty:TypeId} {i:Nat} {x:Operand} {L:Rg} {s t:TypeId} {ds:TypeDesc} {k:IntKind} {n:Int} (hs:P.underlying s = some ds) (ht:P.underlying t = some (.int .i64)) (hx:getL L x = some (.int k n)) (hw:IntKind.i64.wrap n = n) (w:∀ a,Kn (putL L d (.int .i64 n)) a → WO P tp rest a h K):∀ a,Kn L a → WO P tp (⟨d,.convert s t x,ty,none,[],i⟩ :: rest) a h K:=fun a q => by
 refine WO.conv (q.o hx) rfl (conv_i2i hs ht) rfl ?_
 rw [hw]
 exact w _ (q.put d _)
def mixL (L V:List Int) (j:Nat):List Int:=V.take j ++ L.drop j
section
variable {L V:List Int} {j:Nat}
theorem mixL_len (h:V.length = L.length) (hj:j ≤ L.length):(mixL L V j).length = L.length:=by unfold mixL;rw [List.length_append,List.length_take,List.length_drop];omega
theorem mixL_get (h:V.length = L.length) (hj:j < L.length):(mixL L V j)[j]? = some (L.getD j 0):=by
 unfold mixL
 rw [List.getElem?_append_right (by rw [List.length_take];omega),List.length_take,Nat.min_eq_left (by omega),Nat.sub_self,List.getElem?_drop,Nat.add_zero,List.getD_eq_getElem?_getD,List.getElem?_eq_getElem hj];rfl
theorem mixL_set (h:V.length = L.length) (hj:j < L.length):(mixL L V j).set j (V.getD j 0) = mixL L V (j + 1):=by
 refine List.ext_getElem? fun i => ?_
 unfold mixL
 have t1:(V.take j).length = j:=by rw [List.length_take];omega
 have t2:(V.take (j + 1)).length = j + 1:=by rw [List.length_take];omega
 by_cases e:i = j
 ·subst e
  rw [List.getElem?_set_self (by rw [List.length_append,t1,List.length_drop];omega),List.getElem?_append_left (by omega),List.getElem?_take_of_lt (by omega),List.getD_eq_getElem?_getD,List.getElem?_eq_getElem (by omega)];rfl
 ·rw [List.getElem?_set_ne (fun c => e c.symm)]
  by_cases c:i < j
  ·rw [List.getElem?_append_left (by omega),List.getElem?_append_left (by omega),List.getElem?_take_of_lt c,List.getElem?_take_of_lt (by omega)]
  ·rw [List.getElem?_append_right (by omega),List.getElem?_append_right (by omega),t1,t2,List.getElem?_drop,List.getElem?_drop,show j + (i - j) = j + 1 + (i - (j + 1)) by omega]
theorem mixL_all (h:V.length = L.length):mixL L V L.length = V:=by
 unfold mixL
 rw [← h,List.take_length,h,List.drop_length,List.append_nil]
end
theorem movL_get {L:List Int} {a b c:Int} {g j:Nat} (h:j < L.length):(movL L a b c g).getD j 0 = L.getD j 0 + (a + b * j + c * ((j % g:Nat):Int)):=by
 unfold movL
 rw [List.getD_eq_getElem?_getD,List.getElem?_map,List.getElem?_range h];rfl
theorem sl_ltD {h:TH} {v:Value} {S:List (Int × Int)} (s:SlL encS 2 h v S) {z:Nat} (hz:bl v = some z):z < h.next:=by
 obtain ⟨bo,cap,rfl,_,_,hh⟩:=s
 rcases hh with ⟨rfl,_⟩ | ⟨b',off,cc,fx,wr,el,rfl,A,_⟩
 ·cases hz
 ·have e:b' = z:=Option.some.inj hz
  subst e
  exact A.lt
section
variable {h h0:TH} {n x y z w:Int} {p q M c3 c4 c5 c7 b7 d7 m7 k7 m0:Nat} {v1 v2:Value} {L:List Int} {a7:Option Addr}
def cd1107e:TCode:=.seq (.reg r1107_26) (.seq (.reg r1107_27) (.seq (.seq (.reg r1107_28) (.block 2 (.loop (.seq (.reg r1107_29) (.seq (.cond (.tmp 251) .skip (.exit 2)) (.seq (.block 3 (.seq (.reg r1107_30) (.reg r1107_31))) (.reg r1107_32))))))) (.seq (.reg r1107_33) (.seq (.reg r1107_34) .ret))))
set_option maxHeartbeats 8000000 in
set_option maxRecDepth 10000 in
theorem k1107e (H:Has tp) (K:Awk tp) (X0:HX h0 h) (f:Free0 h0.next h0) (A3:At h c3 (.cells [zi (p:Nat),zi (q:Nat)] true true 23)) (A4:At h c4 (.cells [zi n,v1,v2] true true 52)) (A5:At h c5 (.cells [.int .i8 x,.int .i8 y,.int .i8 z,.int .i8 w] true true 68)) (r:TrcH h v1 v2 L [])
  (A7:At h c7 (.cells [zi (n + (p:Nat)),slA b7 M,.slice a7 m7 k7] true true 55)) (o7:TrcO m0 h b7 (.slice a7 m7 k7) (valC (tapC L [] (vTn p q) M)) [])
  (hp:1 ≤ p) (hp':p ≤ 32) (hq:1 ≤ q) (hq':q ≤ 32) (hy:-128 ≤ y ∧ y ≤ 127) (hz:-128 ≤ z ∧ z ≤ 127) (hw:-128 ≤ w ∧ w ≤ 127)
  (t1:traceE n L [] = 0) (hM:M + (p + q) = L.length) (h0M:0 < M) (l1:L.length ≤ 60) (lim:∀ j,-20000 ≤ L.getD j 0 ∧ L.getD j 0 ≤ 20000) :
  ∀ a,Kn [(3,ptr c3),(4,ptr c4),(5,ptr c5),(7,ptr c7)] a → W Tryz.prog tp false cd1107e a h (Fin Tryz.prog [.tmp 6] fun v _ => v = .bool true):=by
 unfold cd1107e
 obtain ⟨b1,k1,e1,_⟩:=id r.l
 obtain ⟨b2,k2,e2,_⟩:=id r.s
 subst e1 e2
 have x0:=X0.next
 have lc5:=A5.lt
 have lc3:=A3.lt
 have lc7:=A7.lt
 have lb7:=o7.v.lt
 have ls7:=fun u (hu:bl (.slice a7 m7 k7) = some u) => o7.s.lt hu
 -- a trace of one's own
 refine WL.sr <| WOL.ld rfl (load_row tp1114 A4 rfl (Nat.le_of_ble_eq_true rfl)) <| WOL.cl1 rfl rfl ((k1153w (n:=n) H r (by omega) (by omega) (by simp) (f.on X0)).mono ?_)
 rintro v h1 ⟨X1,bm,fix,d2,m2,k3,rfl,hbm,Am,sm,hgt⟩
 have Y1:=X0.trans X1
 have x1:=X1.next
 refine WOL.al tp1114 fun h2 N2 => WOL.sto (vs:=[zi n,slA bm L.length,.slice d2 m2 k3]) rfl rfl tp1114 N2.at_ rfl rfl (Nat.le_of_ble_eq_true rfl) rfl (f.hx (Y1.trans N2.hx)) (by omega) fun h3 P3 => WOL.nil <| keep [(3,_),(4,_),(5,_),(7,_),(21,_)] ⟨rfl,rfl,rfl,rfl,rfl,trivial⟩ ?_
 have n2:=N2.next
 have p3:=P3.next
 have Z3:HX h h3:=P3.hx _ (X1.trans N2.hx) (by omega)
 have B21:=P3.at_
 have Am3:=P3.oth _ _ (by have:=Am.lt;omega) (Am.hx N2.hx)
 have lm:=Am.lt
 have sm3:SlL encS 2 h3 (.slice d2 m2 k3) []:=slC_keep (sm.hx N2.hx) fun u _ hu a => P3.oth _ _ (by have:=sl_ltD sm hu;omega) a
 have ls3:=fun u hu => sl_ltD (z:=u) sm hu
 replace A3:=A3.hx Z3;replace A4:=A4.hx Z3;replace A5:=A5.hx Z3;replace A7:=A7.hx Z3;replace o7:=o7.hx Z3;replace r:=r.hx Z3
 have Y3:=X0.trans Z3
 have z3:=Z3.next
 have ln3:h3.next = h1.next + 1:=by omega
 -- the common measure
 refine WL.sr <| WOL.fa rfl (fa_of fo1112_0) <| WOL.ld rfl (load_one tp3 A3 rfl) <| WOL.fa rfl (fa_of fo1112_1) <| WOL.ld rfl (load_one tp3 A3 rfl) <| WOL.cl2 rfl rfl rfl ((k79 H (m:=(p:Int)) (n:=q) (by omega) (by omega) (by omega) (by omega)).mono ?_)
 rintro v h4 ⟨rfl,e4⟩
 replace e4:=e4.symm
 subst e4
 rw [Int.natAbs_natCast]
 have g1:Nat.gcd p q ∣ p:=Nat.gcd_dvd_left p q
 have g2:Nat.gcd p q ∣ q:=Nat.gcd_dvd_right p q
 have g3:0 < Nat.gcd p q:=Nat.gcd_pos_of_pos_left q (by omega)
 have g4:Nat.gcd p q ≤ p:=Nat.gcd_le_left q (by omega)
 generalize Nat.gcd p q = gg at *
 refine WOL.as rfl <| WOL.nil <| keep [(3,_),(4,_),(5,_),(7,_),(21,_),(22,_)] ⟨rfl,rfl,rfl,rfl,rfl,rfl,trivial⟩ ?_
 have lV:=movL_len (L:=L) (a:=y) (b:=z) (c:=w) (g:=gg)
 have gV:=fun j hj => movL_get (L:=L) (a:=y) (b:=z) (c:=w) (g:=gg) (j:=j) hj
 have limV:=movL_lim (g:=gg) hy hz hw l1 lim
 have tV:=movL_trc (g:=gg) hy hz hw l1 lim t1
 have vV:=movL_vers (L:=L) (a:=y) (b:=z) (c:=w) g1 g2 hM
 have gs:=fun j (hj:j ≤ 60) => mov_step (i:=j) (g:=gg) hz hw hj
 generalize movL L y z w gg = V at *
 refine WL.seq <| WL.sr <| WOL.fa rfl (fa_of fo1114_1) <| WOL.ld rfl (load_one tp29 B21 rfl) <| WOL.len rfl (SlL.own eI Am3 rfl) u29 <| WOL.mv rfl <| WOL.nil <| keep [(3,_),(4,_),(5,_),(7,_),(21,_),(22,_),(249,_),(250,_)] ⟨rfl,rfl,rfl,rfl,rfl,rfl,rfl,rfl,trivial⟩ ?_
 refine WL.upto (α:=Unit) L.length (fun j _ g => HX h g ∧ g.next = h3.next ∧ (∀ c u,c ≠ bm → At h3 c u → At g c u) ∧ At g bm (.cells (cat encI (mixL L V j)) fix true 3)) (fun _ _ => [(3,ptr c3),(4,ptr c4),(5,ptr c5),(7,ptr c7),(21,ptr h1.next),(22,zi (gg:Nat)),(249,zi (L.length:Nat))]) () rfl rfl (by omega) ⟨Z3,rfl,fun _ _ _ a => a,Am3⟩ ⟨rfl,rfl,rfl,rfl,rfl,rfl,rfl,rfl,trivial⟩ (fun _ _ => rfl) (fun _ _ _ => ⟨rfl,rfl,rfl,rfl,rfl,rfl,rfl,rfl,trivial⟩) (fun _ _ _ => ⟨rfl,rfl,rfl,rfl,rfl,rfl,rfl,rfl,trivial⟩) ?_ ?_
 ·rintro j _ g hj ⟨X,nx,o,Ag⟩
  have C21:=o _ _ (by omega) B21
  have C5:=o _ _ (by omega) A5
  obtain ⟨s1,s2⟩:=gs j (by omega)
  have hg:=mixL_get lV hj
  have lg:=mixL_len (j:=j) lV (by omega)
  have st:=mixL_set lV hj
  rw [gV j hj] at st
  have lj:=lim j
  have em:((j:Nat):Int) % ((gg:Nat):Int) = ((j % gg:Nat):Int):=(Int.natCast_emod j gg).symm
  refine WL.sr <| WOL.mv rfl <| WOL.as rfl <| WOL.nil <| keep [(3,_),(4,_),(5,_),(7,_),(21,_),(22,_),(23,_),(249,_),(250,_)] ⟨rfl,rfl,rfl,rfl,rfl,rfl,rfl,rfl,rfl,trivial⟩ ?_
  refine WL.reg <| WOL.fa rfl (fa_of fo1114_1) <| WOL.ld rfl (load_one tp29 C21 rfl) <| WOL.mv rfl <| WOL.ix rfl rfl (indexAddr_tp u29 tp3 hj) <| WOL.ld rfl (load_one tp3 Ag (show (cat encI (mixL L V j))[0 + j * 1]? = some (zi (L.getD j 0)) by rw [Nat.zero_add];exact eI.get hg (q:=0) (by decide))) <| WOL.ix rfl rfl ix1163_1 <| WOL.ld rfl (load_one tp91u C5 rfl) <| WOL.cvJ u91u Tryz.underlying3 rfl (IntWalk.i64_in _ (by omega)) <| WOL.ix rfl rfl ix1163_2 <| WOL.ld rfl (load_one tp91u C5 rfl) <| WOL.cvJ u91u Tryz.underlying3 rfl (IntWalk.i64_in _ (by omega)) <| WOL.mv rfl <| WOL.mul (m:=z) (n:=(j:Int)) rfl rfl (by omega) (by omega) <| WOL.add (m:=y) (n:=z * (j:Int)) rfl rfl (by omega) (by omega) <| WOL.ix rfl rfl ix1163_3 <| WOL.ld rfl (load_one tp91u C5 rfl) <| WOL.cvJ u91u Tryz.underlying3 rfl (IntWalk.i64_in _ (by omega)) <| WOL.mv rfl <| WOL.mv rfl <| WOL.rem (m:=(j:Int)) (n:=((gg:Nat):Int)) rfl rfl (by omega) (by omega) ?_
  rw [em]
  refine WOL.mul (m:=w) (n:=((j % gg:Nat):Int)) rfl rfl (by omega) (by omega) <| WOL.add (m:=y + z * (j:Int)) (n:=w * ((j % gg:Nat):Int)) rfl rfl (by omega) (by omega) <| WOL.add (m:=L.getD j 0) (n:=y + z * (j:Int) + w * ((j % gg:Nat):Int)) rfl rfl (by omega) (by omega) <| WOL.ix rfl rfl (indexAddr_tp u29 tp3 hj) <| WOL.sto (vs:=encI (L.getD j 0 + (y + z * (j:Int) + w * ((j % gg:Nat):Int)))) rfl rfl tp3 Ag rfl rfl (by rw [eI.cat_len,lg];omega) rfl (f.hx (X0.trans X)) (by omega) fun i3 P => WOL.nil fun a k => ⟨(),⟨P.hx _ X (by omega),by have:=P.next;omega,fun c u hc a => P.oth _ _ hc (o c u hc a),?_⟩,k.sub ⟨rfl,rfl,rfl,rfl,rfl,rfl,rfl,rfl,trivial⟩⟩
  have B:=P.at_
  rw [Nat.zero_add,eI.set (by omega),st] at B
  exact B
 ·rintro _ g ⟨X,nx,o,Ag⟩
  rw [mixL_all lV] at Ag
  have C21:=o _ _ (by omega) B21
  have Y:=X0.trans X
  have smg:SlL encS 2 g (.slice d2 m2 k3) []:=slC_keep sm3 fun u _ hu a => o _ _ (by have:=hgt u hu;omega) a
  have rV:TrcH g (slA bm L.length) (.slice d2 m2 k3) V []:=⟨SlL.own eI Ag lV,smg,fun b off m cap e => by cases e;exact ⟨_,_,_,_,Ag,.inr rfl⟩⟩
  have D3:=o _ _ (by omega) A3
  have D7:=o _ _ (by omega) A7
  have l7:=o7.v.lt
  have xg:=X.next
  have bC:=taps_small (L:=L) (S:=[]) (M:=M) (B:=20000) (T:=vTn p q) (by decide) (fun i => by have:=lim i;omega) (vTn_w hp' hq') (by show 3 ≤ 65;decide)
  have lC:(tapC L [] (vTn p q) M).length = M:=tapC_len
  have vh:=vers_holes (L:=L) (p:=p) (q:=q) (M:=M)
  refine WL.sr <| WOL.ld rfl (load_row tp1112 D3 rfl (Nat.le_of_ble_eq_true rfl)) <| WOL.ld rfl (load_row tp1114 C21 rfl (Nat.le_of_ble_eq_true rfl)) <| WOL.al tp1117 fun j1 J1 => ?_
  have s1:=J1.next
  have U1:=Y.trans J1.hx
  refine WOL.lq1 [g.next,c3] rfl rfl rfl fun ml hM => ((k1115 (n:=n) H ((rV.hx J1.hx).relock ml) (by rw [lV];omega) (by simp) ((f.on U1).held hM (fun b hb => by simp at hb;omega))).mono ?_)
  rintro v j2 ⟨J2,u1,u2,rfl,ru,_,_⟩
  replace J2:=J2.relock
  replace ru:=ru.relock j1.lock
  generalize j2.withLock j1.lock = j2 at *
  have s2:=J2.next
  have U2:=U1.trans J2
  refine WOL.lq2 [g.next] rfl rfl rfl rfl fun ml hM => ((k1125 (n:=n) (a:=(p:Int)) (b:=(q:Int)) H (ru.relock ml) (by rw [lV];omega) (by simp) ((f.on U2).held hM (fun b hb => by simp at hb;omega))).mono ?_)
  rintro v j3 ⟨J3,R⟩
  replace J3:=J3.relock
  rw [Int.toNat_natCast,Int.toNat_natCast,lV,show L.length - (p + q) = M by omega,vV] at R
  obtain ⟨bx,b8,m8,k8,rfl,hx,to⟩:=R.ok (errV_in (by rw [chordE_in (by omega) (by omega) (by omega) (by omega),tV];rfl) (by omega)) bC
  clear R
  rw [vh] at to
  replace to:TrcO j2.next (j3.withLock j2.lock) bx _ _ _:=to.relock j2.lock
  replace hx:j2.next ≤ bx:=hx
  generalize j3.withLock j2.lock = j3 at *
  generalize tapC L [] (vTn p q) M = C at *
  have s3:=J3.next
  have U3:=U2.trans J3
  have T3:=(J1.hx.trans J2).trans J3
  have B24:=(J1.at_.hx J2).hx J3
  refine WOL.mv rfl <| WOL.ex rfl rfl <| WOL.ex rfl rfl <| WOL.sto (vs:=[zi (n + (p:Nat)),slA bx _,.slice b8 m8 k8]) rfl rfl tp1117 B24 rfl rfl (Nat.le_of_ble_eq_true rfl) rfl (f.hx U3) (by omega) fun j4 P4 => WOL.as rfl <| WOL.nil <| keep [(7,_),(24,_),(25,_)] ⟨rfl,rfl,rfl,trivial⟩ ?_
  have s4:=P4.next
  have T4:HX g j4:=P4.hx _ T3 (by omega)
  have U4:=Y.trans T4
  replace B24:=P4.at_
  have o24:=to.put P4 (by omega) (by omega)
  clear to
  have o7':TrcO m0 g b7 (.slice a7 m7 k7) (valC C) []:=⟨o _ _ (by omega) o7.v,o7.s.keep fun u _ hu a => o _ _ (by have:=ls7 u hu;omega) a⟩
  have E7:=D7.hx T4
  have lc7':=E7.lt
  -- the readings are the same
  refine WL.sr <| WOL.mv rfl <| WOL.bt rfl rfl rfl rfl <| WOL.mv rfl <| WOL.now (b:=true) rfl rfl <| WOL.ld rfl (load_row tp1117 B24 rfl (Nat.le_of_ble_eq_true rfl)) <| WOL.now (b:=true) rfl rfl <| WOL.ld rfl (load_row tp1117 E7 rfl (Nat.le_of_ble_eq_true rfl)) <| WOL.now (b:=true) rfl rfl ?_
  refine WOL.lq1 [c7] rfl rfl rfl fun ml hM => ((k1150 (h:=TH.withLock _ ml) H ((f.on U4).held hM (fun b hb => by simp at hb;omega))).mono ?_)
  rintro v j6 ⟨rfl,J6⟩
  replace J6:=J6.relock
  generalize j6.withLock j4.lock = j6 at *
  have U6:=U4.trans J6
  refine WOL.now (b:=true) rfl rfl <| WOL.cl1 rfl rfl ((k1150 H (f.on U6)).mono ?_)
  rintro v j7 ⟨rfl,J7⟩
  have J67:=J6.trans J7
  have oA:=o24.hx J67
  have oB:=(o7'.hx T4).hx J67
  refine WOL.now (b:=true) rfl rfl <| WOL.cl2 rfl rfl rfl ((k1152 (n:=n + (p:Nat)) H (oA.ints (m:=C.length) valC_len.symm) (oB.ints (m:=M) (by rw [valC_len,lC])) (oA.s.sl eS) (oB.s.sl eS) (by rw [valC_len];omega) (by simp)).mono ?_)
  rintro v j8 ⟨rfl,J8⟩
  refine WOL.pkt rfl rfl <| WOL.mv rfl <| WOL.now (b:=true) rfl rfl <| WOL.cl0 rfl ((k11t K _).mono ?_)
  rintro v g8 ⟨rfl,rfl⟩
  exact WOL.pkt rfl rfl <| WOL.as rfl <| WOL.nil <| WL.ret (WL.end_ rfl rfl)
end
end Go.Tidy
namespace Go.Tidy
open Go Go.Proofs Tab
variable {tp:TProg}
def knF (kn:Nat → Bool) (m j:Nat):List Bool:=(List.range m).map fun i => decide (i < j) && kn i
section
variable {kn:Nat → Bool} {m j i:Nat}
theorem knF_len:(knF kn m j).length = m:=by unfold knF;rw [List.length_map,List.length_range]
theorem knF_get (h:i < m):(knF kn m j)[i]? = some (decide (i < j) && kn i):=by unfold knF;rw [List.getElem?_map,List.getElem?_range h];rfl
theorem knF_zero:knF kn m 0 = List.replicate m false:=by
 refine List.eq_replicate_iff.2 ⟨knF_len,fun b hb => ?_⟩
 obtain ⟨i,_,rfl⟩:=List.mem_map.1 hb
 rw [decide_eq_false (Nat.not_lt_zero i)];rfl
theorem knF_set (h:j < m):(knF kn m j).set j (kn j) = knF kn m (j + 1):=by
 refine List.ext_getElem? fun i => ?_
 by_cases e:i = j
 ·subst e
  rw [List.getElem?_set_self (by rw [knF_len];exact h),knF_get h,decide_eq_true (by omega)];rfl
 ·rw [List.getElem?_set_ne (fun c => e c.symm)]
  by_cases c:i < m
  ·rw [knF_get c,knF_get c]
   by_cases d:i < j
   ·rw [decide_eq_true d,decide_eq_true (by omega:i < j + 1)]
   ·rw [decide_eq_false d,decide_eq_false (by omega:¬ i < j + 1)]
  ·rw [List.getElem?_eq_none (by rw [knF_len];omega),List.getElem?_eq_none (by rw [knF_len];omega)]
end
section
variable {h h0:TH} {n x y z w:Int} {p q M kx c3 c4 c5 c7 b7 d7 m7 k7 m0 c16 b16 m16 k16 m6:Nat} {v1 v2:Value} {L:List Int} {a7 a16:Option Addr}
def cd1107d:TCode:=.seq (.reg r1107_17) (.seq (.seq (.reg r1107_18) (.block 0 (.loop (.seq (.reg r1107_19) (.seq (.cond (.tmp 177) .skip (.exit 0)) (.seq (.block 1 (.seq (.reg r1107_20) (.seq (.reg r1107_21) (.seq (.reg r1107_22) (.seq (.reg r1107_23) (.cond (.tmp 238) (.seq (.reg r1107_24) .ret) .skip)))))) (.reg r1107_25))))))) cd1107e)
set_option maxHeartbeats 8000000 in
set_option maxRecDepth 10000 in
theorem k1107d (H:Has tp) (K:Awk tp) (X0:HX h0 h) (f:Free0 h0.next h0) (A3:At h c3 (.cells [zi (p:Nat),zi (q:Nat)] true true 23)) (A4:At h c4 (.cells [zi n,v1,v2] true true 52)) (A5:At h c5 (.cells [.int .i8 x,.int .i8 y,.int .i8 z,.int .i8 w] true true 68)) (r:TrcH h v1 v2 L [])
    (A7:At h c7 (.cells [zi (n + (p:Nat)),slA b7 M,.slice a7 m7 k7] true true 55)) (o7:TrcO m0 h b7 (.slice a7 m7 k7) (valC (tapC L [] (vTn p q) M)) [])
    (A16:At h c16 (.cells [zi n,slA b16 L.length,.slice a16 m16 k16] true true 55)) (o16:TrcO m6 h b16 (.slice a16 m16 k16) (valC (darkK L p q kx L.length)) (holesOf ((darkK L p q kx L.length).map fun c => c.2)))
    (hp:1 ≤ p) (hp':p ≤ 32) (hq:1 ≤ q) (hq':q ≤ 32) (hy:-128 ≤ y ∧ y ≤ 127) (hz:-128 ≤ z ∧ z ≤ 127) (hw:-128 ≤ w ∧ w ≤ 127)
    (t1:traceE n L [] = 0) (hM:M + (p + q) = L.length) (h0M:0 < M) (l1:L.length ≤ 60) (lim:∀ j,-20000 ≤ L.getD j 0 ∧ L.getD j 0 ≤ 20000) :
    ∀ a,Kn [(3,ptr c3),(4,ptr c4),(5,ptr c5),(7,ptr c7),(15,zi (kx:Nat)),(16,ptr c16)] a → W Tryz.prog tp false cd1107d a h (Fin Tryz.prog [.tmp 6] fun v _ => v = .bool true):=by
  unfold cd1107d
  obtain ⟨b1,k1,e1,_⟩:=id r.l
  obtain ⟨b2,k2,e2,_⟩:=id r.s
  subst e1 e2
  have x0:=X0.next
  have lh:=holesOf_le ((darkK L p q kx L.length).map fun c => c.2)
  rw [List.length_map,darkK_len] at lh
  refine WL.sr <| WOL.fa rfl (fa_of fo1114_1) <| WOL.ld rfl (load_one tp29 A4 rfl) <| WOL.len rfl r.l u29 <| WOL.ms rfl rfl u145 tp4 (by decide) (by omega) fun h1 N1 => WOL.as rfl <| WOL.nil <| keep [(3,_),(4,_),(5,_),(7,_),(15,_),(16,_),(18,_)] ⟨rfl,rfl,rfl,rfl,rfl,rfl,rfl,trivial⟩ ?_
  have q1:=N1.next
  have AK:=N1.at_
  rw [List.flatten_replicate_singleton,← cat_rep (enc:=encB) (x:=false) (z:=.bool false) rfl,← knF_zero (kn:=knH p q kx)] at AK
  have Z1:=N1.hx
  refine WL.seq <| WL.sr <| WOL.mv rfl <| WOL.len rfl (SlL.own eB AK knF_len) u145 ?_
  rw [knF_len]
  refine WOL.mv rfl <| WOL.nil <| keep [(3,_),(4,_),(5,_),(7,_),(15,_),(16,_),(18,_),(174,_),(175,_),(176,_)] ⟨rfl,rfl,rfl,rfl,rfl,rfl,rfl,rfl,rfl,rfl,trivial⟩ ?_
  refine WL.upto (α:=Unit) L.length (fun j _ g => HX h g ∧ h1.next ≤ g.next ∧ At g h.next (.cells (cat encB (knF (knH p q kx) L.length j)) true true 4)) (fun _ _ => [(3,ptr c3),(4,ptr c4),(5,ptr c5),(7,ptr c7),(15,zi (kx:Nat)),(16,ptr c16),(18,slA h.next L.length),(175,zi (L.length:Nat))]) () rfl rfl (by omega) ⟨Z1,Nat.le_refl _,AK⟩ ⟨rfl,rfl,rfl,rfl,rfl,rfl,rfl,rfl,rfl,trivial⟩ (fun _ _ => rfl) (fun _ _ _ => ⟨rfl,rfl,rfl,rfl,rfl,rfl,rfl,rfl,rfl,trivial⟩) (fun _ _ _ => ⟨rfl,rfl,rfl,rfl,rfl,rfl,rfl,rfl,rfl,trivial⟩) ?_ ?_
  · rintro j _ g hj ⟨X,nx,Ag⟩
    have B3:=A3.hx X
    have B4:=A4.hx X
    have B16:=A16.hx X
    have rg:=r.hx X
    have og:=o16.hx X
    have xg:=X.next
    have kg:∀ i,i < L.length → (cat encB (knF (knH p q kx) L.length j))[0 + i * 1]? = some (.bool (decide (i < j) && knH p q kx i)):=fun i hi => by
      rw [Nat.zero_add]
      exact eB.get (knF_get (kn:=knH p q kx) (j:=j) hi) (q:=0) (by decide)
    refine WL.sr <| WOL.mv rfl <| WOL.as rfl <| WOL.nil <| keep [(3,_),(4,_),(5,_),(7,_),(15,_),(16,_),(18,_),(19,_),(175,_),(176,_)] ⟨rfl,rfl,rfl,rfl,rfl,rfl,rfl,rfl,rfl,rfl,trivial⟩ ?_
    refine WL.sr <| WOL.mv rfl <| WOL.fa rfl (fa_of fo1112_0) <| WOL.ld rfl (load_one tp3 B3 rfl) <| WOL.sub (m:=(j:Int)) (n:=(p:Int)) rfl rfl (by omega) (by omega) <| WOL.fa rfl (fa_of fo1112_1) <| WOL.ld rfl (load_one tp3 B3 rfl) <| WOL.sub (m:=(j:Int) - (p:Int)) (n:=(q:Int)) rfl rfl (by omega) (by omega) <| WOL.as rfl <| WOL.nil <| keep [(3,_),(4,_),(5,_),(7,_),(15,_),(16,_),(18,_),(19,_),(20,_),(175,_),(176,_)] ⟨rfl,rfl,rfl,rfl,rfl,rfl,rfl,rfl,rfl,rfl,rfl,trivial⟩ ?_
    -- the flag is set
    refine WL.sr <| WOL.cut 24 [(3,ptr c3),(4,ptr c4),(5,ptr c5),(7,ptr c7),(15,zi (kx:Nat)),(16,ptr c16),(18,slA h.next L.length),(19,zi (j:Nat)),(175,zi (L.length:Nat)),(176,zi (j:Nat)),(186,slA h.next L.length),(187,zi (j:Nat)),(209,.bool (knH p q kx j))] ?_ ?_
    · by_cases c1:j < p + q
      · rw [knH_end c1]
        exact WOL.mv rfl <| WOL.mv rfl <| WOL.mv rfl <| WOL.bt rfl rfl rfl (decide_eq_true (show (j:Int) - (p:Int) - (q:Int) < 0 by omega)) <| WOL.mv rfl <| WOL.skp (b:=true) rfl rfl <| WOL.skp (b:=true) rfl rfl <| WOL.skp (b:=true) rfl rfl <| WOL.skp (b:=true) rfl rfl <| WOL.gu rfl rfl <| WOL.gu rfl rfl <| WOL.gu rfl rfl <| WOL.gu rfl rfl <| WOL.skp (b:=true) rfl rfl <| WOL.skp (b:=true) rfl rfl <| WOL.gu rfl rfl <| WOL.gu rfl rfl <| WOL.gu rfl rfl <| WOL.gu rfl rfl <| WOL.gu rfl rfl <| WOL.gu rfl rfl <| WOL.gu rfl rfl <| WOL.skp (b:=true) rfl rfl <| WOL.pkt rfl rfl <| WOL.nil fun a k => ⟨rfl,k.sub ⟨rfl,rfl,rfl,rfl,rfl,rfl,rfl,rfl,rfl,rfl,rfl,rfl,rfl,trivial⟩⟩
      · obtain ⟨i,rfl⟩:∃ i,j = p + q + i:=⟨j - (p + q),by omega⟩
        have ei:((p + q + i:Nat):Int) - (p:Int) - (q:Int) = ((i:Nat):Int):=by omega
        rw [knH_step hq,ei]
        refine WOL.mv rfl <| WOL.mv rfl <| WOL.mv rfl <| WOL.bf rfl rfl rfl (decide_eq_false (show ¬ ((i:Nat):Int) < 0 by omega)) <| WOL.mv rfl <| WOL.now (b:=false) rfl rfl <| WOL.mv rfl <| WOL.now (b:=false) rfl rfl <| WOL.mv rfl <| WOL.now (b:=false) rfl rfl ?_
        by_cases c2:i = kx
        · rw [show (i != kx) = false by rw [c2];exact bne_self_eq_false _]
          exact WOL.bf rfl rfl rfl (bne_eq_false_iff_eq.2 (by omega)) <| WOL.now (b:=false) rfl rfl <| WOL.mv rfl <| WOL.skp (b:=false) rfl rfl <| WOL.skp (b:=false) rfl rfl <| WOL.skp (b:=false) rfl rfl <| WOL.skp (b:=false) rfl rfl <| WOL.now (b:=false) rfl rfl <| WOL.pkf rfl rfl <| WOL.now (b:=false) rfl rfl <| WOL.mv rfl <| WOL.skp (b:=false) rfl rfl <| WOL.skp (b:=false) rfl rfl <| WOL.skp (b:=false) rfl rfl <| WOL.skp (b:=false) rfl rfl <| WOL.skp (b:=false) rfl rfl <| WOL.skp (b:=false) rfl rfl <| WOL.skp (b:=false) rfl rfl <| WOL.now (b:=false) rfl rfl <| WOL.pkf rfl rfl <| WOL.pkf rfl rfl <| WOL.nil fun a k => ⟨rfl,k.sub ⟨rfl,rfl,rfl,rfl,rfl,rfl,rfl,rfl,rfl,rfl,rfl,rfl,rfl,trivial⟩⟩
        · have kg1:=kg i (by omega)
          have kg2:=kg (i + p) (by omega)
          rw [decide_eq_true (by omega:i < p + q + i)] at kg1
          rw [decide_eq_true (by omega:i + p < p + q + i)] at kg2
          rw [show (i != kx) = true from bne_iff_ne.2 c2]
          generalize knH p q kx i = ka at *
          generalize knH p q kx (i + p) = kb at *
          refine WOL.bt rfl rfl rfl (bne_iff_ne.2 (show ((i:Nat):Int) ≠ ((kx:Nat):Int) by omega)) <| WOL.now (b:=false) rfl rfl <| WOL.mv rfl <| WOL.now (b:=true) rfl rfl <| WOL.mv rfl <| WOL.now (b:=true) rfl rfl <| WOL.mv rfl <| WOL.now (b:=true) rfl rfl <| WOL.ix rfl rfl (indexAddr_tp u145 tp4 (show i < L.length by omega)) <| WOL.now (b:=true) rfl rfl <| WOL.ld rfl (load_one tp4 Ag kg1) <| WOL.now (b:=false) rfl rfl <| WOL.pkt rfl rfl <| WOL.now (b:=false) rfl rfl <| WOL.mv rfl ?_
          cases ka with
          | false =>
            exact WOL.skp (b:=false) rfl rfl <| WOL.skp (b:=false) rfl rfl <| WOL.skp (b:=false) rfl rfl <| WOL.skp (b:=false) rfl rfl <| WOL.skp (b:=false) rfl rfl <| WOL.skp (b:=false) rfl rfl <| WOL.skp (b:=false) rfl rfl <| WOL.now (b:=false) rfl rfl <| WOL.pkf rfl rfl <| WOL.pkf rfl rfl <| WOL.nil fun a k => ⟨rfl,k.sub ⟨rfl,rfl,rfl,rfl,rfl,rfl,rfl,rfl,rfl,rfl,rfl,rfl,rfl,trivial⟩⟩
          | true =>
            refine WOL.now (b:=true) rfl rfl <| WOL.mv rfl <| WOL.now (b:=true) rfl rfl <| WOL.mv rfl <| WOL.now (b:=true) rfl rfl <| WOL.fa rfl (fa_of fo1112_0) <| WOL.now (b:=true) rfl rfl <| WOL.ld rfl (load_one tp3 B3 rfl) <| WOL.now (b:=true) rfl rfl <| WOL.add (m:=(i:Int)) (n:=(p:Int)) rfl rfl (by omega) (by omega) ?_
            rw [show ((i:Nat):Int) + (p:Int) = ((i + p:Nat):Int) by omega]
            exact WOL.now (b:=true) rfl rfl <| WOL.ix rfl rfl (indexAddr_tp u145 tp4 (show i + p < L.length by omega)) <| WOL.now (b:=true) rfl rfl <| WOL.ld rfl (load_one tp4 Ag kg2) <| WOL.now (b:=false) rfl rfl <| WOL.pkt rfl rfl <| WOL.pkf rfl rfl <| WOL.nil fun a k => ⟨rfl,k.sub ⟨rfl,rfl,rfl,rfl,rfl,rfl,rfl,rfl,rfl,rfl,rfl,rfl,rfl,trivial⟩⟩
    refine WOL.ix rfl rfl (indexAddr_tp u145 tp4 hj) <| WOL.sto (vs:=encB (knH p q kx j)) rfl rfl tp4 Ag rfl rfl (by rw [eB.cat_len,knF_len];omega) rfl (f.hx (X0.trans X)) (by omega) fun i2 P2 => WOL.nil <| keep [(3,_),(4,_),(5,_),(7,_),(15,_),(16,_),(18,_),(19,_),(175,_),(176,_)] ⟨rfl,rfl,rfl,rfl,rfl,rfl,rfl,rfl,rfl,rfl,trivial⟩ ?_
    have B:=P2.at_
    rw [Nat.zero_add,eB.set (by rw [knF_len];exact hj),knF_set hj] at B
    have X2:HX h i2:=P2.hx _ X (by omega)
    have n2:=P2.next
    have D16:=A16.hx X2
    have D4:=A4.hx X2
    have r2:=r.hx X2
    have o2:=o16.hx X2
    have kn1:(cat encB (knF (knH p q kx) L.length (j + 1)))[0 + j * 1]? = some (.bool (knH p q kx j)):=by
      rw [Nat.zero_add]
      have e:=eB.get (knF_get (kn:=knH p q kx) (j:=j + 1) hj) (q:=0) (by decide)
      rw [decide_eq_true (by omega:j < j + 1)] at e
      exact e
    have lB:=B.lt
    have Y2:=X0.trans X2
    have kd:=darkK_known (L:=L) (p:=p) (q:=q) (k:=kx) hj
    have kv:=darkK_val (L:=L) (p:=p) (q:=q) (k:=kx) hj
    -- it is what the heights tell
    refine WL.sr <| WOL.ld rfl (load_row tp1117 D16 rfl (Nat.le_of_ble_eq_true rfl)) <| WOL.mv rfl <| WOL.mv rfl <| WOL.mv rfl <| WOL.ix rfl rfl (indexAddr_tp u145 tp4 hj) <| WOL.ld rfl (load_one tp4 B kn1) ?_
    refine WOL.lq1 [h.next] rfl rfl rfl fun ml hM => ((k1150 (h:=TH.withLock _ ml) H ((f.on Y2).held hM (fun b hb => by simp at hb;omega))).mono ?_)
    rintro v i3 ⟨rfl,I3⟩
    replace I3:=I3.relock
    generalize i3.withLock i2.lock = i3 at *
    have X3:=X2.trans I3
    refine WOL.lq2 [h.next] rfl rfl rfl rfl fun ml hM => ((k1154 (h:=TH.withLock _ ml) H (((o2.hx I3).s.sl eS).relock ml) (by omega)).mono ?_)
    rintro v i4 ⟨rfl,I4⟩
    replace I4:=I4.relock
    generalize i4.withLock i3.lock = i4 at *
    have X34:=I3.trans I4
    have E:=B.hx X34
    have xn:=X34.next
    rw [kd]
    generalize knH p q kx j = kk at *
    refine WOL.neb u4 rfl rfl ?_
    rw [show (kk != kk) = false by cases kk <;> rfl]
    refine WOL.mv rfl <| WOL.now (b:=false) rfl rfl <| WOL.mv rfl <| WOL.now (b:=false) rfl rfl <| WOL.mv rfl <| WOL.now (b:=false) rfl rfl <| WOL.ix rfl rfl (indexAddr_tp u145 tp4 hj) <| WOL.now (b:=false) rfl rfl <| WOL.ld rfl (load_one tp4 E kn1) <| WOL.now (b:=false) rfl rfl <| WOL.mv rfl ?_
    have X4:=X2.trans X34
    cases kk with
    | false =>
      exact WOL.skp (b:=false) rfl rfl <| WOL.skp (b:=false) rfl rfl <| WOL.skp (b:=false) rfl rfl <| WOL.skp (b:=false) rfl rfl <| WOL.skp (b:=false) rfl rfl <| WOL.skp (b:=false) rfl rfl <| WOL.skp (b:=false) rfl rfl <| WOL.skp (b:=false) rfl rfl <| WOL.skp (b:=false) rfl rfl <| WOL.skp (b:=false) rfl rfl <| WOL.skp (b:=false) rfl rfl <| WOL.now (b:=false) rfl rfl <| WOL.pkf rfl rfl <| WOL.pkf rfl rfl <| WOL.nil <| WL.no rfl <| WL.skip fun y k => ⟨(),⟨X4,by omega,E⟩,k.sub ⟨rfl,rfl,rfl,rfl,rfl,rfl,rfl,rfl,rfl,trivial⟩⟩
    | true =>
      have ya:(valC (darkK L p q kx L.length))[j]? = some (L.getD j 0):=by
        rw [← kv rfl,List.getD_eq_getElem?_getD,List.getElem?_eq_getElem (by rw [valC_len,darkK_len];exact hj)];rfl
      have yb:L[j]? = some (L.getD j 0):=by rw [List.getD_eq_getElem?_getD,List.getElem?_eq_getElem hj];rfl
      have s1:=SlL.own eI (o2.hx X34).v (m:=L.length) (by rw [valC_len,darkK_len])
      obtain ⟨_,_,ca,fa,wa,ela,g1a,g2a,g3a,g4a,g5a⟩:=s1.at eI u29 tp3 ya .i64
      have gxa:=g5a 0 (by decide)
      rw [Nat.add_zero] at gxa
      obtain ⟨_,_,cb,fb,wb,elb,g1b,g2b,g3b,g4b,g5b⟩:=(r2.hx X34).l.at eI u29 tp3 yb .i64
      have gxb:=g5b 0 (by decide)
      rw [Nat.add_zero] at gxb
      exact WOL.now (b:=true) rfl rfl <| WOL.fa rfl (fa_of fo1117_1) <| WOL.now (b:=true) rfl rfl <| WOL.ld rfl (load_one tp29 (D16.hx X34) rfl) <| WOL.now (b:=true) rfl rfl <| WOL.mv rfl <| WOL.now (b:=true) rfl rfl <| WOL.ix rfl rfl g1a <| WOL.now (b:=true) rfl rfl <| WOL.ld rfl (load_one tp3 g2a gxa) <| WOL.now (b:=true) rfl rfl <| WOL.fa rfl (fa_of fo1114_1) <| WOL.now (b:=true) rfl rfl <| WOL.ld rfl (load_one tp29 (D4.hx X34) rfl) <| WOL.now (b:=true) rfl rfl <| WOL.mv rfl <| WOL.now (b:=true) rfl rfl <| WOL.ix rfl rfl g1b <| WOL.now (b:=true) rfl rfl <| WOL.ld rfl (load_one tp3 g2b gxb) <| WOL.now (b:=true) rfl rfl <| WOL.bf rfl rfl rfl (bne_self_eq_false _) <| WOL.now (b:=false) rfl rfl <| WOL.pkt rfl rfl <| WOL.pkf rfl rfl <| WOL.nil <| WL.no rfl <| WL.skip fun y k => ⟨(),⟨X4,by omega,E⟩,k.sub ⟨rfl,rfl,rfl,rfl,rfl,rfl,rfl,rfl,rfl,trivial⟩⟩
  · rintro _ g ⟨X,_,_⟩
    exact kto (k1107e H K (X0.trans X) f (A3.hx X) (A4.hx X) (A5.hx X) (r.hx X) (A7.hx X) (o7.hx X) hp hp' hq hq' hy hz hw t1 hM h0M l1 lim) ⟨rfl,rfl,rfl,rfl,trivial⟩
end
end Go.Tidy
namespace Go.Tidy
open Go Go.Proofs Tab
variable {tp:TProg}
section
variable {h h0:TH} {n x y z w:Int} {p q M c3 c4 c5 c7 b7 m7 k7 m0:Nat} {v1 v2:Value} {L:List Int} {a7:Option Addr} {v9:Value}
def cd1107c:TCode:=.seq (.reg r1107_11) (.seq (.reg r1107_12) (.seq (.reg r1107_13) (.seq (.reg r1107_14) (.seq (.seq (.reg r1107_15) (.cond (.tmp 169) (.seq (.reg r1107_16) .ret) .skip)) cd1107d))))
set_option maxHeartbeats 8000000 in
set_option maxRecDepth 10000 in
theorem k1107c (H:Has tp) (K:Awk tp) (X0:HX h0 h) (f:Free0 h0.next h0) (A3:At h c3 (.cells [zi (p:Nat),zi (q:Nat)] true true 23)) (A4:At h c4 (.cells [zi n,v1,v2] true true 52)) (A5:At h c5 (.cells [.int .i8 x,.int .i8 y,.int .i8 z,.int .i8 w] true true 68)) (r:TrcH h v1 v2 L [])
  (A7:At h c7 (.cells [zi (n + (p:Nat)),slA b7 M,.slice a7 m7 k7] true true 55)) (o7:TrcO m0 h b7 (.slice a7 m7 k7) (valC (tapC L [] (vTn p q) M)) []) (s9:SlL encI 1 h v9 (L.take (p + q)))
  (hp:1 ≤ p) (hp':p ≤ 32) (hq:1 ≤ q) (hq':q ≤ 32) (hx:-128 ≤ x ∧ x ≤ 127) (hy:-128 ≤ y ∧ y ≤ 127) (hz:-128 ≤ z ∧ z ≤ 127) (hw:-128 ≤ w ∧ w ≤ 127)
  (t1:traceE n L [] = 0) (t7:traceE (n + (p:Nat)) (valC (tapC L [] (vTn p q) M)) [] = 0) (hM:M + (p + q) = L.length) (h0M:0 < M) (l1:L.length ≤ 60) (lim:∀ j,-20000 ≤ L.getD j 0 ∧ L.getD j 0 ≤ 20000) :
  ∀ a,Kn [(3,ptr c3),(4,ptr c4),(5,ptr c5),(7,ptr c7),(9,v9)] a → W Tryz.prog tp false cd1107c a h (Fin Tryz.prog [.tmp 6] fun v _ => v = .bool true):=by
 unfold cd1107c
 obtain ⟨b1,k1,e1,_⟩:=id r.l
 obtain ⟨b2,k2,e2,_⟩:=id r.s
 obtain ⟨b9,k9,e9,_⟩:=id s9
 subst e1 e2 e9
 obtain ⟨⟨n0,n1⟩,_,_,_,_,n5⟩:=trace_ok t1
 have x0:=X0.next
 have lV:(valC (tapC L [] (vTn p q) M)).length = M:=by rw [valC_len,tapC_len]
 have r7:=o7.trc
 rw [lV] at r7
 have rd:=fun kx => resJ_dark_ (L:=L) (x:=kx) hp hq (fun i => small_big (lim i)) hM M (Nat.le_refl _)
 have tk:=fun kx hk => torn_ok (k:=kx) t7 hk
 generalize hV:valC (tapC L [] (vTn p q) M) = V at *
 -- the readings,with one that isn't known
 refine WL.sr <| WOL.ld rfl (load_row tp1117 A7 rfl (Nat.le_of_ble_eq_true rfl)) <| WOL.cl1 rfl rfl ((k1150 H (f.on X0)).mono ?_)
 rintro v h1 ⟨rfl,X1⟩
 have Y1:=X0.trans X1
 have x1:=X1.next
 refine WOL.cl1 rfl rfl ((k1153w (n:=n + (p:Nat)) H ((show TrcH h _ _ V [] from r7).hx X1) (by omega) (by omega) (by simp) (f.on Y1)).mono ?_)
 rintro v h2 ⟨X2,bm,fix,d2,m2,k3,rfl,hbm,Am,sm,hgt⟩
 rw [lV]
 have Y2:=Y1.trans X2
 have x2:=X2.next
 have lm:=Am.lt
 refine WOL.al tp1114 fun h3 N3 => WOL.sto (vs:=[zi (n + (p:Nat)),slA bm M,.slice d2 m2 k3]) rfl rfl tp1114 N3.at_ rfl rfl (Nat.le_of_ble_eq_true rfl) rfl (f.hx (Y2.trans N3.hx)) (by omega) fun h4 P4 => WOL.nil <| keep [(3,_),(4,_),(5,_),(7,_),(9,_),(14,_)] ⟨rfl,rfl,rfl,rfl,rfl,rfl,trivial⟩ ?_
 have n3:=N3.next
 have p4:=P4.next
 have Z4:HX h h4:=P4.hx _ ((X1.trans X2).trans N3.hx) (by omega)
 have A14:=P4.at_
 have Am4:=P4.oth _ _ (by omega) (Am.hx N3.hx)
 have B5:=A5.hx Z4
 -- which
 obtain ⟨kx,hkx,kM⟩:∃ kx:Nat,(x + 128) % ((M:Nat):Int) = (kx:Int) ∧ kx < M:=by
  have g1:=Int.emod_nonneg (x + 128) (show ((M:Nat):Int) ≠ 0 by omega)
  have g2:=Int.emod_lt_of_pos (x + 128) (show (0:Int) < (M:Nat) by omega)
  exact ⟨((x + 128) % ((M:Nat):Int)).toNat,by omega,by omega⟩
 refine WL.sr <| WOL.ix rfl rfl ix1163_0 <| WOL.ld rfl (load_one tp91u B5 rfl) <| WOL.cvJ u91u Tryz.underlying3 rfl (IntWalk.i64_in _ (by omega)) <| WOL.add (m:=x) (n:=128) rfl rfl (by omega) (by omega) <| WOL.fa rfl (fa_of fo1114_1) <| WOL.ld rfl (load_one tp29 A14 rfl) <| WOL.len rfl (SlL.own eI Am4 lV) u29 ?_
 rw [lV]
 refine WOL.rem (m:=x + 128) (n:=((M:Nat):Int)) rfl rfl (by omega) (by omega) ?_
 rw [hkx]
 refine WOL.as rfl <| WOL.nil <| keep [(3,_),(4,_),(5,_),(7,_),(9,_),(14,_),(15,_)] ⟨rfl,rfl,rfl,rfl,rfl,rfl,rfl,trivial⟩ ?_
 refine WL.sr <| WOL.fa rfl (fa_of fo1114_1) <| WOL.ld rfl (load_one tp29 A14 rfl) <| WOL.mv rfl <| WOL.mv rfl <| WOL.mv rfl <| WOL.add (m:=((kx:Nat):Int)) (n:=1) rfl rfl (by omega) (by omega) <| WOL.bd rfl bd48 <| WOL.bs2 rfl u44 tp48 fun h5 N5 => ?_
 have n5':=N5.next
 have W4:=X0.trans Z4
 have W5:=W4.trans N5.hx
 refine WOL.ix rfl rfl (indexAddr_tp u29 tp3 (show kx < M by omega)) <| WOL.sto (vs:=encI 0) rfl rfl tp3 (Am4.hx N5.hx) rfl rfl (by rw [eI.cat_len];omega) rfl (f.hx W5) (by omega) fun h6 P6 => ?_
 have p6:=P6.next
 have Am6:=P6.at_
 rw [Nat.zero_add,eI.set (by omega)] at Am6
 have A14':=P6.oth _ _ (by omega) (A14.hx N5.hx)
 have AS6:=P6.oth _ _ (by omega) N5.at_
 have Z6:HX h h6:=P6.hx _ (Z4.trans N5.hx) (by omega)
 refine WOL.fa rfl (fa_of fo1114_2) <| WOL.sto (vs:=[.slice (some ⟨h4.next,0,none⟩) 1 1]) rfl rfl tp44 A14' rfl rfl (Nat.le_of_ble_eq_true rfl) rfl (f.hx (X0.trans Z6)) (by omega) fun h7 P7 => WOL.nil <| keep [(3,_),(4,_),(5,_),(7,_),(9,_),(14,_),(15,_)] ⟨rfl,rfl,rfl,rfl,rfl,rfl,rfl,trivial⟩ ?_
 have p7:=P7.next
 have Z7:HX h h7:=P7.hx _ Z6 (by omega)
 have B14:At h7 h2.next (.cells [zi (n + (p:Nat)),slA bm M,.slice (some ⟨h4.next,0,none⟩) 1 1] true true 52):=P7.at_
 have Am7:=P7.oth _ _ (by omega) Am6
 have AS7:=P7.oth _ _ (by omega) AS6
 have rT:TrcH h7 (slA bm M) (.slice (some ⟨h4.next,0,none⟩) 1 1) (V.set kx 0) [((kx:Int),(kx:Int) + 1)]:=⟨SlL.own eI Am7 (by rw [List.length_set];exact lV),SlL.own eS AS7 rfl,fun b off m cap e => by cases e;exact ⟨_,_,_,_,Am7,.inr rfl⟩⟩
 clear Am Am4 Am6 Am7 AS6 AS7 A14 A14'
 replace A3:=A3.hx Z7;replace A4:=A4.hx Z7;replace A5:=A5.hx Z7;replace A7:=A7.hx Z7;replace o7:=o7.hx Z7;replace r:=r.hx Z7;replace s9:=s9.hx Z7
 have Y7:=X0.trans Z7
 have z7:=Z7.next
 have lc3:=A3.lt
 have l14:=B14.lt
 have tT:=tk kx (by omega)
 have rdk:=rd kx
 rw [show p + q + M = L.length by omega] at rdk
 -- restored
 refine WL.sr <| WOL.ld rfl (load_row tp1112 A3 rfl (Nat.le_of_ble_eq_true rfl)) <| WOL.ld rfl (load_row tp1114 B14 rfl (Nat.le_of_ble_eq_true rfl)) <| WOL.mv rfl <| WOL.al tp1117 fun j1 J1 => ?_
 have s1:=J1.next
 have U1:=Y7.trans J1.hx
 refine WOL.lq1 [h7.next,c3] rfl rfl rfl fun ml hl => ((k1115 (n:=n + (p:Nat)) H ((rT.hx J1.hx).relock ml) (by rw [List.length_set];omega) (by simp) ((f.on U1).held hl (fun b hb => by simp at hb;omega))).mono ?_)
 rintro v j2 ⟨J2,u1,u2,rfl,ru,_,_⟩
 replace J2:=J2.relock
 replace ru:=ru.relock j1.lock
 generalize j2.withLock j1.lock = j2 at *
 have s2:=J2.next
 have U2:=U1.trans J2
 refine WOL.lk1 rfl rfl fun ml => ((k1136 H (((s9.hx J1.hx).hx J2).relock ml) (by rw [List.length_take];omega)).mono ?_)
 rintro v j3 ⟨J3,bz,mz,kz,rfl,sz,_⟩
 replace J3:=J3.relock
 replace sz:=sz.relock j2.lock
 generalize j3.withLock j2.lock = j3 at *
 have s3:=J3.next
 have U3:=U2.trans J3
 refine WOL.lq3 [h7.next] rfl rfl rfl rfl rfl fun ml hl => ((k1135 (n:=n + (p:Nat)) (a:=(p:Int)) (b:=(q:Int)) H ((ru.hx J3).relock ml) (sz.relock ml) (by rw [List.length_set];omega) (by simp) (by rw [List.length_take];omega) ((f.on U3).held hl (fun b hb => by simp at hb;omega))).mono ?_)
 rintro v j4 ⟨J4,R⟩
 replace J4:=J4.relock
 rw [res_tot hp hp' hq hq' tT (endE_take (by omega) lim) (by rw [List.length_set];omega) (by omega) (by rw [List.length_set];omega),Int.toNat_natCast,Int.toNat_natCast,List.length_set,lV,rdk,show n + ((p:Nat):Int) - (p:Int) = n by omega] at R
 obtain ⟨bx,b8,m8,k8,rfl,hxb,to⟩:=R.ok rfl (darkK_big lim)
 clear R
 replace to:TrcO j3.next (j4.withLock j3.lock) bx _ _ _:=to.relock j3.lock
 replace hxb:j3.next ≤ bx:=hxb
 generalize j4.withLock j3.lock = j4 at *
 have s4:=J4.next
 have U4:=U3.trans J4
 have T4:=((J1.hx.trans J2).trans J3).trans J4
 have B16:=((J1.at_.hx J2).hx J3).hx J4
 refine WOL.mv rfl <| WOL.ex rfl rfl <| WOL.ex rfl rfl <| WOL.sto (vs:=[zi n,slA bx _,.slice b8 m8 k8]) rfl rfl tp1117 B16 rfl rfl (Nat.le_of_ble_eq_true rfl) rfl (f.hx U4) (by omega) fun j5 P5 => WOL.as rfl <| WOL.nil <| keep [(3,_),(4,_),(5,_),(7,_),(15,_),(16,_),(17,_)] ⟨rfl,rfl,rfl,rfl,rfl,rfl,rfl,trivial⟩ ?_
 have s5:=P5.next
 have T5:HX h7 j5:=P5.hx _ T4 (by omega)
 have U5:=Y7.trans T5
 replace B16:=P5.at_
 have o16:=to.put P5 (by omega) (by omega)
 clear to
 replace A3:=A3.hx T5;replace A4:=A4.hx T5;replace A5:=A5.hx T5;replace A7:=A7.hx T5;replace o7:=o7.hx T5;replace r:=r.hx T5
 have r16:=o16.trcC
 have lD:(darkK L p q kx L.length).length = L.length:=darkK_len
 have tD:=traceE_made (n:=n) (C:=darkK L p q kx L.length) (darkK_big lim) (by omega) (by rw [lD];omega) (by rw [lD];omega)
 -- no error
 refine WL.seq <| WL.sr <| WOL.mv rfl <| WOL.bf rfl rfl rfl rfl <| WOL.mv rfl <| WOL.now (b:=false) rfl rfl <| WOL.ld rfl (load_row tp1117 B16 rfl (Nat.le_of_ble_eq_true rfl)) <| WOL.now (b:=false) rfl rfl <| WOL.cl1 rfl rfl ((k1150 H (f.on U5)).mono ?_)
 rintro v j6 ⟨rfl,J6⟩
 have U6:=U5.trans J6
 refine WOL.now (b:=false) rfl rfl <| WOL.cl1 rfl rfl ((k1117w (n:=n) H (r16.hx J6) (f.on U6)).mono ?_)
 rintro v j7 ⟨rfl,J7⟩
 have J67:=J6.trans J7
 have rr:=r.hx J67
 have r17:=r16.hx J67
 refine WOL.now (b:=false) rfl rfl <| WOL.bf rfl rfl rfl (bne_eq_false_iff_eq.2 tD) <| WOL.pkf rfl rfl <| WOL.mv rfl <| WOL.now (b:=false) rfl rfl <| WOL.fa rfl (fa_of fo1117_1) <| WOL.now (b:=false) rfl rfl <| WOL.ld rfl (load_one tp29 (B16.hx J67) rfl) <| WOL.now (b:=false) rfl rfl <| WOL.len rfl r17.l u29 <| WOL.now (b:=false) rfl rfl <| WOL.fa rfl (fa_of fo1114_1) <| WOL.now (b:=false) rfl rfl <| WOL.ld rfl (load_one tp29 (A4.hx J67) rfl) <| WOL.now (b:=false) rfl rfl <| WOL.len rfl rr.l u29 <| WOL.now (b:=false) rfl rfl <| WOL.bf rfl rfl rfl (bne_eq_false_iff_eq.2 (by rw [valC_len,lD])) <| WOL.pkf rfl rfl <| WOL.mv rfl <| WOL.now (b:=false) rfl rfl <| WOL.fa rfl (fa_of fo1117_0) <| WOL.now (b:=false) rfl rfl <| WOL.ld rfl (load_one tp3 (B16.hx J67) rfl) <| WOL.now (b:=false) rfl rfl <| WOL.fa rfl (fa_of fo1114_0) <| WOL.now (b:=false) rfl rfl <| WOL.ld rfl (load_one tp3 (A4.hx J67) rfl) <| WOL.now (b:=false) rfl rfl <| WOL.bf rfl rfl rfl (bne_self_eq_false _) <| WOL.pkf rfl rfl <| WOL.nil <| WL.no rfl <| WL.skip ?_
 rw [lD] at B16
 subst hV
 exact kto (k1107d H K (U5.trans J67) f (A3.hx J67) (A4.hx J67) (A5.hx J67) rr (A7.hx J67) (o7.hx J67) (B16.hx J67) (o16.hx J67) hp hp' hq hq' hy hz hw t1 hM h0M l1 lim) ⟨rfl,rfl,rfl,rfl,rfl,rfl,trivial⟩
end
end Go.Tidy
namespace Go.Tidy
open Go Go.Proofs Tab
variable {tp:TProg}
section
variable {h h0:TH} {n x y z w a b:Int} {p q c3 c4 c5:Nat} {v1 v2:Value} {L:List Int} {S:List (Int × Int)}
def cd1107a:TCode:=.seq (.reg r1107_6) (.seq (.reg r1107_7) (.seq (.reg r1107_8) (.seq (.seq (.reg r1107_9) (.cond (.tmp 115) (.seq (.reg r1107_10) .ret) .skip)) cd1107c)))
set_option maxHeartbeats 8000000 in
set_option maxRecDepth 10000 in
theorem k1107b (H:Has tp) (K:Awk tp) (X0:HX h0 h) (f:Free0 h0.next h0) (A3:At h c3 (.cells [zi (p:Nat),zi (q:Nat)] true true 23)) (A4:At h c4 (.cells [zi n,v1,v2] true true 52)) (A5:At h c5 (.cells [.int .i8 x,.int .i8 y,.int .i8 z,.int .i8 w] true true 68)) (r:TrcH h v1 v2 L []) (iI:IsInts h v1 L)
  (hp:1 ≤ p) (hp':p ≤ 32) (hq:1 ≤ q) (hq':q ≤ 32) (hx:-128 ≤ x ∧ x ≤ 127) (hy:-128 ≤ y ∧ y ≤ 127) (hz:-128 ≤ z ∧ z ≤ 127) (hw:-128 ≤ w ∧ w ≤ 127)
  (t1:traceE n L [] = 0) (lpq:p + q < L.length) (l1:L.length ≤ 60) (lim:∀ j,-20000 ≤ L.getD j 0 ∧ L.getD j 0 ≤ 20000) :
  ∀ a,Kn [(3,ptr c3),(4,ptr c4),(5,ptr c5)] a → W Tryz.prog tp false (.seq (.reg r1107_3) (.seq (.seq (.reg r1107_4) (.cond (.tmp 72) (.seq (.reg r1107_5) .ret) .skip)) cd1107a)) a h (Fin Tryz.prog [.tmp 6] fun v _ => v = .bool true):=by
 obtain ⟨b1,k1,e1,hk1,_,hh⟩:=id r.l
 obtain ⟨b2,k2,e2,_⟩:=id r.s
 subst e1 e2
 have x0:=X0.next
 have lc3:=A3.lt
 have lc4:=A4.lt
 obtain ⟨⟨n0,n1⟩,_,_,_,_,n5⟩:=trace_ok t1
 obtain ⟨M,hM⟩:∃ M,M + (p + q) = L.length:=⟨L.length - (p + q),by omega⟩
 have bC:=taps_small (L:=L) (S:=[]) (M:=M) (B:=20000) (T:=vTn p q) (by decide) (fun i => by have:=lim i;omega) (vTn_w hp' hq') (by show 3 ≤ 65;decide)
 have lC:(tapC L [] (vTn p q) M).length = M:=tapC_len
 have vh:=vers_holes (L:=L) (p:=p) (q:=q) (M:=M)
 have lV:(valC (tapC L [] (vTn p q) M)).length = M:=by rw [valC_len,lC]
 have t7:=traceE_made (n:=n + (p:Nat)) (C:=tapC L [] (vTn p q) M) bC (by omega) (by rw [lC];omega) (by rw [lC];omega)
 rw [vh] at t7
 -- the versines
 refine WL.sr <| WOL.ld rfl (load_row tp1112 A3 rfl (Nat.le_of_ble_eq_true rfl)) <| WOL.ld rfl (load_row tp1114 A4 rfl (Nat.le_of_ble_eq_true rfl)) <| WOL.al tp1117 fun i1 I1 => ?_
 have q1:=I1.next
 have Y1:=X0.trans I1.hx
 refine WOL.lq1 [h.next,c3] rfl rfl rfl fun ml hl => ((k1115 (n:=n) H ((r.hx I1.hx).relock ml) (by omega) (by simp) ((f.on Y1).held hl (fun b hb => by simp at hb;omega))).mono ?_)
 rintro v i2 ⟨I2,u1,u2,rfl,ru,_,_⟩
 replace I2:=I2.relock
 replace ru:=ru.relock i1.lock
 generalize i2.withLock i1.lock = i2 at *
 have q2:=I2.next
 have Y2:=Y1.trans I2
 refine WOL.lq2 [h.next] rfl rfl rfl rfl fun ml hl => ((k1125 (n:=n) (a:=(p:Int)) (b:=(q:Int)) H (ru.relock ml) (by omega) (by simp) ((f.on Y2).held hl (fun b hb => by simp at hb;omega))).mono ?_)
 rintro v i3 ⟨I3,R⟩
 replace I3:=I3.relock
 rw [Int.toNat_natCast,Int.toNat_natCast,show L.length - (p + q) = M by omega] at R
 obtain ⟨b7,a7,m7,k7,rfl,hb7,to⟩:=R.ok (errV_in (by rw [chordE_in (by omega) (by omega) (by omega) (by omega),t1];rfl) (by omega)) bC
 clear R
 rw [vh] at to
 replace to:TrcO i2.next (i3.withLock i2.lock) b7 _ _ _:=to.relock i2.lock
 replace hb7:i2.next ≤ b7:=hb7
 generalize i3.withLock i2.lock = i3 at *
 rw [lC]
 have q3:=I3.next
 have Y3:=Y2.trans I3
 have T3:=(I1.hx.trans I2).trans I3
 have B7:=(I1.at_.hx I2).hx I3
 refine WOL.mv rfl <| WOL.ex rfl rfl <| WOL.ex rfl rfl <| WOL.sto (vs:=[zi (n + (p:Nat)),slA b7 M,.slice a7 m7 k7]) rfl rfl tp1117 B7 rfl rfl (Nat.le_of_ble_eq_true rfl) rfl (f.hx Y3) (by omega) fun i4 P4 => WOL.as rfl <| WOL.nil <| keep [(3,_),(4,_),(5,_),(7,_),(8,_)] ⟨rfl,rfl,rfl,rfl,rfl,trivial⟩ ?_
 have q4:=P4.next
 have T4:HX h i4:=P4.hx _ T3 (by omega)
 have Y4:=X0.trans T4
 replace B7:=P4.at_
 have o7:=to.put P4 (by omega) (by omega)
 clear to
 replace A3:=A3.hx T4;replace A4:=A4.hx T4;replace A5:=A5.hx T4;replace r:=r.hx T4;replace iI:=iI.hx T4
 have r7:=o7.trc
 rw [lV] at r7
 -- in order
 refine WL.seq <| WL.sr <| WOL.mv rfl <| WOL.bf rfl rfl rfl rfl <| WOL.mv rfl <| WOL.now (b:=false) rfl rfl <| WOL.ld rfl (load_row tp1117 B7 rfl (Nat.le_of_ble_eq_true rfl)) <| WOL.now (b:=false) rfl rfl <| WOL.cl1 rfl rfl ((k1150 H (f.on Y4)).mono ?_)
 rintro v i5 ⟨rfl,I5⟩
 have Y5:=Y4.trans I5
 refine WOL.now (b:=false) rfl rfl <| WOL.cl1 rfl rfl ((k1117w (n:=n + (p:Nat)) H (r7.hx I5) (f.on Y5)).mono ?_)
 rintro v i6 ⟨rfl,I6⟩
 have J:=I5.trans I6
 have Y6:=Y4.trans J
 replace A3:=A3.hx J;replace A4:=A4.hx J;replace A5:=A5.hx J;replace r:=r.hx J;replace iI:=iI.hx J;replace B7:=B7.hx J;replace o7:=o7.hx J;replace r7:=r7.hx J
 have m70:m7 = 0:=by
  obtain ⟨_,_,e,_,hl,_⟩:=r7.s
  cases e
  rfl
 subst m70
 refine WOL.now (b:=false) rfl rfl <| WOL.bf rfl rfl rfl (bne_eq_false_iff_eq.2 t7) <| WOL.pkf rfl rfl <| WOL.mv rfl <| WOL.now (b:=false) rfl rfl <| WOL.fa rfl (fa_of fo1117_1) <| WOL.now (b:=false) rfl rfl <| WOL.ld rfl (load_one tp29 B7 rfl) <| WOL.now (b:=false) rfl rfl <| WOL.len rfl r7.l u29 ?_
 rw [lV]
 refine WOL.now (b:=false) rfl rfl <| WOL.fa rfl (fa_of fo1114_1) <| WOL.now (b:=false) rfl rfl <| WOL.ld rfl (load_one tp29 A4 rfl) <| WOL.now (b:=false) rfl rfl <| WOL.len rfl r.l u29 <| WOL.now (b:=false) rfl rfl <| WOL.fa rfl (fa_of fo1112_0) <| WOL.now (b:=false) rfl rfl <| WOL.ld rfl (load_one tp3 A3 rfl) <| WOL.now (b:=false) rfl rfl <| WOL.sub (m:=(L.length:Int)) (n:=(p:Int)) rfl rfl (by omega) (by omega) <| WOL.now (b:=false) rfl rfl <| WOL.fa rfl (fa_of fo1112_1) <| WOL.now (b:=false) rfl rfl <| WOL.ld rfl (load_one tp3 A3 rfl) <| WOL.now (b:=false) rfl rfl <| WOL.sub (m:=(L.length:Int) - (p:Int)) (n:=(q:Int)) rfl rfl (by omega) (by omega) <| WOL.now (b:=false) rfl rfl <| WOL.bf rfl rfl rfl (bne_eq_false_iff_eq.2 (by omega)) <| WOL.pkf rfl rfl <| WOL.mv rfl <| WOL.now (b:=false) rfl rfl <| WOL.fa rfl (fa_of fo1117_2) <| WOL.now (b:=false) rfl rfl <| WOL.ld rfl (load_one tp44 B7 rfl) <| WOL.now (b:=false) rfl rfl <| WOL.len rfl r7.s u44 <| WOL.now (b:=false) rfl rfl <| WOL.bf rfl rfl rfl rfl <| WOL.pkf rfl rfl <| WOL.nil <| WL.no rfl <| WL.skip <| keep [(3,_),(4,_),(5,_),(7,_)] ⟨rfl,rfl,rfl,rfl,trivial⟩ ?_
 unfold cd1107a
 -- the first values
 rcases hh with ⟨rfl,hm0⟩ | ⟨b',off,cc',fix',wr',el',rfl,AA,_,_⟩
 ·omega
 obtain ⟨cc2,fix2,wr2,el2,A2,hf2⟩:=r.g b' off _ k1 rfl
 have s9:SlL encI 1 i6 (.slice (some ⟨b',off,none⟩) (p + q) k1) (L.take (p + q)):=by
  have s:=SlL.part eI r.l (lo:=0) (hi:=p + q) (by omega) (by omega)
  rw [List.drop_zero,Nat.zero_mul,Nat.add_zero,Nat.sub_zero,Nat.sub_zero] at s
  exact s
 refine WL.sr <| WOL.fa rfl (fa_of fo1114_1) <| WOL.ld rfl (load_one tp29 A4 rfl) <| WOL.fa rfl (fa_of fo1112_0) <| WOL.ld rfl (load_one tp3 A3 rfl) <| WOL.fa rfl (fa_of fo1112_1) <| WOL.ld rfl (load_one tp3 A3 rfl) <| WOL.add (m:=(p:Int)) (n:=(q:Int)) rfl rfl (by omega) (by omega) ?_
 rw [show (p:Int) + (q:Int) = ((p + q:Nat):Int) by omega]
 refine WOL.sl2 rfl rfl (sliceT_to (k:=.i64) u29 tp3 hk1 (by omega) A2 hf2) <| WOL.as rfl <| WOL.nil <| keep [(3,_),(4,_),(5,_),(7,_),(9,_)] ⟨rfl,rfl,rfl,rfl,rfl,trivial⟩ ?_
 -- restored
 have lc3':=A3.lt
 have lc4':=A4.lt
 have lc7':=B7.lt
 refine WL.sr <| WOL.ld rfl (load_row tp1112 A3 rfl (Nat.le_of_ble_eq_true rfl)) <| WOL.ld rfl (load_row tp1117 B7 rfl (Nat.le_of_ble_eq_true rfl)) <| WOL.mv rfl <| WOL.al tp1117 fun j1 J1 => ?_
 have s1:=J1.next
 have U1:=Y6.trans J1.hx
 refine WOL.lq1 [i6.next,c3] rfl rfl rfl fun ml hl => ((k1150 (h:=TH.withLock _ ml) H ((f.on U1).held hl (fun b hb => by simp at hb;omega))).mono ?_)
 rintro v j2 ⟨rfl,J2⟩
 replace J2:=J2.relock
 generalize j2.withLock j1.lock = j2 at *
 have s2:=J2.next
 have U2:=U1.trans J2
 refine WOL.lq1 [i6.next,c3] rfl rfl rfl fun ml hl => ((k1115 (n:=n + (p:Nat)) H (((r7.hx J1.hx).hx J2).relock ml) (by omega) (by simp) ((f.on U2).held hl (fun b hb => by simp at hb;omega))).mono ?_)
 rintro v j3 ⟨J3,u3,u4,rfl,ru3,_,_⟩
 replace J3:=J3.relock
 replace ru3:=ru3.relock j2.lock
 generalize j3.withLock j2.lock = j3 at *
 have s3:=J3.next
 have U3:=U2.trans J3
 refine WOL.lk1 rfl rfl fun ml => ((k1136 H ((((s9.hx J1.hx).hx J2).hx J3).relock ml) (by rw [List.length_take];omega)).mono ?_)
 rintro v j4 ⟨J4,bz,mz,kz,rfl,sz,_⟩
 replace J4:=J4.relock
 replace sz:=sz.relock j3.lock
 generalize j4.withLock j3.lock = j4 at *
 have s4:=J4.next
 have U4:=U3.trans J4
 refine WOL.lq3 [i6.next] rfl rfl rfl rfl rfl fun ml hl => ((k1135 (n:=n + (p:Nat)) (a:=(p:Int)) (b:=(q:Int)) H ((ru3.hx J4).relock ml) (sz.relock ml) (by omega) (by simp) (by rw [List.length_take];omega) ((f.on U4).held hl (fun b hb => by simp at hb;omega))).mono ?_)
 rintro v j5 ⟨J5,R⟩
 replace J5:=J5.relock
 have rv:=resJ_vers (L:=L) hp hq (fun i => small_big (lim i)) hM M (Nat.le_refl _)
 rw [show p + q + M = L.length by omega] at rv
 rw [res_tot hp hp' hq hq' t7 (endE_take (by omega) lim) (by omega) (by omega) (by omega),Int.toNat_natCast,Int.toNat_natCast,lV,rv,show n + ((p:Nat):Int) - (p:Int) = n by omega] at R
 obtain ⟨bx,b8,m8,k8,rfl,hxb,to⟩:=R.ok rfl (allK_big lim)
 clear R
 rw [allK_val,allK_holes] at to
 rw [allK_len (Nat.le_refl _)]
 replace to:TrcO j4.next (j5.withLock j4.lock) bx _ _ _:=to.relock j4.lock
 replace hxb:j4.next ≤ bx:=hxb
 generalize j5.withLock j4.lock = j5 at *
 have s5:=J5.next
 have U5:=U4.trans J5
 have T5:=(((J1.hx.trans J2).trans J3).trans J4).trans J5
 have B10:=(((J1.at_.hx J2).hx J3).hx J4).hx J5
 refine WOL.mv rfl <| WOL.ex rfl rfl <| WOL.ex rfl rfl <| WOL.sto (vs:=[zi n,slA bx L.length,.slice b8 m8 k8]) rfl rfl tp1117 B10 rfl rfl (Nat.le_of_ble_eq_true rfl) rfl (f.hx U5) (by omega) fun j6 P6 => WOL.as rfl <| WOL.nil <| keep [(3,_),(4,_),(5,_),(7,_),(9,_),(10,_),(11,_)] ⟨rfl,rfl,rfl,rfl,rfl,rfl,rfl,trivial⟩ ?_
 have s6:=P6.next
 have T6:HX i6 j6:=P6.hx _ T5 (by omega)
 have U6:=Y6.trans T6
 replace B10:=P6.at_
 have o10:=to.put P6 (by omega) (by omega)
 clear to
 replace A3:=A3.hx T6;replace A4:=A4.hx T6;replace A5:=A5.hx T6;replace r:=r.hx T6;replace iI:=iI.hx T6;replace B7:=B7.hx T6;replace o7:=o7.hx T6;replace r7:=r7.hx T6;replace s9:=s9.hx T6
 -- measured again
 refine WL.sr <| WOL.ld rfl (load_row tp1112 A3 rfl (Nat.le_of_ble_eq_true rfl)) <| WOL.ld rfl (load_row tp1114 A4 rfl (Nat.le_of_ble_eq_true rfl)) <| WOL.ld rfl (load_row tp1117 B7 rfl (Nat.le_of_ble_eq_true rfl)) ?_
 have lc3'':=A3.lt
 have lc4'':=A4.lt
 have lc7'':=B7.lt
 refine WOL.lq1 [h.next,c3] rfl rfl rfl fun ml hl => ((k1115 (n:=n) H (r.relock ml) (by omega) (by simp) ((f.on U6).held hl (fun b hb => by simp at hb;omega))).mono ?_)
 rintro v g1 ⟨G1,u5,u6,rfl,ru5,_,_⟩
 replace G1:=G1.relock
 replace ru5:=ru5.relock j6.lock
 generalize g1.withLock j6.lock = g1 at *
 have y1:=G1.next
 have U7:=U6.trans G1
 refine WOL.lq1 [c3] rfl rfl rfl fun ml hl => ((k1150 (h:=TH.withLock _ ml) H ((f.on U7).held hl (fun b hb => by simp at hb;omega))).mono ?_)
 rintro v g2 ⟨rfl,G2⟩
 replace G2:=G2.relock
 generalize g2.withLock g1.lock = g2 at *
 have y2:=G2.next
 have U8:=U7.trans G2
 refine WOL.lq1 [c3] rfl rfl rfl fun ml hl => ((k1115 (n:=n + (p:Nat)) H (((r7.hx G1).hx G2).relock ml) (by omega) (by simp) ((f.on U8).held hl (fun b hb => by simp at hb;omega))).mono ?_)
 rintro v g3 ⟨G3,u7,u8,rfl,ru7,_,_⟩
 replace G3:=G3.relock
 replace ru7:=ru7.relock g2.lock
 generalize g3.withLock g2.lock = g3 at *
 have y3:=G3.next
 have U9:=U8.trans G3
 refine WOL.cl3 rfl rfl rfl rfl ((k1137 (n:=n) (n':=n + (p:Nat)) (a:=(p:Int)) (b:=(q:Int)) H ((ru5.hx G2).hx G3) ru7 (by omega) (by simp) (by omega) (by simp) (f.on U9)).mono ?_)
 rintro v g4 ⟨rfl,G4⟩
 rw [agn_same hp hp' hq hq' t1 hM (by omega) bC t7]
 have V4:=((G1.trans G2).trans G3).trans G4
 have U10:=U6.trans V4
 replace A3:=A3.hx V4;replace A4:=A4.hx V4;replace A5:=A5.hx V4;replace r:=r.hx V4;replace iI:=iI.hx V4;replace B7:=B7.hx V4;replace o7:=o7.hx V4;replace s9:=s9.hx V4;replace B10:=B10.hx V4;replace o10:=o10.hx V4
 have y4:=V4.next
 refine WOL.mv rfl <| WOL.ex rfl rfl <| WOL.ex rfl rfl <| WOL.as rfl <| WOL.as rfl <| WOL.nil <| keep [(3,_),(4,_),(5,_),(7,_),(9,_),(10,_),(11,_),(12,_),(13,_)] ⟨rfl,rfl,rfl,rfl,rfl,rfl,rfl,rfl,rfl,trivial⟩ ?_
 refine WL.seq <| WL.sr <| WOL.mv rfl <| WOL.mv rfl <| WOL.add (m:=0) (n:=0) rfl rfl (by decide) (by decide) <| WOL.bf rfl rfl rfl rfl <| WOL.mv rfl <| WOL.now (b:=false) rfl rfl <| WOL.ld rfl (load_row tp1117 B10 rfl (Nat.le_of_ble_eq_true rfl)) <| WOL.now (b:=false) rfl rfl <| WOL.ld rfl (load_row tp1114 A4 rfl (Nat.le_of_ble_eq_true rfl)) <| WOL.now (b:=false) rfl rfl ?_
 refine WOL.lq1 [c4] rfl rfl rfl fun ml hl => ((k1150 (h:=TH.withLock _ ml) H ((f.on U10).held hl (fun b hb => by simp at hb;omega))).mono ?_)
 rintro v g5 ⟨rfl,G5⟩
 replace G5:=G5.relock
 generalize g5.withLock g4.lock = g5 at *
 have o10':=o10.hx G5
 refine WOL.now (b:=false) rfl rfl <| WOL.cl2 rfl rfl rfl ((k1152 (n:=n) H (o10'.ints rfl) (iI.hx G5) (o10'.s.sl eS) (r.hx G5).s (by omega) (by simp)).mono ?_)
 rintro v g6 ⟨rfl,G6⟩
 have V6:=G5.trans G6
 refine WOL.now (b:=false) rfl rfl <| WOL.nt rfl <| WOL.pkf rfl rfl <| WOL.mv rfl <| WOL.now (b:=false) rfl rfl <| WOL.mv rfl <| WOL.now (b:=false) rfl rfl <| WOL.nt rfl <| WOL.pkf rfl rfl <| WOL.nil <| WL.no rfl <| WL.skip ?_
 exact kto (k1107c H K (U10.trans V6) f (A3.hx V6) (A4.hx V6) (A5.hx V6) (r.hx V6) (B7.hx V6) (o7.hx V6) (s9.hx V6) hp hp' hq hq' hx hy hz hw t1 t7 hM (by omega) l1 lim) ⟨rfl,rfl,rfl,rfl,rfl,trivial⟩
set_option maxHeartbeats 8000000 in
set_option maxRecDepth 10000 in
theorem k1107 (H:Has tp) (K:Awk tp) (r:TrcH h v1 v2 L S) (iI:IsInts h v1 L) (hx:-128 ≤ x ∧ x ≤ 127) (hy:-128 ≤ y ∧ y ≤ 127) (hz:-128 ≤ z ∧ z ≤ 127) (hw:-128 ≤ w ∧ w ≤ 127) (f:Free0 h.next h) :
  CallW Tryz.prog tp (.func (.func 5) #[] #[]) #[.agg #[zi a,zi b],.agg #[zi n,v1,v2],.agg #[.int .i8 x,.int .i8 y,.int .i8 z,.int .i8 w]] h fun v _ => v = .bool true:=by
 obtain ⟨b1,k1,e1,_⟩:=id r.l
 obtain ⟨b2,k2,e2,_⟩:=id r.s
 subst e1 e2
 refine CallW.fnL (H.fn 5 f1107 rfl rfl) ?_
 refine WL.sr <| WOL.box rfl fun h1 N1 => WOL.box rfl fun h2 N2 => WOL.box rfl fun h3 N3 => WOL.as rfl <| WOL.nil <| keep [(3,_),(4,_),(5,_)] ⟨rfl,rfl,rfl,trivial⟩ ?_
 have A3:At h3 h.next (.cells [zi a,zi b] true true 23):=(N1.at_.hx N2.hx).hx N3.hx
 have A4:At h3 h1.next (.cells [zi n,.slice b1 L.length k1,.slice b2 S.length k2] true true 52):=N2.at_.hx N3.hx
 have A5:At h3 h2.next (.cells [.int .i8 x,.int .i8 y,.int .i8 z,.int .i8 w] true true 68):=N3.at_
 have X3:=(N1.hx.trans N2.hx).trans N3.hx
 refine WL.seq <| WL.sr <| WOL.ld rfl (load_row tp1112 A3 rfl (Nat.le_of_ble_eq_true rfl)) <| WOL.ld rfl (load_row tp1114 A4 rfl (Nat.le_of_ble_eq_true rfl)) <| WOL.cl2 rfl rfl rfl ((k1149 (n:=n) (a:=a) (b:=b) H (r.hx X3) (f.on X3)).mono ?_)
 rintro v h4 ⟨X4,ok,rfl,hok⟩
 have Y4:=X3.trans X4
 replace A3:=A3.hx X4;replace A4:=A4.hx X4;replace A5:=A5.hx X4
 cases ok with
 | false =>
  refine WOL.nt rfl <| WOL.mv rfl <| WOL.skp (b:=true) rfl rfl <| WOL.skp (b:=true) rfl rfl <| WOL.skp (b:=true) rfl rfl <| WOL.skp (b:=true) rfl rfl <| WOL.pkt rfl rfl <| WOL.nil <| WL.yes rfl <| WL.sr <| WOL.cl0 rfl ((k11t K _).mono ?_)
  rintro v g ⟨rfl,rfl⟩
  exact WOL.as rfl <| WOL.nil <| WL.ret (WL.end_ rfl rfl)
 | true =>
  obtain ⟨ce,t1,l1,hab,lim⟩:=hok rfl
  refine WOL.nt rfl <| WOL.mv rfl <| WOL.now (b:=false) rfl rfl <| WOL.fa rfl (fa_of fo1114_2) <| WOL.now (b:=false) rfl rfl <| WOL.ld rfl (load_one tp44 A4 rfl) <| WOL.now (b:=false) rfl rfl <| WOL.len rfl (r.hx Y4).s u44 <| WOL.now (b:=false) rfl rfl ?_
  by_cases c1:((S.length:Nat):Int) > 0
  ·refine WOL.bt rfl rfl rfl (decide_eq_true c1) <| WOL.pkf rfl rfl <| WOL.nil <| WL.yes rfl <| WL.sr <| WOL.cl0 rfl ((k11t K _).mono ?_)
   rintro v g ⟨rfl,rfl⟩
   exact WOL.as rfl <| WOL.nil <| WL.ret (WL.end_ rfl rfl)
  ·refine WOL.bf rfl rfl rfl (decide_eq_false c1) <| WOL.pkf rfl rfl <| WOL.nil <| WL.no rfl <| WL.skip ?_
   obtain rfl:S = []:=List.length_eq_zero_iff.1 (by omega)
   obtain ⟨p1,p2,p3,p4⟩:=chord_ok ce
   obtain ⟨p,rfl⟩:∃ p:Nat,a = p:=⟨a.toNat,by omega⟩
   obtain ⟨q,rfl⟩:∃ q:Nat,b = q:=⟨b.toNat,by omega⟩
   exact kto (k1107b H K Y4 f A3 A4 A5 (r.hx Y4) (iI.hx Y4) (by omega) (by omega) (by omega) (by omega) hx hy hz hw t1 (by omega) l1 lim) ⟨rfl,rfl,rfl,trivial⟩
end
set_option maxRecDepth 100000 in
theorem law1107:Law tpE 5 5 [23,52,68]:=by
 intro h us f ha
 obtain ⟨x0,x1,x2,rfl,⟨p0,y0,e0⟩,⟨p1,y1,e1⟩,⟨p2,y2,e2⟩⟩:=args3 ha
 have q0:=tyg_struct Tryz.underlying23 y0
 have q2:=tyg_array Tryz.underlying68 y2
 rw [val_agg (.inl ⟨_,Tryz.underlying23⟩)] at e0
 rw [val_agg (.inl ⟨_,Tryz.underlying52⟩)] at e1
 rw [val_agg (.inr ⟨_,_,Tryz.underlying68⟩)] at e2
 obtain ⟨c0,d0,rfl,_,t0,c1,d1,rfl,_,t1,rfl⟩:=q0
 obtain ⟨a,rfl,_⟩:=ty_int t0
 obtain ⟨b,rfl,_⟩:=ty_int t1
 obtain ⟨n1,v1,v2,L1,S1,rfl,r1,i1⟩:=ty_trcI (n:=1) y1
 obtain ⟨c4,d4,rfl,_,t4,c5,d5,rfl,_,t5,c6,d6,rfl,_,t6,c7,d7,rfl,_,t7,rfl⟩:=q2
 obtain ⟨x,rfl,hx⟩:=tyg_int u91u t4
 obtain ⟨y,rfl,hy⟩:=tyg_int u91u t5
 obtain ⟨z,rfl,hz⟩:=tyg_int u91u t6
 obtain ⟨w,rfl,hw⟩:=tyg_int u91u t7
 subst e0 e1 e2
 exact k1107 hasE awkE r1 i1 (i8_inT hx) (i8_inT hy) (i8_inT hz) (i8_inT hw) f
end Go.Tidy
