/- A part of the proof. -/
import Derived.Test.YtngjiljminopnaaGreatDoorPa5
import Derived.Test.YtngjiljminopnaaGreatDoorPa4
set_option linter.all false
namespace Go.Tidy
open Go Go.Proofs Tab
variable {tp:TProg}
theorem tp206:Tp Tryz.prog 45 8 [.int .i64 0,.int .i64 0,.int .i64 0,.int .i64 0,.int .i64 0,.int .i64 0,.int .i64 0,.int .i64 0] true:=tp_of (by kernel_rfl) (by kernel_rfl) rfl
def z4:List (Int × Int):=[(0,0),(0,0),(0,0),(0,0)]
theorem z4_cat:cat encS z4=[.int .i64 0,.int .i64 0,.int .i64 0,.int .i64 0,.int .i64 0,.int .i64 0,.int .i64 0,.int .i64 0]:=rfl
theorem pnL_zero {X:Nat→Int}:pnL X 0 0=z4:=rfl
def fourK (S:List (Int × Int)) (i:Nat):Bool:=(List.range 4).all fun j=>knownB S ((i+j:Nat):Int)
def pnlO (n:Int) (L:List Int) (S:List (Int × Int)) (z:Int):List (Int × Int) × Int:=if z < n∨z > n+(L.length:Int) - 4 then (z4,10) else if fourK S (z - n).toNat=true then (pnL (fun j=>L.getD ((z - n).toNat+j) 0) 4 0,0) else (z4,7)
theorem fourK_not {S:List (Int × Int)} {i j:Nat} (hj:j < 4) (h:knownB S ((i+j:Nat):Int)=false):fourK S i=false:=by
 cases c:fourK S i with
 | false=>rfl
 | true =>
  unfold fourK at c
  have:=List.all_eq_true.1 c j (List.mem_range.2 hj)
  rw [h] at this
  exact absurd this (by decide)
section
variable {h:TH} {n z:Int} {v1 v2:Value} {L:List Int} {S:List (Int × Int)}
set_option maxHeartbeats 8000000 in
set_option maxRecDepth 10000 in
theorem k1163 (H:Has tp) (r:TrcH h v1 v2 L S) (t1:traceE n L S=0) (hS:S.length≤1000000) (hz1:-9223372036854775808≤z) (hz2:z≤9223372036854775807) (f:Free0 h.next h):CallW Tryz.prog tp (.func (.func 30) #[] #[]) #[trcV n v1 v2,zi z] h fun v h'=>HX h h'∧v=.tuple #[.agg (cat encS (pnlO n L S z).1).toArray,zi (pnlO n L S z).2]:=by
  refine CallW.fnL (H.fn 30 f1163 rfl rfl) ?_
  obtain ⟨b1,k1,e1,_⟩:=id r.l
  obtain ⟨b2,k2,e2,_⟩:=id r.s
  subst e1 e2
  obtain ⟨⟨n0,n1⟩,lim,_,_,m5,n5⟩:=trace_ok t1
  refine WL.sr<|WOL.box rfl fun h1 N1=>WOL.al tp206 fun h2 N2=>WOL.as rfl<|WOL.nil<|keep [(1,_),(2,_),(4,_),(5,_)] ⟨rfl,rfl,rfl,rfl,trivial⟩ ?_
  have q1:=N1.next
  have q2:=N2.next
  refine WL.sr<|WOL.al tp206 fun h3 N3=>WOL.nil<|keep [(1,_),(2,_),(4,_),(5,_),(6,_)] ⟨rfl,rfl,rfl,rfl,rfl,trivial⟩ ?_
  have q3:=N3.next
  have X3:=(N1.hx.trans N2.hx).trans N3.hx
  have A2:At h3 h.next (.cells [zi n,.slice b1 L.length k1,.slice b2 S.length k2] true true 52):=(N1.at_.hx N2.hx).hx N3.hx
  have A4:At h3 h1.next (.cells (cat encS z4) true true 45):=N2.at_.hx N3.hx
  have A6:At h3 h2.next (.cells (cat encS z4) true true 45):=N3.at_
  have bad:∀ (e:Int),pnlO n L S z=(z4,e)→∀ g,HX h3 g→At g h2.next (.cells (cat encS z4) true true 45)→At g h1.next (.cells (cat encS z4) true true 45)→∀ g2,Put g g2 h1.next (.cells (splice (cat encS z4) 0 (cat encS z4)) true true 45)→HX h g2∧At g2 h1.next (.cells (cat encS z4) true true 45):=fun e he g G B6 B4 g2 P=>⟨P.hx _ (X3.trans G) (by omega),by
    have:=P.at_
    rwa [show splice (cat encS z4) 0 (cat encS z4)=cat encS z4 from rfl] at this⟩
  refine WL.sr<|WOL.mv rfl<|WOL.fa rfl (fa_of fo1114_0)<|WOL.ld rfl (load_one tp3 A2 rfl)<|WOL.bi (v:=zi (fwrap .i64 (z - n))) rfl rfl rfl<|WOL.as rfl<|WOL.nil<|keep [(1,_),(2,_),(4,_),(5,_),(6,_),(7,_)] ⟨rfl,rfl,rfl,rfl,rfl,rfl,trivial⟩ ?_
  refine WL.seq<|WL.sr<|WOL.mv rfl<|WOL.fa rfl (fa_of fo1114_0)<|WOL.ld rfl (load_one tp3 A2 rfl) ?_
  have out10:z < n∨z > n+(L.length:Int) - 4→pnlO n L S z=(z4,10):=fun c=>by unfold pnlO;rw [if_pos c]
  by_cases c1:z < n
  · have e:=out10 (.inl c1)
    rw [e]
    refine WOL.bt rfl rfl rfl (decide_eq_true c1)<|WOL.mv rfl<|WOL.skp (b:=true) rfl rfl<|WOL.skp (b:=true) rfl rfl<|WOL.skp (b:=true) rfl rfl<|WOL.skp (b:=true) rfl rfl<|WOL.skp (b:=true) rfl rfl<|WOL.skp (b:=true) rfl rfl<|WOL.skp (b:=true) rfl rfl<|WOL.skp (b:=true) rfl rfl<|WOL.skp (b:=true) rfl rfl<|WOL.pkt rfl rfl<|WOL.nil<|WL.yes rfl<|WL.sr<|WOL.ld rfl (load_row tp206 A6 (l:=cat encS z4) rfl (Nat.le_of_ble_eq_true rfl))<|WOL.sto (vs:=cat encS z4) rfl rfl tp206 A4 rfl rfl (Nat.le_of_ble_eq_true rfl) rfl (f.hx X3) (by omega) fun g2 P=>WOL.as rfl<|WOL.nil ?_
    obtain ⟨Z,B⟩:=bad 10 e h3 (HX.refl _) A6 A4 g2 P
    exact WL.ret (WL.endC1 rfl rfl (load_row tp206 B (l:=cat encS z4) rfl (Nat.le_of_ble_eq_true rfl)) ⟨Z,rfl⟩)
  refine WOL.bf rfl rfl rfl (decide_eq_false c1)<|WOL.mv rfl<|WOL.now (b:=false) rfl rfl<|WOL.mv rfl<|WOL.now (b:=false) rfl rfl<|WOL.fa rfl (fa_of fo1114_0)<|WOL.now (b:=false) rfl rfl<|WOL.ld rfl (load_one tp3 A2 rfl)<|WOL.now (b:=false) rfl rfl<|WOL.fa rfl (fa_of fo1114_1)<|WOL.now (b:=false) rfl rfl<|WOL.ld rfl (load_one tp29 A2 rfl)<|WOL.now (b:=false) rfl rfl<|WOL.len rfl (r.hx X3).l u29<|WOL.now (b:=false) rfl rfl<|WOL.add (m:=n) (n:=(L.length:Int)) rfl rfl (by omega) (by omega)<|WOL.now (b:=false) rfl rfl<|WOL.sub (m:=n+(L.length:Int)) (n:=4) rfl rfl (by omega) (by omega)<|WOL.now (b:=false) rfl rfl ?_
  by_cases c2:z > n+(L.length:Int) - 4
  · have e:=out10 (.inr c2)
    rw [e]
    refine WOL.bt rfl rfl rfl (decide_eq_true c2)<|WOL.pkf rfl rfl<|WOL.nil<|WL.yes rfl<|WL.sr<|WOL.ld rfl (load_row tp206 A6 (l:=cat encS z4) rfl (Nat.le_of_ble_eq_true rfl))<|WOL.sto (vs:=cat encS z4) rfl rfl tp206 A4 rfl rfl (Nat.le_of_ble_eq_true rfl) rfl (f.hx X3) (by omega) fun g2 P=>WOL.as rfl<|WOL.nil ?_
    obtain ⟨Z,B⟩:=bad 10 e h3 (HX.refl _) A6 A4 g2 P
    exact WL.ret (WL.endC1 rfl rfl (load_row tp206 B (l:=cat encS z4) rfl (Nat.le_of_ble_eq_true rfl)) ⟨Z,rfl⟩)
  refine WOL.bf rfl rfl rfl (decide_eq_false c2)<|WOL.pkf rfl rfl<|WOL.nil<|WL.no rfl<|WL.skip<|keep [(1,_),(2,_),(4,_),(5,_),(6,_),(7,_)] ⟨rfl,rfl,rfl,rfl,rfl,rfl,trivial⟩ ?_
  obtain ⟨i0,hi0⟩:∃ i0:Nat,z - n=(i0:Int):=⟨(z - n).toNat,by omega⟩
  have ht:(z - n).toNat=i0:=by omega
  have eo:pnlO n L S z=if fourK S i0=true then (pnL (fun j=>L.getD (i0+j) 0) 4 0,0) else (z4,7):=by
    unfold pnlO
    rw [if_neg (by omega),ht]
  rw [fwrap_i64 (by omega) (by omega),hi0]
  -- all four known?
  refine WL.seq<|WL.sr<|WOL.as rfl<|WOL.nil<|keep [(2,_),(4,_),(5,_),(6,_),(7,_),(8,_)] ⟨rfl,rfl,rfl,rfl,rfl,rfl,trivial⟩ ?_
  refine WL.forz (α:=Unit) 4 (fun j _ g=>HX h3 g∧∀ i,i < j→knownB S ((i0+i:Nat):Int)=true) (fun j _=>[(2,ptr h.next),(4,ptr h1.next),(5,zi 0),(6,ptr h2.next),(7,zi (i0:Nat)),(8,zi (j:Nat))]) (fun j _=>[(2,ptr h.next),(4,ptr h1.next),(5,zi 0),(6,ptr h2.next),(7,zi (i0:Nat)),(8,zi (j:Nat))]) () ⟨HX.refl _,fun i hi=>absurd hi (by omega)⟩ ⟨rfl,rfl,rfl,rfl,rfl,rfl,trivial⟩ ?_ ?_ (fun _ _ _=>⟨rfl,rfl,rfl,rfl,rfl,rfl,trivial⟩) ?_ ?_
  · rintro j _ g hj _
    exact WOL.mv rfl<|WOL.bi rfl rfl rfl<|WOL.nil fun a q=>⟨rfl,q.sub ⟨rfl,rfl,rfl,rfl,rfl,rfl,rfl,trivial⟩⟩
  · rintro j _ g hj hH
    exact WOL.mv rfl<|WOL.inc rfl (by omega)<|WOL.as rfl<|WOL.nil fun a q=>⟨hH,q.sub ⟨rfl,rfl,rfl,rfl,rfl,rfl,trivial⟩⟩
  · rintro j _ g hj ⟨G,hk⟩
    refine WL.sr<|WOL.ld rfl (load_row tp1114 (A2.hx G) rfl (Nat.le_of_ble_eq_true rfl))<|WOL.mv rfl<|WOL.mv rfl<|WOL.add (m:=(i0:Int)) (n:=(j:Int)) rfl rfl (by omega) (by omega) ?_
    rw [show (i0:Int)+(j:Int)=((i0+j:Nat):Int) by omega]
    refine WOL.cl2 rfl rfl rfl ((k1154 H ((r.hx X3).hx G).s hS).mono ?_)
    rintro v g1 ⟨rfl,G1⟩
    cases kb:knownB S ((i0+j:Nat):Int) with
    | false =>
      have e:pnlO n L S z=(z4,7):=by rw [eo,fourK_not hj kb];rfl
      rw [e]
      have G2:=G.trans G1
      refine WOL.nt rfl<|WOL.nil<|WL.yes rfl<|WL.sr<|WOL.ld rfl (load_row tp206 (A6.hx G2) (l:=cat encS z4) rfl (Nat.le_of_ble_eq_true rfl))<|WOL.sto (vs:=cat encS z4) rfl rfl tp206 (A4.hx G2) rfl rfl (Nat.le_of_ble_eq_true rfl) rfl (f.hx (X3.trans G2)) (by omega) fun g2 P=>WOL.as rfl<|WOL.nil ?_
      obtain ⟨Z,B⟩:=bad 7 e g1 G2 (A6.hx G2) (A4.hx G2) g2 P
      exact WL.ret (WL.endC1 rfl rfl (load_row tp206 B (l:=cat encS z4) rfl (Nat.le_of_ble_eq_true rfl)) ⟨Z,rfl⟩)
    | true =>
      refine WOL.nt rfl<|WOL.nil<|WL.no rfl<|WL.skip fun y k=>⟨(),⟨G.trans G1,fun i hi=>?_⟩,k.sub ⟨rfl,rfl,rfl,rfl,rfl,rfl,trivial⟩⟩
      by_cases e:i=j
      · subst e;exact kb
      · exact hk i (by omega)
  · rintro _ g ⟨G,hk⟩
    have k4:fourK S i0=true:=List.all_eq_true.2 fun j hj=>hk j (List.mem_range.1 hj)
    rw [k4,if_pos rfl] at eo
    rw [eo]
    have hX:∀ m,((fun j=>L.getD (i0+j) 0) m).natAbs≤1073741824:=fun m=>by have:=lim (i0+m);show (L.getD (i0+m) 0).natAbs≤_;omega
    have hXd:∀ m,(fun j=>L.getD (i0+j) 0) m=L.getD (i0+m) 0:=fun m=>rfl
    generalize hXX:(fun j=>L.getD (i0+j) 0)=X at *
    refine WL.seq<|WL.sr<|WOL.as rfl<|WOL.nil<|keep [(2,_),(4,_),(5,_),(6,_),(7,_),(9,_)] ⟨rfl,rfl,rfl,rfl,rfl,rfl,trivial⟩ ?_
    refine WL.forz (α:=Unit) 4 (fun k _ g=>HX h2 g∧h3.next≤g.next∧At g h2.next (.cells (cat encS (pnL X k 0)) true true 45)) (fun j _=>[(2,ptr h.next),(4,ptr h1.next),(5,zi 0),(6,ptr h2.next),(7,zi (i0:Nat)),(9,zi (j:Nat))]) (fun j _=>[(2,ptr h.next),(4,ptr h1.next),(5,zi 0),(6,ptr h2.next),(7,zi (i0:Nat)),(9,zi (j:Nat))]) () ⟨N3.hx.trans G,G.next,by rw [pnL_zero];exact A6.hx G⟩ ⟨rfl,rfl,rfl,rfl,rfl,rfl,trivial⟩ ?_ ?_ (fun _ _ _=>⟨rfl,rfl,rfl,rfl,rfl,rfl,trivial⟩) ?_ ?_
    · rintro j _ g hj _
      exact WOL.mv rfl<|WOL.bi rfl rfl rfl<|WOL.nil fun a q=>⟨rfl,q.sub ⟨rfl,rfl,rfl,rfl,rfl,rfl,rfl,trivial⟩⟩
    · rintro j _ g hj hH
      exact WOL.mv rfl<|WOL.inc rfl (by omega)<|WOL.as rfl<|WOL.nil fun a q=>⟨hH,q.sub ⟨rfl,rfl,rfl,rfl,rfl,rfl,trivial⟩⟩
    · rintro k _ g hk4 ⟨G,nx,B⟩
      refine WL.sr<|WOL.as rfl<|WOL.nil<|keep [(2,_),(4,_),(5,_),(6,_),(7,_),(9,_),(10,_)] ⟨rfl,rfl,rfl,rfl,rfl,rfl,rfl,trivial⟩ ?_
      refine WL.forz (α:=Unit) 4 (fun m _ g=>HX h2 g∧h3.next≤g.next∧At g h2.next (.cells (cat encS (pnL X k m)) true true 45)) (fun m _=>[(2,ptr h.next),(4,ptr h1.next),(5,zi 0),(6,ptr h2.next),(7,zi (i0:Nat)),(9,zi (k:Nat)),(10,zi (m:Nat))]) (fun m _=>[(2,ptr h.next),(4,ptr h1.next),(5,zi 0),(6,ptr h2.next),(7,zi (i0:Nat)),(9,zi (k:Nat)),(10,zi (m:Nat))]) () ⟨G,nx,B⟩ ⟨rfl,rfl,rfl,rfl,rfl,rfl,rfl,trivial⟩ ?_ ?_ (fun _ _ _=>⟨rfl,rfl,rfl,rfl,rfl,rfl,rfl,trivial⟩) ?_ ?_
      · rintro j _ g hj _
        exact WOL.mv rfl<|WOL.bi rfl rfl rfl<|WOL.nil fun a q=>⟨rfl,q.sub ⟨rfl,rfl,rfl,rfl,rfl,rfl,rfl,rfl,trivial⟩⟩
      · rintro j _ g hj hH
        exact WOL.mv rfl<|WOL.inc rfl (by omega)<|WOL.as rfl<|WOL.nil fun a q=>⟨hH,q.sub ⟨rfl,rfl,rfl,rfl,rfl,rfl,rfl,trivial⟩⟩
      · rintro m _ g hm ⟨G,nx,B⟩
        have Yh:=(N1.hx.trans N2.hx).trans G
        have B2:At g h.next (.cells [zi n,.slice b1 L.length k1,.slice b2 S.length k2] true true 52):=(N1.at_.hx N2.hx).hx G
        have hl:i0+m < L.length:=by omega
        have ya:L[i0+m]?=some (X m):=by rw [hXd m,List.getD_eq_getElem?_getD,List.getElem?_eq_getElem hl];rfl
        obtain ⟨_,_,ca,fa,wa,ela,g1a,g2a,g3a,g4a,g5a⟩:=(r.hx Yh).l.at eI u29 tp3 ya .i64
        have gxa:=g5a 0 (by decide)
        rw [Nat.add_zero] at gxa
        have pk:(pnL X k m)[k]?=some (pnR X k m,pnI X k m):=by rw [pnL_get hk4,if_neg (Nat.lt_irrefl _),if_pos rfl]
        have lp:(pnL X k m).length=4:=pnL_len
        have rowk:((cat encS (pnL X k m)).drop (2*k)).take 2=encS (pnR X k m,pnI X k m):=by rw [Nat.mul_comm];exact eS.at pk
        have lc:(cat encS (pnL X k m)).length=8:=by rw [eS.cat_len,lp]
        obtain ⟨r1,r2⟩:=pn_lim (k:=k) hX m
        obtain ⟨s1,s2⟩:=pn_term hX (3*(k*m)) m
        have km:k*m≤9:=Nat.le_trans (Nat.mul_le_mul (show k≤3 by omega) (show m≤3 by omega)) (by decide)
        have kmi:(0:Int)≤(k:Int)*(m:Int)∧(k:Int)*(m:Int)≤9:=by
          rw [← Int.natCast_mul]
          exact ⟨Int.natCast_nonneg _,Int.ofNat_le.2 km⟩
        obtain ⟨kmi1,kmi2⟩:=kmi
        have lB:=B.lt
        refine WL.reg<|WOL.mv rfl<|WOL.mv rfl<|WOL.ix rfl rfl (ix206 hk4)<|WOL.ld rfl (load_row tp205 B rowk (by omega))<|WOL.fa rfl (fa_of fo1114_1)<|WOL.ld rfl (load_one tp29 B2 rfl)<|WOL.mv rfl<|WOL.mv rfl<|WOL.add (m:=(i0:Int)) (n:=(m:Int)) rfl rfl (by omega) (by omega) ?_
        rw [show (i0:Int)+(m:Int)=((i0+m:Nat):Int) by omega]
        refine WOL.ix rfl rfl g1a<|WOL.ld rfl (load_one tp3 g2a gxa)<|WOL.bd rfl bd205r<|WOL.mv rfl<|WOL.mv rfl<|WOL.mul (m:=(k:Int)) (n:=(m:Int)) rfl rfl (by omega) (by omega) ?_
        rw [← Int.natCast_mul]
        have la:=g2a.lt
        have lh:=B2.lt
        refine WOL.lq1 [_,h.next,h2.next] rfl rfl rfl fun ml hq=>((k1215 (h:=TH.withLock _ ml) H (by omega) ((f.on Yh).held hq (fun b hb=>by simp at hb;show b < g.next;rcases hb with rfl | rfl | rfl <;> omega))).mono ?_)
        rintro v g1 ⟨rfl,G1⟩
        replace G1:=G1.relock
        generalize g1.withLock g.lock=g1 at *
        have Y1:=Yh.trans G1
        have gn1:=G1.next
        refine WOL.lq2 [h2.next] rfl rfl rfl rfl fun ml hq=>((k1214 (h:=TH.withLock _ ml) (a:=X m) (b:=0) (c:=tRe (3*(k*m))) (d:=tIm (3*(k*m))) H (by omega) (by rw [Int.zero_mul];decide) (by omega) (by rw [Int.zero_mul];decide) ((f.on Y1).held hq (fun b hb=>by simp at hb;show b < g1.next;omega))).mono ?_)
        rintro v g2 ⟨rfl,G2⟩
        replace G2:=G2.relock
        generalize g2.withLock g1.lock=g2 at *
        have Y2:=Y1.trans G2
        have gn2:=G2.next
        rw [Int.zero_mul,Int.sub_zero,Int.zero_mul,Int.add_zero]
        refine WOL.cl2 rfl rfl rfl ((k1213 (a:=pnR X k m) (b:=pnI X k m) (c:=X m*tRe (3*(k*m))) (d:=X m*tIm (3*(k*m))) H (by omega) (by omega) (f.on Y2)).mono ?_)
        rintro v g3 ⟨rfl,G3⟩
        rw [← pnR_succ,← pnI_succ]
        have Y3:=Y2.trans G3
        have T3:=(G1.trans G2).trans G3
        have gn3:=T3.next
        refine WOL.ix rfl rfl (ix206 hk4)<|WOL.sto (vs:=encS (pnR X k (m+1),pnI X k (m+1))) rfl rfl tp205 (B.hx T3) rfl rfl (by omega) rfl (f.hx Y3) (by omega) fun g4 P=>WOL.nil fun a q=>⟨(),⟨P.hx _ (G.trans T3) (by omega),by have:=P.next;omega,?_⟩,q.sub ⟨rfl,rfl,rfl,rfl,rfl,rfl,rfl,trivial⟩⟩
        have D:=P.at_
        rw [Nat.mul_comm,eS.set (by omega),pnL_step hk4] at D
        exact D
      · rintro _ g ⟨G,nx,B⟩
        rw [pnL_next] at B
        exact fun y q=>⟨(),⟨G,nx,B⟩,q.sub ⟨rfl,rfl,rfl,rfl,rfl,rfl,trivial⟩⟩
    · rintro _ g ⟨G,nx,B⟩
      have Yh:=(N1.hx.trans N2.hx).trans G
      have l8:(cat encS (pnL X 4 0)).length=8:=by rw [eS.cat_len,pnL_len]
      have w8:((cat encS (pnL X 4 0)).drop 0).take 8=cat encS (pnL X 4 0):=by rw [List.drop_zero,← l8,List.take_length]
      refine WL.sr<|WOL.ld rfl (load_row tp206 B w8 (by omega))<|WOL.sto (vs:=cat encS (pnL X 4 0)) rfl rfl tp206 (N2.at_.hx G) (by show (cat encS (pnL X 4 0)).toArray.toList=_;simp) l8 (Nat.le_of_ble_eq_true rfl) (eS.all _) (f.hx Yh) (by omega) fun g2 P2=>WOL.as rfl<|WOL.nil ?_
      have D:=P2.at_
      have es:splice [.int .i64 0,.int .i64 0,.int .i64 0,.int .i64 0,.int .i64 0,.int .i64 0,.int .i64 0,.int .i64 0] 0 (cat encS (pnL X 4 0))=cat encS (pnL X 4 0):=by
        unfold splice
        rw [List.take_zero,List.nil_append,l8]
        simp
      rw [es] at D
      exact WL.ret (WL.endC1 rfl rfl (load_row tp206 D w8 (by omega)) ⟨P2.hx _ Yh (by omega),rfl⟩)
end
end Go.Tidy
namespace Go.Tidy
open Go Go.Proofs Tab
variable {tp:TProg}
def numL (a b:Nat→Int) (k:Nat):List (Int × Int):=(List.range 4).map fun i=>if i < k then (a i,b i) else (0,0)
theorem idx206 {a b:Nat→Int} {k:Nat} (h:k < 4):indexT Tryz.prog 45 (.agg #[zi (a 0),zi (b 0),zi (a 1),zi (b 1),zi (a 2),zi (b 2),zi (a 3),zi (b 3)]) (zi (k:Nat))=some (.agg #[zi (a k),zi (b k)]):=by
 obtain rfl | rfl | rfl | rfl:k=0∨k=1∨k=2∨k=3:=by omega
 ·show indexT Tryz.prog 45 _ (zi 0)=_;kernel_rfl
 ·show indexT Tryz.prog 45 _ (zi 1)=_;kernel_rfl
 ·show indexT Tryz.prog 45 _ (zi 2)=_;kernel_rfl
 ·show indexT Tryz.prog 45 _ (zi 3)=_;kernel_rfl
section
variable {a b:Nat→Int} {k i:Nat}
theorem numL_len:(numL a b k).length=4:=by unfold numL;rw [List.length_map,List.length_range]
theorem numL_get (h:i < 4):(numL a b k)[i]?=some (if i < k then (a i,b i) else (0,0)):=by
 unfold numL
 rw [List.getElem?_map,List.getElem?_range h];rfl
theorem numL_step (hk:k < 4):(numL a b k).set k (a k,b k)=numL a b (k+1):=by
 refine List.ext_getElem? fun i=>?_
 by_cases e:i=k
 ·subst e
  rw [List.getElem?_set_self (by rw [numL_len];exact hk),numL_get hk,if_pos (by omega)]
 ·rw [List.getElem?_set_ne (fun c=>e c.symm)]
  by_cases h:i < 4
  ·rw [numL_get h,numL_get h]
   by_cases c:i < k
   ·rw [if_pos c,if_pos (by omega)]
   ·rw [if_neg c,if_neg (by omega)]
  ·rw [List.getElem?_eq_none (by rw [numL_len];omega),List.getElem?_eq_none (by rw [numL_len];omega)]
theorem num_zero:CzL [.complex .f64 0 0,.complex .f64 0 0,.complex .f64 0 0,.complex .f64 0 0] (numL a b 0):=by
 refine ⟨by rw [numL_len];rfl,fun i v p h1 h2=>?_⟩
 have hi:i < 4:=(List.getElem?_eq_some_iff.1 h1).1
 rw [numL_get hi,if_neg (Nat.not_lt_zero _)] at h2
 have hp:p=(0,0):=(Option.some.inj h2).symm
 subst hp
 have hv:v=.complex .f64 0 0:=by
  obtain rfl | rfl | rfl | rfl:i=0∨i=1∨i=2∨i=3:=by omega
  all_goals exact (Option.some.inj h1).symm
 subst hv
 exact ⟨_,_,rfl,fx_zero,fx_zero⟩
theorem num_all (l:List (Int × Int)) (h:l.length=4):numL (fun i=>(l.getD i (0,0)).1) (fun i=>(l.getD i (0,0)).2) 4=l∧(cat encS l).toArray=#[zi (l.getD 0 (0,0)).1,zi (l.getD 0 (0,0)).2,zi (l.getD 1 (0,0)).1,zi (l.getD 1 (0,0)).2,zi (l.getD 2 (0,0)).1,zi (l.getD 2 (0,0)).2,zi (l.getD 3 (0,0)).1,zi (l.getD 3 (0,0)).2]:=by
 match l,h with
 | [p,q,r,s],_=>exact ⟨rfl,rfl⟩
end
section
variable {h:TH} {a b:Nat→Int}
set_option maxHeartbeats 8000000 in
set_option maxRecDepth 10000 in
theorem k1164a (H:Has tp) (ha:∀ n,(a n).natAbs < 9007199254740992) (hb:∀ n,(b n).natAbs < 9007199254740992) (f:Free0 h.next h):CallW Tryz.prog tp (.func (.func 19) #[] #[]) #[.agg #[zi (a 0),zi (b 0),zi (a 1),zi (b 1),zi (a 2),zi (b 2),zi (a 3),zi (b 3)]] h fun v h'=>HX h h'∧∃ cs:List Value,v=.agg cs.toArray∧CzL cs (numL a b 4):=by
 refine CallW.fnL (H.fn 19 f1164 rfl rfl) ?_
 refine WL.sr<|WOL.box rfl fun h1 N1=>WOL.al tp1172 fun h2 N2=>WOL.nil<|keep [(1,_),(2,_)] ⟨rfl,rfl,trivial⟩ ?_
 have n1:=N1.next
 have n2:=N2.next
 refine WL.sr<|WOL.al tp1172 fun h3 N3=>WOL.nil<|keep [(1,_),(2,_),(3,_)] ⟨rfl,rfl,rfl,trivial⟩ ?_
 have n3:=N3.next
 have A1:At h3 h.next (.cells [zi (a 0),zi (b 0),zi (a 1),zi (b 1),zi (a 2),zi (b 2),zi (a 3),zi (b 3)] true true 45):=(N1.at_.hx N2.hx).hx N3.hx
 refine WL.seq<|WL.sr<|WOL.ld rfl (load_row tp206 A1 (l:=[zi (a 0),zi (b 0),zi (a 1),zi (b 1),zi (a 2),zi (b 2),zi (a 3),zi (b 3)]) rfl (Nat.le_of_ble_eq_true rfl))<|WOL.mv rfl<|WOL.nil<|keep [(2,_),(3,_),(6,_),(7,_)] ⟨rfl,rfl,rfl,rfl,trivial⟩ ?_
 refine WL.upto (α:=List Value) 4 (fun k cs g=>HX h2 g∧h3.next≤g.next∧At g h2.next (.cells cs true true 27)∧CzL cs (numL a b k)) (fun _ _=>[(2,ptr h1.next),(3,ptr h2.next),(6,.agg #[zi (a 0),zi (b 0),zi (a 1),zi (b 1),zi (a 2),zi (b 2),zi (a 3),zi (b 3)])]) _ rfl rfl (by decide) ⟨N3.hx,Nat.le_refl _,N3.at_,num_zero⟩ ⟨rfl,rfl,rfl,rfl,trivial⟩ (fun _ _=>rfl) (fun _ _ _=>⟨rfl,rfl,rfl,rfl,trivial⟩) (fun _ _ _=>⟨rfl,rfl,rfl,rfl,trivial⟩) ?_ ?_
 ·rintro k cs g hk ⟨Y,nx,B,cz⟩
  have Yh:=(N1.hx.trans N2.hx).trans Y
  have lcs:cs.length=4:=by rw [cz.1,numL_len]
  have lB:=B.lt
  have yn:=Yh.next
  refine WL.sr<|WOL.mv rfl<|WOL.idx rfl rfl (idx206 hk)<|WOL.al tp205 fun g1 M1=>WOL.as rfl<|WOL.sto (vs:=[zi (a k),zi (b k)]) rfl rfl tp205 M1.at_ rfl rfl (Nat.le_of_ble_eq_true rfl) rfl (f.hx (Yh.trans M1.hx)) (by omega) fun g2 M2=>WOL.nil<|keep [(2,_),(3,_),(4,_),(5,_),(6,_),(7,_)] ⟨rfl,rfl,rfl,rfl,rfl,rfl,trivial⟩ ?_
  have m1:=M1.next
  have m2:=M2.next
  have A5:=M2.at_
  have Y2:HX g g2:=M2.hx _ M1.hx (Nat.le_refl _)
  have q1:=fx_int (ha k)
  have q2:=fx_int (hb k)
  have cv:Cz (.complex .f64 (FloatKind.f64.nearest (a k)) (FloatKind.f64.nearest (b k))) (a k) (b k):=⟨_,_,rfl,q1,q2⟩
  refine WL.reg<|WOL.mv rfl<|WOL.fa rfl (fa_of fo205_0)<|WOL.ld rfl (load_one tp3 A5 rfl)<|WOL.cvP rfl rfl (conv_i2f Tryz.underlying3 u188c) (plain_float q1.nan64)<|WOL.fa rfl (fa_of fo205_1)<|WOL.ld rfl (load_one tp3 A5 rfl)<|WOL.cvP rfl rfl (conv_i2f Tryz.underlying3 u188c) (plain_float q2.nan64)<|WOL.cplx rfl rfl q1.nan64 q2.nan64<|WOL.ix rfl rfl (ix1172 hk)<|WOL.sto (vs:=[.complex .f64 (FloatKind.f64.nearest (a k)) (FloatKind.f64.nearest (b k))]) rfl rfl tp1171 (B.hx Y2) rfl rfl (by show k+1≤cs.length;omega) rfl (f.hx (Yh.trans Y2)) (by omega) fun g3 P=>WOL.nil fun x q=>⟨cs.set k (.complex .f64 (FloatKind.f64.nearest (a k)) (FloatKind.f64.nearest (b k))),⟨P.hx _ (Y.trans Y2) (by omega),by have:=P.next;omega,?_,?_⟩,q.sub ⟨rfl,rfl,rfl,rfl,trivial⟩⟩
  ·have:=P.at_
   rw [splice_set (by omega)] at this
   exact this
  ·have:=Cz.set (j:=k) cz (p:=(a k,b k)) cv
   rw [numL_step hk] at this
   exact this
 ·rintro cs g ⟨Y,nx,B,cz⟩
  have lcs:cs.length=4:=by rw [cz.1,numL_len]
  have Yh:=(N1.hx.trans N2.hx).trans Y
  have C2:=N2.at_.hx Y
  have co:=czl_one cz
  refine WL.sr<|WOL.ld rfl (load_row tp1172 B (l:=cs) (by rw [List.drop_zero,← lcs,List.take_length]) (by omega))<|WOL.sto (vs:=cs) rfl rfl tp1172 C2 (by show cs.toArray.toList=cs;simp) lcs (Nat.le_of_ble_eq_true rfl) co (f.hx Yh) (by omega) fun g2 P2=>WOL.nil ?_
  have D:=P2.at_
  have es:splice [.complex .f64 0 0,.complex .f64 0 0,.complex .f64 0 0,.complex .f64 0 0] 0 cs=cs:=by
   unfold splice
   rw [List.take_zero,List.nil_append,lcs]
   simp
  rw [es] at D
  exact WL.ret (WL.endC rfl (load_row tp1172 D (l:=cs) (by rw [List.drop_zero,← lcs,List.take_length]) (by omega)) ⟨P2.hx _ Yh (by omega),cs,rfl,cz⟩)
theorem k1164 (H:Has tp) {l:List (Int × Int)} (hl:l.length=4) (hb:∀ p,p ∈ l→p.1.natAbs < 9007199254740992∧p.2.natAbs < 9007199254740992) (f:Free0 h.next h):CallW Tryz.prog tp (.func (.func 19) #[] #[]) #[.agg (cat encS l).toArray] h fun v h'=>HX h h'∧∃ cs:List Value,v=.agg cs.toArray∧CzL cs l:=by
 obtain ⟨e1,e2⟩:=num_all l hl
 rw [e2]
 have ok:∀ n,(l.getD n (0,0)).1.natAbs < 9007199254740992∧(l.getD n (0,0)).2.natAbs < 9007199254740992:=fun n=>by
  rw [List.getD_eq_getElem?_getD]
  cases h:l[n]? with
  | none=>exact ⟨by decide,by decide⟩
  | some p=>exact hb p (List.mem_of_getElem? h)
 have:=k1164a (h:=h) (a:=fun i=>(l.getD i (0,0)).1) (b:=fun i=>(l.getD i (0,0)).2) H (fun n=>(ok n).1) (fun n=>(ok n).2) f
 rw [e1] at this
 exact this
end
end Go.Tidy
namespace Go.Tidy
open Go Go.Proofs Tab
variable {tp:TProg}
def sampE (x:Int):Int:=outB x (-16384) 16384
def waveE (w:List Int):Int:=firstNZ [cond ((w.length:Int) == 0) 12 0,cond (decide ((w.length:Int) > 64)) 5 0,firstNZ (w.map sampE)]
def placeE (a n:Int):Int:=firstNZ [outB a 0 100000000,outB n 0 4096,cond (decide (fwrap .i64 (a+n) > 100000000)) 4 0]
theorem fNZ3 {c:Int}:firstNZ [0,0,c]=c:=by
 show cond (c != 0) c 0=c
 by_cases h:c=0
 ·subst h;rfl
 ·rw [bne_iff_ne.2 h];rfl
theorem fNZ2 {a b c:Int} (h:firstNZ [a,b]≠0):firstNZ [a,b,c]=firstNZ [a,b]:=by
 replace h:cond (a != 0) a (cond (b != 0) b 0)≠0:=h
 show cond (a != 0) a (cond (b != 0) b (cond (c != 0) c 0))=cond (a != 0) a (cond (b != 0) b 0)
 by_cases ha:a=0
 ·by_cases hb:b=0
  ·subst ha hb;exact absurd rfl h
  ·rw [bne_iff_ne.2 hb];rfl
 ·rw [bne_iff_ne.2 ha];rfl
section
variable {h:TH} {v:Value} {w:List Int}
theorem k1229 (H:Has tp) (x:Int) (h:TH):CallW Tryz.prog tp (.func (.func 142) #[] #[]) #[zi x] h fun v h'=>v=zi (sampE x)∧h'=h:=by
 refine CallW.fnL (H.fn 142 f1229 rfl rfl) ?_
 refine WL.sr<|WOL.as rfl<|WOL.nil ?_
 refine WL.sr<|WOL.mv rfl<|WOL.cl3 rfl rfl rfl rfl ((k72 H x (-16384) 16384 _).mono ?_)
 rintro v h2 ⟨rfl,rfl⟩
 exact WOL.as rfl<|WOL.nil<|WL.ret (WL.end_ rfl ⟨rfl,rfl⟩)
theorem k1210 (H:Has tp) (s:SlL encI 1 h v w) (hl:w.length≤1000000):CallW Tryz.prog tp (.func (.func 78) #[] #[]) #[v] h fun v h'=>v=zi (waveE w)∧HX h h':=by
 refine CallW.fnL (H.fn 78 f1210 rfl rfl) ?_
 refine WL.sr<|WOL.as rfl<|WOL.nil ?_
 refine WL.sr<|WOL.mv rfl<|WOL.len rfl s u29<|WOL.bi (v:=.bool ((w.length:Int) == 0)) rfl rfl rfl ?_
 refine WOL.cl2 rfl rfl rfl ((k77 H _ _ _).mono ?_)
 rintro v h2 ⟨rfl,rfl⟩
 refine WOL.mv rfl<|WOL.len rfl s u29<|WOL.bi (v:=.bool (decide ((w.length:Int) > 64))) rfl rfl rfl ?_
 refine WOL.cl2 rfl rfl rfl ((k77 H _ _ _).mono ?_)
 rintro v h3 ⟨rfl,rfl⟩
 refine WOL.mv rfl<|WOL.cl2 rfl rfl rfl ((k1190 H s hl (fun x=>k1229 H x _)).mono ?_)
 rintro v h4 ⟨rfl,rfl⟩
 refine WOL.bsl rfl u166 tp30 (by decide) (by decide) (by decide) (filled_ints3 _ _ _) fun h5 N5=>?_
 refine WOL.cl1 rfl rfl ((k71 H (l:=[_,_,_]) N5.at_.get (by simp)).mono ?_)
 rintro v h6 ⟨rfl,rfl⟩
 exact WOL.as rfl<|WOL.nil<|WL.ret (WL.end_ rfl ⟨rfl,N5.hx⟩)
theorem k1161 (H:Has tp) (a n:Int) (h:TH):CallW Tryz.prog tp (.func (.func 27) #[] #[]) #[zi a,zi n] h fun v h'=>v=zi (placeE a n)∧HX h h':=by
 refine CallW.fnL (H.fn 27 f1161 rfl rfl) ?_
 refine WL.sr<|WOL.as rfl<|WOL.nil ?_
 refine WL.seq<|WL.sr<|WOL.mv rfl<|WOL.cl3 rfl rfl rfl rfl ((k14 H a 0 100000000 _).mono ?_)
 rintro v h2 ⟨rfl,rfl⟩
 refine WOL.mv rfl<|WOL.cl3 rfl rfl rfl rfl ((k14 H n 0 4096 _).mono ?_)
 rintro v h3 ⟨rfl,rfl⟩
 refine WOL.bsl rfl u29 tp3 (by decide) (by decide) (by decide) (filled_ints _ _) fun h5 N5=>?_
 refine WOL.cl1 rfl rfl ((k13 H (l:=[_,_]) N5.at_.get (by simp)).mono ?_)
 rintro v h6 ⟨rfl,rfl⟩
 refine WOL.as rfl<|WOL.nil<|keep [(0,_),(1,_),(5,_)] ⟨rfl,rfl,rfl,trivial⟩ ?_
 by_cases h0:firstNZ [outB a 0 100000000,outB n 0 4096]=0
 ·refine WL.sr<|WOL.mv rfl<|WOL.bf rfl rfl rfl (bne_eq_false_iff_eq.2 h0)<|WOL.nil<|keep [(0,_),(1,_),(13,_)] ⟨rfl,rfl,rfl,trivial⟩ ?_
  refine WL.no rfl<|WL.skip ?_
  refine WL.sr<|WOL.mv rfl<|WOL.mv rfl<|WOL.bi (v:=zi (fwrap .i64 (a+n))) rfl rfl rfl<|WOL.bi (v:=.bool (decide (fwrap .i64 (a+n) > 100000000))) rfl rfl rfl<|WOL.cl2 rfl rfl rfl ((k32 H _ _ _).mono ?_)
  rintro v h7 ⟨rfl,rfl⟩
  refine WOL.as rfl<|WOL.nil<|WL.ret (WL.end_ rfl ⟨?_,N5.hx⟩)
  have z:=firstNZ_zero h0
  have z1:=z _ (List.mem_cons_self ..)
  have z2:=z _ (List.mem_cons_of_mem _ (List.mem_cons_self ..))
  unfold placeE
  rw [z1,z2,fNZ3];rfl
 ·refine WL.sr<|WOL.mv rfl<|WOL.bt rfl rfl rfl (bne_iff_ne.2 h0)<|WOL.nil<|keep [(5,_),(13,_)] ⟨rfl,rfl,trivial⟩ ?_
  refine WL.yes rfl<|WL.sr<|WOL.mv rfl<|WOL.as rfl<|WOL.nil ?_
  exact WL.ret (WL.end_ rfl ⟨by unfold placeE;rw [fNZ2 h0];rfl,N5.hx⟩)
set_option maxHeartbeats 1000000 in
theorem k1160 (H:Has tp) (s:SlL encI 1 h v w) (hl:w.length≤1000000):CallW Tryz.prog tp (.func (.func 17) #[] #[]) #[v] h fun v h'=>v=zi (waveE w)∧HX h h':=by
  refine CallW.fnL (H.fn 17 f1160 rfl rfl) ?_
  refine WL.sr<|WOL.as rfl<|WOL.nil ?_
  by_cases c1:(w.length:Int)=0
  · refine WL.seq<|WL.sr<|WOL.mv rfl<|WOL.len rfl s u29<|WOL.bt rfl rfl rfl (beq_iff_eq.2 c1)<|WOL.nil<|keep [(0,_),(7,_)] ⟨rfl,rfl,trivial⟩ ?_
    refine WL.yes rfl<|WL.sr<|WOL.as rfl<|WOL.nil ?_
    exact WL.ret (WL.end_ rfl ⟨by unfold waveE;rw [beq_iff_eq.2 c1];rfl,HX.refl _⟩)
  refine WL.seq<|WL.sr<|WOL.mv rfl<|WOL.len rfl s u29<|WOL.bf rfl rfl rfl (beq_eq_false_iff_ne.2 c1)<|WOL.nil<|keep [(0,_),(7,_)] ⟨rfl,rfl,trivial⟩ ?_
  refine WL.no rfl<|WL.skip ?_
  by_cases c2:(w.length:Int) > 64
  · refine WL.seq<|WL.sr<|WOL.mv rfl<|WOL.len rfl s u29<|WOL.bt rfl rfl rfl (decide_eq_true c2)<|WOL.nil<|keep [(0,_),(10,_)] ⟨rfl,rfl,trivial⟩ ?_
    refine WL.yes rfl<|WL.sr<|WOL.as rfl<|WOL.nil ?_
    exact WL.ret (WL.end_ rfl ⟨by unfold waveE;rw [beq_eq_false_iff_ne.2 c1,decide_eq_true c2];rfl,HX.refl _⟩)
  refine WL.seq<|WL.sr<|WOL.mv rfl<|WOL.len rfl s u29<|WOL.bf rfl rfl rfl (decide_eq_false c2)<|WOL.nil<|keep [(0,_),(10,_)] ⟨rfl,rfl,trivial⟩ ?_
  refine WL.no rfl<|WL.skip ?_
  have ew:waveE w=firstNZ (w.map sampE):=by
    unfold waveE
    rw [beq_eq_false_iff_ne.2 c1,decide_eq_false c2]
    exact fNZ3
  rw [ew]
  refine WL.seq<|WL.sr<|WOL.as rfl<|WOL.nil<|keep [(0,_),(3,_)] ⟨rfl,rfl,trivial⟩ ?_
  refine WL.fori (α:=Unit) w.length (fun j _ g=>g=h∧∀ i,i < j→(w.map sampE).getD i 0=0) (fun j _=>[(0,v),(3,zi (j:Nat))]) (fun j _=>[(0,v),(3,zi (j:Nat))]) () ⟨rfl,fun i hi=>absurd hi (by omega)⟩ ⟨rfl,rfl,trivial⟩ ?_ ?_ (fun _ _ _=>⟨rfl,rfl,trivial⟩) ?_ ?_
  · rintro j _ g hj ⟨rfl,_⟩
    refine WOL.mv rfl<|WOL.mv rfl<|WOL.len rfl s u29<|WOL.bi (v:=.bool (decide (j < w.length))) rfl rfl ?_<|WOL.nil fun x q=>⟨rfl,q.sub ⟨rfl,rfl,rfl,trivial⟩⟩
    show some (Value.bool (decide ((j:Int) < (w.length:Nat))))=_
    rw [show decide ((j:Int) < (w.length:Nat))=decide (j < w.length) from decide_eq_decide.2 (by omega)]
  · rintro j _ g hj q
    exact WOL.mv rfl<|WOL.inc rfl (by omega)<|WOL.as rfl<|WOL.nil fun x k=>⟨q,k.sub ⟨rfl,rfl,trivial⟩⟩
  · rintro j _ g hj ⟨rfl,hz⟩
    have hp:w[j]?=some w[j]:=List.getElem?_eq_getElem hj
    generalize w[j]=x at hp
    obtain ⟨b,o,cc,fix,wr,el,g1,g2,g3,g4,g5⟩:=s.at eI u29 tp3 hp .i64
    have he:(w.map sampE)[j]?=some (sampE x):=by rw [List.getElem?_map,hp];rfl
    refine WL.sr<|WOL.mv rfl<|WOL.mv rfl<|WOL.ix rfl rfl g1<|WOL.ld rfl (load_one tp3 g2 (by have:=g5 0 (by decide);rwa [Nat.add_zero] at this))<|WOL.cl3 rfl rfl rfl rfl ((k14 H x (-16384) 16384 _).mono ?_)
    rintro w' g' ⟨rfl,rfl⟩
    refine WOL.as rfl<|WOL.nil<|keep [(0,_),(3,_),(4,_)] ⟨rfl,rfl,rfl,trivial⟩ ?_
    by_cases h0:sampE x=0
    · refine WL.sr<|WOL.mv rfl<|WOL.bf rfl rfl rfl (bne_eq_false_iff_eq.2 h0)<|WOL.nil<|keep [(0,_),(3,_),(23,_)] ⟨rfl,rfl,rfl,trivial⟩ ?_
      refine WL.no rfl<|WL.skip fun a q=>⟨(),⟨rfl,fun i hi=>?_⟩,q.sub ⟨rfl,rfl,trivial⟩⟩
      by_cases e:i=j
      · subst e
        rw [List.getD_eq_getElem?_getD,he]
        exact h0
      · exact hz i (by omega)
    · refine WL.sr<|WOL.mv rfl<|WOL.bt rfl rfl rfl (bne_iff_ne.2 h0)<|WOL.nil<|keep [(4,_),(23,_)] ⟨rfl,rfl,trivial⟩ ?_
      refine WL.yes rfl<|WL.sr<|WOL.mv rfl<|WOL.as rfl<|WOL.nil ?_
      exact WL.ret (WL.end_ rfl ⟨by rw [fNZ_at hz he h0];rfl,HX.refl _⟩)
  · rintro _ g ⟨rfl,hz⟩
    refine WL.sr<|WOL.as rfl<|WOL.nil ?_
    exact WL.ret (WL.end_ rfl ⟨by rw [fNZ_all (fun i hi=>hz i (by rw [List.length_map] at hi;exact hi))];rfl,HX.refl _⟩)
end
end Go.Tidy
namespace Go.Tidy
open Go Go.Proofs Tab
variable {tp:TProg}
def repL (w:List Int) (n:Nat):List Int:=(List.range n).map fun i=>w.getD (i % w.length) 0
def repE (w:List Int) (a n:Int):Int:=firstNZ [waveE w,outB a 0 100000000,outB n 0 4096,cond (decide (fwrap .i64 (a+n) > 100000000)) 4 0]
def repO (w:List Int) (a n:Int):Int × List Int × List (Int × Int):=if repE w a n≠0 then (repE w a n,[],[]) else (0,repL w n.toNat,[])
section
variable {h:TH} {v:Value} {w:List Int} {a:Int} {n j:Nat}
theorem repL_len:(repL w n).length=n:=by unfold repL;rw [List.length_map,List.length_range]
theorem repL_get (hj:j < n):(repL w n).getD j 0=w.getD (j % w.length) 0:=by
 unfold repL
 rw [List.getD_eq_getElem?_getD,tbl_get,if_pos hj];rfl
theorem repL_take (hj:j < n):(repL w n).take (j+1)=(repL w n).take j ++ [w.getD (j % w.length) 0]:=by
 have hl:j < (repL w n).length:=by rw [repL_len];exact hj
 rw [List.take_succ_eq_append_getElem hl]
 have:(repL w n)[j]=w.getD (j % w.length) 0:=by
  rw [← repL_get hj,List.getD_eq_getElem?_getD,List.getElem?_eq_getElem hl];rfl
 rw [this]
theorem rep_at (hw:0 < w.length):w[j % w.length]?=some (w.getD (j % w.length) 0):=by
 rw [List.getD_eq_getElem?_getD,List.getElem?_eq_getElem (Nat.mod_lt _ hw)];rfl
set_option maxHeartbeats 4000000 in
set_option maxRecDepth 10000 in
theorem k1211 (H:Has tp) (s:SlL encI 1 h v w) (hw:0 < w.length) (hl:w.length≤1000000) (hn:n≤4096) (f:Free0 h.next h):CallW Tryz.prog tp (.func (.func 80) #[] #[]) #[v,zi a,zi (n:Nat)] h fun u h'=>HX h h'∧∃ b,u=trcV a (slA b n) (.slice none 0 0)∧h.next≤b∧At h' b (.cells (cat encI (repL w n)) true true 3):=by
 refine CallW.fnL (H.fn 80 f1211 rfl rfl) ?_
 refine WL.sr<|WOL.al tp1117 fun h1 N1=>WOL.nil<|keep [(0,_),(1,_),(2,_),(6,_)] ⟨rfl,rfl,rfl,rfl,trivial⟩ ?_
 have n1:=N1.next
 refine WL.sr<|WOL.mv rfl<|WOL.ms (m:=n) rfl rfl u29 tp3 (by decide) (by omega) fun h2 N2=>WOL.as rfl<|WOL.nil<|keep [(0,_),(1,_),(2,_),(6,_),(7,_)] ⟨rfl,rfl,rfl,rfl,rfl,trivial⟩ ?_
 have n2:=N2.next
 have W0:=N2.at_
 rw [rep_flat,← cat_rep (enc:=encI) (x:=0) rfl,← upTo_zero (C:=repL w n)] at W0
 refine WL.seq<|WL.sr<|WOL.mv rfl<|WOL.mv rfl<|WOL.nil<|keep [(0,_),(1,_),(6,_),(7,_),(11,_),(12,_)] ⟨rfl,rfl,rfl,rfl,rfl,rfl,trivial⟩ ?_
 refine WL.upto (α:=Unit) n (fun j _ g=>HX h g∧h2.next≤g.next∧At g h.next (.cells [zi 0,.slice none 0 0,.slice none 0 0] true true 55)∧At g h1.next (.cells (cat encI (upTo 0 (repL w n) n j)) true true 3)) (fun _ _=>[(0,v),(1,zi a),(6,ptr h.next),(7,slA h1.next n),(11,zi (n:Nat))]) () rfl rfl (by omega) ⟨N1.hx.trans N2.hx,Nat.le_refl _,N1.at_.hx N2.hx,W0⟩ ⟨rfl,rfl,rfl,rfl,rfl,rfl,trivial⟩ (fun _ _=>rfl) (fun _ _ _=>⟨rfl,rfl,rfl,rfl,rfl,rfl,trivial⟩) (fun _ _ _=>⟨rfl,rfl,rfl,rfl,rfl,rfl,trivial⟩) ?_ ?_
 ·rintro j _ g hj ⟨X,nx,A6,B⟩
  obtain ⟨b,o,cc,fix,wr,el,g1,g2,g3,g4,g5⟩:=(s.hx X).at eI u29 tp3 (rep_at (j:=j) hw) .i64
  refine WL.sr<|WOL.mv rfl<|WOL.as rfl<|WOL.nil<|keep [(0,_),(1,_),(6,_),(7,_),(8,_),(11,_),(12,_)] ⟨rfl,rfl,rfl,rfl,rfl,rfl,rfl,trivial⟩ ?_
  refine WL.reg<|WOL.mv rfl<|WOL.mv rfl<|WOL.mv rfl<|WOL.mv rfl<|WOL.mv rfl<|WOL.len rfl (s.hx X) u29<|WOL.rem (m:=((j:Nat):Int)) (n:=((w.length:Nat):Int)) rfl rfl (by omega) (by omega)<|WOL.ix rfl rfl g1<|WOL.ld rfl (load_one tp3 g2 (by have:=g5 0 (by decide);rwa [Nat.add_zero] at this))<|WOL.ix rfl rfl (indexAddr_tp (j:=j) u29 tp3 hj)<|WOL.sto (vs:=encI (w.getD (j % w.length) 0)) rfl rfl tp3 B rfl rfl (by rw [eI.cat_len,upTo_len];omega) rfl (f.hx X) (by omega) fun i2 P=>WOL.nil fun x q=>⟨(),⟨P.hx _ X (by omega),by have:=P.next;omega,P.oth _ _ (by omega) A6,?_⟩,q.sub ⟨rfl,rfl,rfl,rfl,rfl,rfl,trivial⟩⟩
  have:=P.at_
  rw [Nat.zero_add,eI.set (by rw [upTo_len];omega),← repL_get hj,← upTo_set] at this
  exact this
 ·rintro _ g ⟨X,nx,A6,B⟩
  rw [upTo_all repL_len] at B
  refine WL.sr<|WOL.mv rfl<|WOL.mv rfl<|WOL.bd rfl bd1117a<|WOL.sto (vs:=[zi a,slA h1.next n,.slice none 0 0]) rfl rfl tp1117 A6 rfl rfl (Nat.le_of_ble_eq_true rfl) rfl (f.hx X) (Nat.le_refl _) fun i2 P=>WOL.nil ?_
  exact WL.ret (WL.endC rfl (load_row tp1117 P.at_ rfl (Nat.le_of_ble_eq_true rfl)) ⟨P.hx _ X (Nat.le_refl _),h1.next,rfl,by omega,P.oth _ _ (by omega) B⟩)
theorem wave_len (h0:waveE w=0):0 < w.length∧w.length≤64:=by
 have z:=firstNZ_zero h0
 have z1:=z _ (List.mem_cons_self ..)
 have z2:=z _ (List.mem_cons_of_mem _ (List.mem_cons_self ..))
 constructor
 ·refine Nat.pos_of_ne_zero fun e=>?_
  rw [e] at z1
  exact absurd z1 (by decide)
 ·refine Nat.le_of_not_lt fun e=>?_
  rw [decide_eq_true (show (w.length:Int) > 64 by omega)] at z2
  exact absurd z2 (by decide)
theorem out_zero {x l m:Int} (h0:outB x l m=0):l≤x∧x≤m:=by
 unfold outB at h0
 by_cases c1:x < l
 ·rw [decide_eq_true c1] at h0;exact absurd (show (3:Int)=0 from h0) (by decide)
 ·by_cases c2:x > m
  ·rw [decide_eq_true c2,Bool.or_true] at h0;exact absurd (show (3:Int)=0 from h0) (by decide)
  ·omega
set_option maxHeartbeats 4000000 in
set_option maxRecDepth 10000 in
theorem k1158 (H:Has tp) (s:SlL encI 1 h v w) (hl:w.length≤1000000) {b:Int} (f:Free0 h.next h):CallW Tryz.prog tp (.func (.func 24) #[] #[]) #[v,zi a,zi b] h fun u h'=>HX h h'∧Ans a (repO w a b) h.next h' u:=by
 refine CallW.fnL (H.fn 24 f1158 rfl rfl) ?_
 refine WL.sr<|WOL.al tp1117 fun h1 N1=>WOL.as rfl<|WOL.nil<|keep [(0,_),(1,_),(2,_),(6,_)] ⟨rfl,rfl,rfl,rfl,trivial⟩ ?_
 have n1:=N1.next
 refine WL.sr<|WOL.mv rfl<|WOL.cl1 rfl rfl ((k1210 H (s.hx N1.hx) hl).mono ?_)
 rintro u h2 ⟨rfl,X2⟩
 refine WOL.mv rfl<|WOL.cl3 rfl rfl rfl rfl ((k72 H a 0 100000000 _).mono ?_)
 rintro u h3 ⟨rfl,rfl⟩
 refine WOL.mv rfl<|WOL.cl3 rfl rfl rfl rfl ((k72 H b 0 4096 _).mono ?_)
 rintro u h4 ⟨rfl,rfl⟩
 refine WOL.mv rfl<|WOL.mv rfl<|WOL.bi (v:=zi (fwrap .i64 (a+b))) rfl rfl rfl<|WOL.bi (v:=.bool (decide (fwrap .i64 (a+b) > 100000000))) rfl rfl rfl<|WOL.cl2 rfl rfl rfl ((k77 H _ _ _).mono ?_)
 rintro u h5 ⟨rfl,rfl⟩
 refine WOL.bsl rfl u166 tp30 (by decide) (by decide) (by decide) (filled_ints4 _ _ _ _) fun h6 N6=>WOL.cl1 rfl rfl ((k71 H (l:=[_,_,_,_]) N6.at_.get (by simp)).mono ?_)
 rintro u h7 ⟨rfl,rfl⟩
 refine WOL.as rfl<|WOL.nil<|keep [(0,_),(1,_),(2,_),(6,_),(8,_)] ⟨rfl,rfl,rfl,rfl,rfl,trivial⟩ ?_
 have X:=X2.trans N6.hx
 have Y:=N1.hx.trans X
 have A6:=N1.at_.hx X
 have yn:=Y.next
 have xn:=X.next
 by_cases h0:repE w a b=0
 ·have eo:repO w a b=(0,repL w b.toNat,[]):=by unfold repO;rw [if_neg (fun c=>c h0)]
  have z:=firstNZ_zero h0
  obtain ⟨w1,w2⟩:=wave_len (z _ (List.mem_cons_self ..))
  obtain ⟨b1,b2⟩:=out_zero (z _ (List.mem_cons_of_mem _ (List.mem_cons_of_mem _ (List.mem_cons_self ..))))
  obtain ⟨n,rfl⟩:∃ n:Nat,b=n:=⟨b.toNat,by omega⟩
  rw [eo,Int.toNat_natCast]
  refine WL.seq<|WL.sr<|WOL.mv rfl<|WOL.bf rfl rfl rfl (bne_eq_false_iff_eq.2 h0)<|WOL.nil<|keep [(0,_),(1,_),(2,_),(6,_),(23,_)] ⟨rfl,rfl,rfl,rfl,rfl,trivial⟩ ?_
  refine WL.no rfl<|WL.skip ?_
  refine WL.sr<|WOL.mv rfl<|WOL.mv rfl<|WOL.mv rfl<|WOL.cl3 rfl rfl rfl rfl ((k1211 (n:=n) H (s.hx Y) w1 hl (by omega) (f.on Y)).mono ?_)
  rintro u h8 ⟨X8,c,rfl,hc,B⟩
  have x8:=X8.next
  have A6':=A6.hx X8
  have l6:=A6.lt
  refine WOL.sto (vs:=[zi a,slA c n,.slice none 0 0]) rfl rfl tp1117 A6' rfl rfl (Nat.le_of_ble_eq_true rfl) rfl (f.hx (Y.trans X8)) (Nat.le_refl _) fun i2 P=>WOL.as rfl<|WOL.nil ?_
  have B':=P.oth _ _ (by omega) B
  rw [cat_I] at B'
  exact WL.ret (WL.endC1 rfl rfl (load_row tp1117 P.at_ rfl (Nat.le_of_ble_eq_true rfl)) ⟨P.hx _ (Y.trans X8) (Nat.le_refl _),a,_,_,rfl,.inr ⟨c,n,_,_,_,by rw [show (repL w n).length=n from repL_len],B'.lt,B'.get⟩,SlL.nil,fun z hz=>(by have:c=z:=Option.some.inj hz;omega),fun z hz=>(by cases hz),.inr ⟨rfl,rfl⟩⟩)
 ·have eo:repO w a b=(repE w a b,[],[]):=by unfold repO;rw [if_pos h0]
  rw [eo]
  refine WL.seq<|WL.sr<|WOL.mv rfl<|WOL.bt rfl rfl rfl (bne_iff_ne.2 h0)<|WOL.nil<|keep [(6,_),(8,_),(23,_)] ⟨rfl,rfl,rfl,trivial⟩ ?_
  refine WL.yes rfl<|WL.sr<|WOL.bd rfl bd1117z<|WOL.mv rfl<|WOL.sto (vs:=[zi 0,.slice none 0 0,.slice none 0 0]) rfl rfl tp1117 A6 rfl rfl (Nat.le_of_ble_eq_true rfl) rfl (f.hx Y) (Nat.le_refl _) fun i1 M1=>WOL.as rfl<|WOL.nil ?_
  exact WL.ret (WL.endC1 rfl rfl (load_row tp1117 M1.at_ rfl (Nat.le_of_ble_eq_true rfl)) ⟨M1.hx _ Y (Nat.le_refl _),Ans.err h0 rfl⟩)
set_option maxHeartbeats 4000000 in
set_option maxRecDepth 10000 in
theorem k1162 (H:Has tp) (s:SlL encI 1 h v w) (hw:0 < w.length) (hl:w.length≤1000000) (hn:n≤4096) (f:Free0 h.next h):CallW Tryz.prog tp (.func (.func 29) #[] #[]) #[v,zi a,zi (n:Nat)] h fun u h'=>HX h h'∧∃ b m k,u=trcV a (.slice b m k) (.slice none 0 0)∧OwnL encI h.next h' (.slice b m k) 3 (repL w n):=by
 refine CallW.fnL (H.fn 29 f1162 rfl rfl) ?_
 refine WL.sr<|WOL.al tp1114 fun h1 N1=>WOL.nil<|keep [(0,_),(1,_),(2,_),(6,_)] ⟨rfl,rfl,rfl,rfl,trivial⟩ ?_
 have n1:=N1.next
 refine WL.sr<|WOL.mv rfl<|WOL.bd rfl bd1114a<|WOL.al tp1114 fun h2 N2=>?_
 have n2:=N2.next
 have X2:=N1.hx.trans N2.hx
 refine WOL.sto (vs:=[zi a,.slice none 0 0,.slice none 0 0]) rfl rfl tp1114 N2.at_ rfl rfl (Nat.le_of_ble_eq_true rfl) rfl (f.hx X2) (by omega) fun h3 P3=>WOL.nil<|keep [(0,_),(2,_),(6,_),(7,_)] ⟨rfl,rfl,rfl,rfl,trivial⟩ ?_
 have n3:=P3.next
 have X3:HX h h3:=P3.hx _ X2 (by omega)
 have A6:=P3.oth _ _ (by omega) (N1.at_.hx N2.hx)
 have A7:At h3 (h.next+1) (.cells [zi a,.slice none 0 0,.slice none 0 0] true true 52):=by rw [← n1];exact P3.at_
 rw [n1]
 refine WL.seq<|WL.sr<|WOL.as rfl<|WOL.nil<|keep [(0,_),(2,_),(6,_),(7,_),(8,_)] ⟨rfl,rfl,rfl,rfl,rfl,trivial⟩ ?_
 refine WL.forz (α:=Value) n (fun j u g=>HX h g∧At g h.next (.cells [zi 0,.slice none 0 0,.slice none 0 0] true true 52)∧At g (h.next+1) (.cells [zi a,u,.slice none 0 0] true true 52)∧OwnL encI (h.next+2) g u 3 ((repL w n).take j)∧h.next+2≤g.next) (fun j _=>[(0,v),(2,zi (n:Nat)),(6,ptr h.next),(7,ptr (h.next+1)),(8,zi (j:Nat))]) (fun j _=>[(0,v),(2,zi (n:Nat)),(6,ptr h.next),(7,ptr (h.next+1)),(8,zi (j:Nat))]) (.slice none 0 0) ⟨X3,A6,A7,.inl ⟨rfl,rfl⟩,by omega⟩ ⟨rfl,rfl,rfl,rfl,rfl,trivial⟩ ?_ ?_ (fun _ _ _=>⟨rfl,rfl,rfl,rfl,rfl,trivial⟩) ?_ ?_
 ·rintro j u g hj q
  exact WOL.mv rfl<|WOL.mv rfl<|WOL.bi rfl rfl rfl<|WOL.nil fun a q=>⟨rfl,q.sub ⟨rfl,rfl,rfl,rfl,rfl,rfl,trivial⟩⟩
 ·rintro j u g hj q
  exact WOL.mv rfl<|WOL.inc rfl (by omega)<|WOL.as rfl<|WOL.nil fun a k=>⟨q,k.sub ⟨rfl,rfl,rfl,rfl,rfl,trivial⟩⟩
 ·rintro j u g hj ⟨X,B6,B7,O,nx⟩
  have lu:=fun z (hz:bl u=some z)=>O.lt hz
  obtain ⟨b,o,cc,fix,wr,el,g1,g2,g3,g4,g5⟩:=(s.hx X).at eI u29 tp3 (rep_at (j:=j) hw) .i64
  refine WL.reg<|WOL.fa rfl (fa_of fo1114_1)<|WOL.ld rfl (load_one tp29 B7 rfl)<|WOL.mv rfl<|WOL.mv rfl<|WOL.mv rfl<|WOL.len rfl (s.hx X) u29<|WOL.rem (m:=((j:Nat):Int)) (n:=((w.length:Nat):Int)) rfl rfl (by omega) (by omega)<|WOL.ix rfl rfl g1<|WOL.ld rfl (load_one tp3 g2 (by have:=g5 0 (by decide);rwa [Nat.add_zero] at this))<|WOL.bs1 rfl u29 tp3 rfl fun i1 M1=>?_
  have m1:=M1.next
  obtain ⟨u',i2,ap,O',x2,y2,b2,m2⟩:=own_push (sT:=24) (x:=w.getD (j % w.length) 0) eI u29 tp3 (O.hx M1.hx) (SlC.own (sz:=1) (m:=1) rfl M1.at_) ((f.hx (X.trans M1.hx)).up (by omega)) (by rw [List.length_take];omega) (by omega)
  obtain ⟨z5,e5⟩:=OwnF.form (Or.inl O')
  have C6:=y2 _ _ (fun e=>by have:=lu _ e;omega) (B6.hx M1.hx)
  have C7:=y2 _ _ (fun e=>by have:=lu _ e;omega) (B7.hx M1.hx)
  have l':=fun z (hz:bl u'=some z)=>O'.lt hz
  have Z:=x2 _ (X.trans M1.hx) (by omega)
  refine WOL.ap rfl rfl ap<|WOL.fa rfl (fa_of fo1114_1)<|WOL.sto (vs:=[u']) rfl rfl tp29 C7 (by rw [e5];rfl) rfl (Nat.le_of_ble_eq_true rfl) (by rw [e5];rfl) (f.hx Z) (by omega) fun i3 M3=>WOL.nil fun x q=>⟨u',⟨M3.hx _ Z (by omega),M3.oth _ _ (by omega) C6,M3.at_,?_,by have:=M3.next;omega⟩,q.sub ⟨rfl,rfl,rfl,rfl,rfl,trivial⟩⟩
  rw [repL_take hj]
  exact O'.keep fun z y hz a=>M3.oth _ _ (by have:=l' z hz;omega) a
 ·rintro u g ⟨X,B6,B7,O,nx⟩
  rw [List.take_of_length_le (by rw [repL_len];omega)] at O
  obtain ⟨z5,e5⟩:=OwnF.form (Or.inl O)
  have lu:=fun z (hz:bl u=some z)=>O.lt hz
  subst e5
  refine WL.sr<|WOL.ld rfl (load_row tp1114 B7 rfl (Nat.le_of_ble_eq_true rfl))<|WOL.sto (vs:=[zi a,_,.slice none 0 0]) rfl rfl tp1114 B6 rfl rfl (Nat.le_of_ble_eq_true rfl) rfl (f.hx X) (Nat.le_refl _) fun i2 P=>WOL.nil ?_
  exact WL.ret (WL.endC rfl (load_row tp1114 P.at_ rfl (Nat.le_of_ble_eq_true rfl)) ⟨P.hx _ X (Nat.le_refl _),_,_,_,rfl,(O.keep fun z y hz a=>P.oth _ _ (by have:=lu z hz;omega) a).low (by omega)⟩)
end
end Go.Tidy
namespace Go.Tidy
open Go Go.Proofs Tab
variable {tp:TProg}
theorem tp1232:Tp Tryz.prog 151 4 [.bool false,.bool false,.bool false,.bool false] true:=tp_of (by kernel_rfl) (by kernel_rfl) rfl
theorem u1231a:Tryz.prog.underlying 150=some (.array 4 3):=by kernel_rfl
theorem u1232a:Tryz.prog.underlying 151=some (.array 4 4):=by kernel_rfl
def zc4:List Value:=[.complex .f64 0 0,.complex .f64 0 0,.complex .f64 0 0,.complex .f64 0 0]
theorem bd1172z:buildT Tryz.prog 27 []=some (.agg zc4.toArray):=by kernel_rfl
theorem zc4_z4:CzL zc4 z4:=num_zero (a:=fun _=>0) (b:=fun _=>0)
theorem sliceT_arr {P:Program} {t e:TypeId} {z:List Value} {row wr:Bool} {n k b:Nat} {h:TH} {cc:List Value} {el:TypeId} (hu:P.underlying t=some (.array k e)) (he:Tp P e n z row) (hb:At h b (.cells cc true wr el)):sliceT P t (.pointer (some ⟨b,0,none⟩)) none none none h=some (.slice (some ⟨b,0,none⟩) k k):=by
 obtain ⟨inf,q1,q2,q3,_⟩:=he.i
 have hcut:cut3 k k none none none=some (0,k,k):=by
  simp only [cut3,show ∀ x y,boundT none x y=some x from fun _ _=>rfl,Option.bind_some,Option.isNone_none,Option.isSome_none,Bool.and_false,Bool.cond_false,Option.map_some]
 simp only [sliceT,hu,hcut,Option.bind_some,q1,hb.get,Nat.zero_mul,Nat.add_zero,Nat.sub_zero]
theorem pv_eq1232 (b0 b1 b2 b3:Bool):pv Tryz.prog (Op.equal 151 (.agg #[.bool b0,.bool b1,.bool b2,.bool b3]) (.agg #[.bool true,.bool true,.bool true,.bool true]))=some (b0 && (b1 && (b2 && (b3 && true)))):=by
 cases b0 <;> cases b1 <;> cases b2 <;> cases b3 <;> kernel_rfl
theorem WOL.ne1232 {h:TH} {K:Regs→TH→Prop} {rest:List TOper} {d:Option Tmp} {ty:TypeId} {i:Nat} {x y:Operand} {u:TypeId} {L:Rg} {b0 b1 b2 b3:Bool} (hx:getL L x=some (.agg #[.bool b0,.bool b1,.bool b2,.bool b3])) (hy:getL L y=some (.agg #[.bool true,.bool true,.bool true,.bool true]))
    (w:∀ r,Kn (putL L d (.bool !(b0 && (b1 && (b2 && (b3 && true)))))) r→WO Tryz.prog tp rest r h K):∀ r,Kn L r→WO Tryz.prog tp (⟨d,.binOp .neq 151 x y u,ty,none,[],i⟩::rest) r h K:=by
  intro r k
  have ex:=getO_eval (k.o hx)
  have ey:=getO_eval (k.o hy)
  refine WO.plainly rfl rfl rfl (by simp [fastOp,fastBin,ex,ey]) (by simp [valueOp,ex,ey,eqT_agg]) (plainOp_of (by rfl) (fun q hq=>?_) ?_ rfl) (w _ (k.put d _))
  · simp only [Op.operands] at hq
    simp at hq
    rcases hq with rfl | rfl
    · rw [ex];rfl
    · rw [ey];rfl
  · show pv Tryz.prog (execOp r.eval ⟨d, .binOp .neq 151 x y u, ty, "", #[], none⟩) = _
    have hg:Tryz.prog.eqGuardType Tryz.prog.depth 151=false:=by kernel_rfl
    simp [execOp,pv_bind,pv_map,pv_pure,pv_program,ex,ey,eqGuard,binOp,pv_eq1232,hg]
theorem take4 {α:Type} {l:List α} {i:Nat} {d:α} (h:i+4≤l.length):(l.drop i).take 4=[l.getD i d,l.getD (i+1) d,l.getD (i+2) d,l.getD (i+3) d]:=by
 have g:∀ k,l.getD (i+k) d=(l.drop i).getD k d:=fun k=>by rw [List.getD_eq_getElem?_getD,List.getD_eq_getElem?_getD,List.getElem?_drop]
 have ln:(l.drop i).length=l.length - i:=List.length_drop ..
 rw [show l.getD i d=l.getD (i+0) d from rfl,g 0,g 1,g 2,g 3]
 match l.drop i,ln with
 | [],e=>exact absurd e (by simp;omega)
 | [_],e=>exact absurd e (by simp;omega)
 | [_,_],e=>exact absurd e (by simp;omega)
 | [_,_,_],e=>exact absurd e (by simp;omega)
 | _::_::_::_::_,_=>rfl
theorem four_ints {L:List Int} {i:Nat} (h:i+4≤L.length):((cat encI L).drop i).take 4=[zi (L.getD (i+0) 0),zi (L.getD (i+1) 0),zi (L.getD (i+2) 0),zi (L.getD (i+3) 0)]:=by
 rw [cat_I,← List.map_drop,← List.map_take,take4 (d:=0) h];rfl
theorem four_known {S:List (Int × Int)} {m i:Nat} (h:i+4≤m):((cat encB (knownL S m)).drop i).take 4=[.bool (knownB S ((i+0:Nat):Int)),.bool (knownB S ((i+1:Nat):Int)),.bool (knownB S ((i+2:Nat):Int)),.bool (knownB S ((i+3:Nat):Int))]:=by
 have g:∀ j,j < m→(knownL S m).getD j false=knownB S (j:Int):=fun j hj=>by
  unfold knownL
  rw [List.getD_eq_getElem?_getD,tbl_get,if_pos hj];rfl
 have e:cat encB (knownL S m)=(knownL S m).map .bool:=by
  generalize knownL S m=B
  induction B with
  | nil=>rfl
  | cons b B ih=>rw [List.map_cons,← ih];rfl
 rw [e,← List.map_drop,← List.map_take,take4 (d:=false) (by rw [knownL_len];exact h),g _ (by omega),g _ (by omega),g _ (by omega),g _ (by omega)];rfl
def panO (n:Int) (L:List Int) (S:List (Int × Int)) (z:Int):List (Int × Int) × Int:=if traceE n L S≠0 then (z4,traceE n L S) else pnlO n L S z
section
variable {h:TH} {n z:Int} {v1 v2:Value} {L:List Int} {S:List (Int × Int)}
set_option maxHeartbeats 8000000 in
set_option maxRecDepth 10000 in
theorem k1159 (H:Has tp) (G:Glob h) (r:TrcH h v1 v2 L S) (hL:L.length≤1000000) (hS:S.length≤1000000) (f:Free0 h.next h):CallW Tryz.prog tp (.func (.func 25) #[] #[]) #[trcV n v1 v2,zi z] h fun v h'=>HX h h'∧∃ cs:List Value,v=.tuple #[.agg cs.toArray,zi (panO n L S z).2]∧CzL cs (panO n L S z).1:=by
 refine CallW.fnL (H.fn 25 f1159 rfl rfl) ?_
 obtain ⟨b1,k1,e1,_⟩:=id r.l
 obtain ⟨b2,k2,e2,_⟩:=id r.s
 subst e1 e2
 refine WL.sr<|WOL.box rfl fun h1 N1=>WOL.al tp1172 fun h2 N2=>WOL.as rfl<|WOL.nil<|keep [(1,_),(2,_),(4,_),(5,_)] ⟨rfl,rfl,rfl,rfl,trivial⟩ ?_
 have q1:=N1.next
 have q2:=N2.next
 have X2:=N1.hx.trans N2.hx
 have A2:At h2 h.next (.cells [zi n,.slice b1 L.length k1,.slice b2 S.length k2] true true 55):=N1.at_.hx N2.hx
 have A4:At h2 h1.next (.cells zc4 true true 27):=N2.at_
 have bad:∀ g,HX h2 g→∀ g2,Put g g2 h1.next (.cells (splice zc4 0 zc4) true true 27)→HX h g2∧At g2 h1.next (.cells zc4 true true 27):=fun g Y g2 P=>⟨P.hx _ (X2.trans Y) (by omega),by
  have:=P.at_
  rwa [show splice zc4 0 zc4=zc4 from rfl] at this⟩
 refine WL.seq<|WL.sr<|WOL.ld rfl (load_row tp1117 A2 rfl (Nat.le_of_ble_eq_true rfl))<|WOL.cl1 rfl rfl ((k1123 (n:=n) H (r.hx X2) hL hS (f.on X2)).mono ?_)
 rintro v h3 ⟨rfl,X3⟩
 refine WOL.as rfl<|WOL.nil<|keep [(1,_),(2,_),(4,_),(5,_),(6,_)] ⟨rfl,rfl,rfl,rfl,rfl,trivial⟩ ?_
 by_cases t0:traceE n L S≠0
 ·have e:panO n L S z=(z4,traceE n L S):=by unfold panO;rw [if_pos t0]
  rw [e]
  refine WL.sr<|WOL.mv rfl<|WOL.bt rfl rfl rfl (bne_iff_ne.2 t0)<|WOL.nil<|WL.yes rfl<|WL.sr<|WOL.bd rfl bd1172z<|WOL.mv rfl<|WOL.sto (vs:=zc4) rfl rfl tp1172 (A4.hx X3) rfl rfl (Nat.le_of_ble_eq_true rfl) rfl (f.hx (X2.trans X3)) (by omega) fun g2 P=>WOL.as rfl<|WOL.nil ?_
  obtain ⟨Z,B⟩:=bad h3 X3 g2 P
  exact WL.ret (WL.endC1 rfl rfl (load_row tp1172 B (l:=zc4) rfl (Nat.le_of_ble_eq_true rfl)) ⟨Z,zc4,rfl,zc4_z4⟩)
 have t1:traceE n L S=0:=Classical.not_not.1 t0
 have eP:panO n L S z=pnlO n L S z:=by unfold panO;rw [if_neg t0]
 rw [eP]
 obtain ⟨⟨n0,n1⟩,lim,hin0,_,m5,n5⟩:=trace_ok t1
 refine WL.sr<|WOL.mv rfl<|WOL.bf rfl rfl rfl (bne_eq_false_iff_eq.2 t1)<|WOL.nil<|WL.no rfl<|WL.skip<|keep [(1,_),(2,_),(4,_),(5,_)] ⟨rfl,rfl,rfl,rfl,trivial⟩ ?_
 have B2:=A2.hx X3
 have B4:=A4.hx X3
 have Y3:=X2.trans X3
 have out10:z < n∨z > n+(L.length:Int) - 4→pnlO n L S z=(z4,10):=fun c=>by unfold pnlO;rw [if_pos c]
 refine WL.seq<|WL.sr<|WOL.mv rfl<|WOL.fa rfl (fa_of fo1117_0)<|WOL.ld rfl (load_one tp3 B2 rfl) ?_
 by_cases c1:z < n
 ·have e:=out10 (.inl c1)
  rw [e]
  refine WOL.bt rfl rfl rfl (decide_eq_true c1)<|WOL.mv rfl<|WOL.skp (b:=true) rfl rfl<|WOL.skp (b:=true) rfl rfl<|WOL.skp (b:=true) rfl rfl<|WOL.skp (b:=true) rfl rfl<|WOL.skp (b:=true) rfl rfl<|WOL.pkt rfl rfl<|WOL.nil<|WL.yes rfl<|WL.sr<|WOL.bd rfl bd1172z<|WOL.sto (vs:=zc4) rfl rfl tp1172 B4 rfl rfl (Nat.le_of_ble_eq_true rfl) rfl (f.hx Y3) (by omega) fun g2 P=>WOL.as rfl<|WOL.nil ?_
  obtain ⟨Z,B⟩:=bad h3 X3 g2 P
  exact WL.ret (WL.endC1 rfl rfl (load_row tp1172 B (l:=zc4) rfl (Nat.le_of_ble_eq_true rfl)) ⟨Z,zc4,rfl,zc4_z4⟩)
 refine WOL.bf rfl rfl rfl (decide_eq_false c1)<|WOL.mv rfl<|WOL.now (b:=false) rfl rfl<|WOL.mv rfl<|WOL.now (b:=false) rfl rfl<|WOL.ld rfl (load_row tp1117 B2 rfl (Nat.le_of_ble_eq_true rfl))<|WOL.now (b:=false) rfl rfl<|WOL.cl1 rfl rfl ((k1183 (n:=n) H (r.hx Y3).l).mono ?_)
 rintro v h4 ⟨rfl,X4⟩
 rw [fwrap_i64 (by omega) (by omega)]
 have Y4:=Y3.trans X4
 replace B2:=B2.hx X4;replace B4:=B4.hx X4
 refine WOL.now (b:=false) rfl rfl<|WOL.sub (m:=n+(L.length:Int)) (n:=4) rfl rfl (by omega) (by omega)<|WOL.now (b:=false) rfl rfl ?_
 by_cases c2:z > n+(L.length:Int) - 4
 ·have e:=out10 (.inr c2)
  rw [e]
  refine WOL.bt rfl rfl rfl (decide_eq_true c2)<|WOL.pkf rfl rfl<|WOL.nil<|WL.yes rfl<|WL.sr<|WOL.bd rfl bd1172z<|WOL.sto (vs:=zc4) rfl rfl tp1172 B4 rfl rfl (Nat.le_of_ble_eq_true rfl) rfl (f.hx Y4) (by omega) fun g2 P=>WOL.as rfl<|WOL.nil ?_
  obtain ⟨Z,B⟩:=bad h4 (X3.trans X4) g2 P
  exact WL.ret (WL.endC1 rfl rfl (load_row tp1172 B (l:=zc4) rfl (Nat.le_of_ble_eq_true rfl)) ⟨Z,zc4,rfl,zc4_z4⟩)
 refine WOL.bf rfl rfl rfl (decide_eq_false c2)<|WOL.pkf rfl rfl<|WOL.nil<|WL.no rfl<|WL.skip<|keep [(1,_),(2,_),(4,_),(5,_)] ⟨rfl,rfl,rfl,rfl,trivial⟩ ?_
 obtain ⟨i0,hi0⟩:∃ i0:Nat,z - n=(i0:Int):=⟨(z - n).toNat,by omega⟩
 have ht:(z - n).toNat=i0:=by omega
 have hi4:i0+4≤L.length:=by omega
 have eo:pnlO n L S z=if fourK S i0=true then (pnL (fun j=>L.getD (i0+j) 0) 4 0,0) else (z4,7):=by
  unfold pnlO
  rw [if_neg (by omega),ht]
 -- the row
 refine WL.sr<|WOL.ld rfl (load_row tp1117 B2 rfl (Nat.le_of_ble_eq_true rfl))<|WOL.cl1 rfl rfl ((k1177 (n:=n) H (r.hx Y4) hL hS (holeE_in hin0) (f.on Y4)).mono ?_)
 rintro v h5 ⟨X5,bv,bk,rfl,hbv,hbk,R⟩
 have Y5:=Y4.trans X5
 have x5:=X5.next
 have y5:=Y5.next
 replace B2:=B2.hx X5;replace B4:=B4.hx X5
 have y4:=Y4.next
 have l4:=B4.lt
 refine WOL.al tp1194 fun h6 N6=>WOL.sto (vs:=[zi n,slA bv L.length,.slice none 0 0,slA bk L.length]) rfl rfl tp1194 N6.at_ rfl rfl (Nat.le_of_ble_eq_true rfl) rfl (f.hx (Y5.trans N6.hx)) (by omega) fun h7 P7=>WOL.nil<|keep [(1,_),(2,_),(4,_),(5,_),(7,_)] ⟨rfl,rfl,rfl,rfl,rfl,trivial⟩ ?_
 have n6:=N6.next
 have n7:=P7.next
 have Z7:HX h5 h7:=P7.hx _ N6.hx (Nat.le_refl _)
 have A7:At h7 h5.next (.cells [zi n,slA bv L.length,.slice none 0 0,slA bk L.length] true true 148):=P7.at_
 have R7:=R.hx Z7
 have lv:=R.v.lt
 have lk:=R.k.lt
 replace B2:=B2.hx Z7;replace B4:=B4.hx Z7
 have Y7:=Y5.trans Z7
 refine WL.sr<|WOL.al tp1231 fun h8 N8=>WOL.nil<|keep [(1,_),(2,_),(4,_),(5,_),(7,_),(8,_)] ⟨rfl,rfl,rfl,rfl,rfl,rfl,trivial⟩ ?_
 have n8:=N8.next
 refine WL.sr<|WOL.al tp1232 fun h9 N9=>WOL.nil<|keep [(1,_),(2,_),(4,_),(5,_),(7,_),(8,_),(9,_)] ⟨rfl,rfl,rfl,rfl,rfl,rfl,rfl,trivial⟩ ?_
 have n9:=N9.next
 have Z9:=N8.hx.trans N9.hx
 have A8:=N8.at_.hx N9.hx
 have A9:=N9.at_
 have R9:=R7.hx Z9
 replace A7:=A7.hx Z9;replace B2:=B2.hx Z9;replace B4:=B4.hx Z9
 have Y9:=Y7.trans Z9
 -- the four values
 obtain ⟨h10,cp,P10⟩:=copy_part (off:=0) (off':=0+i0*1) (k:=4) (d:=4) (cap:=4) (cap':=L.length - i0) (m:=L.length - i0) (n0:=h.next) u29 tp3 A8 R9.v (Nat.min_eq_right (by omega)) (by decide) (by rw [eI.cat_len];omega) (by rw [Nat.zero_add,Nat.mul_one,four_ints hi4];rfl) (f.hx Y9) (by omega)
 refine WL.sr<|WOL.slG rfl rfl rfl rfl (sliceT_arr u1231a tp3 A8)<|WOL.fa rfl (fa_of fo1194_0)<|WOL.fa rfl (fa_of fo1117_1)<|WOL.ld rfl (load_one tp29 A7 rfl)<|WOL.mv rfl<|WOL.fa rfl (fa_of fo1117_0)<|WOL.ld rfl (load_one tp3 B2 rfl)<|WOL.sub (m:=z) (n:=n) rfl rfl (by omega) (by omega) ?_
 rw [hi0]
 refine WOL.slG rfl rfl rfl rfl (sliceT_from u29 tp3 (Nat.le_refl L.length) (by omega) R9.v (.inl rfl))<|WOL.cp rfl rfl cp<|WOL.nil<|keep [(1,_),(2,_),(4,_),(5,_),(7,_),(8,_),(9,_)] ⟨rfl,rfl,rfl,rfl,rfl,rfl,rfl,trivial⟩ ?_
 have n10:=P10.next
 have A8':=P10.at_
 rw [Nat.zero_add,Nat.mul_one,four_ints hi4] at A8'
 replace A8':At h10 h7.next (.cells [zi (L.getD (i0+0) 0),zi (L.getD (i0+1) 0),zi (L.getD (i0+2) 0),zi (L.getD (i0+3) 0)] true true 150):=A8'
 have Y10:HX h h10:=P10.hx _ Y9 (by omega)
 replace A9:=P10.oth _ _ (by omega) A9
 replace A7:=P10.oth _ _ (by omega) A7
 replace B2:=P10.oth _ _ (by omega) B2
 replace B4:=P10.oth _ _ (by omega) B4
 have Rk:=P10.oth _ _ (by omega) R9.k
 -- which are known
 obtain ⟨h11,cp1,P11⟩:=copy_part (off:=0) (off':=0+i0*1) (k:=4) (d:=4) (cap:=4) (cap':=L.length - i0) (m:=L.length - i0) (n0:=h.next) u145 tp4 A9 Rk (Nat.min_eq_right (by omega)) (by decide) (by rw [eB.cat_len,knownL_len];omega) (by rw [Nat.zero_add,Nat.mul_one,four_known hi4];rfl) (f.hx Y10) (by omega)
 refine WL.sr<|WOL.slG rfl rfl rfl rfl (sliceT_arr u1232a tp4 A9)<|WOL.fa rfl (fa_of fo1194_1)<|WOL.ld rfl (load_one tp145 A7 rfl)<|WOL.mv rfl<|WOL.fa rfl (fa_of fo1117_0)<|WOL.ld rfl (load_one tp3 B2 rfl)<|WOL.sub (m:=z) (n:=n) rfl rfl (by omega) (by omega) ?_
 rw [hi0]
 refine WOL.slG rfl rfl rfl rfl (sliceT_from u145 tp4 (Nat.le_refl L.length) (by omega) Rk (.inl rfl))<|WOL.cp rfl rfl cp1<|WOL.nil<|keep [(1,_),(2,_),(4,_),(5,_),(8,_),(9,_)] ⟨rfl,rfl,rfl,rfl,rfl,rfl,trivial⟩ ?_
 have n11:=P11.next
 have A9':=P11.at_
 rw [Nat.zero_add,Nat.mul_one,four_known hi4] at A9'
 replace A9':At h11 h8.next (.cells [.bool (knownB S ((i0+0:Nat):Int)),.bool (knownB S ((i0+1:Nat):Int)),.bool (knownB S ((i0+2:Nat):Int)),.bool (knownB S ((i0+3:Nat):Int))] true true 151):=A9'
 have Y11:HX h h11:=P11.hx _ Y10 (by omega)
 replace A8':=P11.oth _ _ (by omega) A8'
 replace B4:=P11.oth _ _ (by omega) B4
 obtain ⟨eg,Ag⟩:=(G.hx Y11).allKnL
 have y11:=Y11.next
 refine WL.seq<|WL.sr<|WOL.ld rfl (load_row tp1232 A9' (l:=[.bool (knownB S ((i0+0:Nat):Int)),.bool (knownB S ((i0+1:Nat):Int)),.bool (knownB S ((i0+2:Nat):Int)),.bool (knownB S ((i0+3:Nat):Int))]) rfl (Nat.le_of_ble_eq_true rfl))<|WOL.ld rfl (load_row tp1232 Ag (l:=[.bool true,.bool true,.bool true,.bool true]) rfl (Nat.le_of_ble_eq_true rfl))<|WOL.ne1232 rfl rfl<|WOL.nil<|keep [(2,_),(4,_),(5,_),(8,_),(51,_)] ⟨rfl,rfl,rfl,rfl,rfl,trivial⟩ ?_
 have e4:(knownB S ((i0+0:Nat):Int) && (knownB S ((i0+1:Nat):Int) && (knownB S ((i0+2:Nat):Int) && (knownB S ((i0+3:Nat):Int) && true))))=fourK S i0:=rfl
 rw [e4]
 cases hk:fourK S i0 with
 | false =>
  have e:pnlO n L S z=(z4,7):=by rw [eo,hk];rfl
  rw [e]
  refine WL.yes rfl<|WL.sr<|WOL.bd rfl bd1172z<|WOL.sto (vs:=zc4) rfl rfl tp1172 B4 rfl rfl (Nat.le_of_ble_eq_true rfl) rfl (f.hx Y11) (by omega) fun g2 P=>WOL.as rfl<|WOL.nil ?_
  have B:=P.at_
  rw [show splice zc4 0 zc4=zc4 from rfl] at B
  exact WL.ret (WL.endC1 rfl rfl (load_row tp1172 B (l:=zc4) rfl (Nat.le_of_ble_eq_true rfl)) ⟨P.hx _ Y11 (by omega),zc4,rfl,zc4_z4⟩)
 | true =>
  rw [hk,if_pos rfl] at eo
  rw [eo]
  refine WL.no rfl<|WL.skip ?_
  have hX:∀ m,((fun j=>L.getD (i0+j) 0) m).natAbs≤1073741824:=fun m=>by have:=lim (i0+m);show (L.getD (i0+m) 0).natAbs≤_;omega
  refine WL.sr<|WOL.ld rfl (load_row tp1231 A8' (l:=[zi (L.getD (i0+0) 0),zi (L.getD (i0+1) 0),zi (L.getD (i0+2) 0),zi (L.getD (i0+3) 0)]) rfl (Nat.le_of_ble_eq_true rfl))<|WOL.cl1 rfl rfl ((k1212 (X:=fun j=>L.getD (i0+j) 0) H (G.hx Y11) hX (f.on Y11)).mono ?_)
  rintro v h12 ⟨X12,cs,rfl,cz⟩
  have Y12:=Y11.trans X12
  have lcs:cs.length=4:=by rw [cz.1,pnL_len]
  refine WOL.sto (vs:=cs) rfl rfl tp1172 (B4.hx X12) (by show cs.toArray.toList=cs;simp) lcs (Nat.le_of_ble_eq_true rfl) (czl_one cz) (f.hx Y12) (by omega) fun g2 P=>WOL.as rfl<|WOL.nil ?_
  have B:=P.at_
  have es:splice zc4 0 cs=cs:=by
   unfold splice zc4
   rw [List.take_zero,List.nil_append,lcs]
   simp
  rw [es] at B
  exact WL.ret (WL.endC1 rfl rfl (load_row tp1172 B (l:=cs) (by rw [List.drop_zero,← lcs,List.take_length]) (by omega)) ⟨P.hx _ Y12 (by omega),cs,rfl,cz⟩)
end
end Go.Tidy
namespace Go.Tidy
open Go Go.Proofs Tab
variable {tp:TProg}
section
variable {P:Program} {h:TH} {K:Regs→TH→Prop} {rest:List TOper} {d:Option Tmp} {ty:TypeId} {i:Nat} {L:Rg} {f x0 x1 x2 l0:Operand} {ls:List Operand} {fv v0 v1 v2:Value} {ts:Array TypeId}
theorem WOL.lv3 (bs:List (Option Nat)) (hb:(l0::ls).map (fun x=>(getL L x).map blockOf)=bs.map some) (hf:getL L f=some fv) (h0:getL L x0=some v0) (h1:getL L x1=some v1) (h2:getL L x2=some v2) (w:∀ M,(∀ l,l ∈ M→some l ∈ bs∨l ∈ h.lock)→CallW P tp fv #[v0,v1,v2] (h.withLock M) fun v h1=>∀ a,Kn (putL L d v) a→WO P tp rest a (h1.withLock h.lock) K):∀ a,Kn L a→WO P tp (⟨d,.call ⟨.value f,#[x0,x1,x2],ts⟩,ty,none,l0::ls,i⟩::rest) a h K:=fun a k =>
 WO.cons_lock rfl rfl (StepW.call (by rw [getO_eval (k.o hf)];simpa [getO_eval (k.o h0),getO_eval (k.o h1),getO_eval (k.o h2)] using (w _ (lockOf_os _ a bs h.lock (locks_v k hb))).mono fun _ _ q=>k.nx q))
end
theorem u1172a:Tryz.prog.underlying 27=some (.array 4 26):=by kernel_rfl
theorem u1171a:Tryz.prog.underlying 26=some (.complex .f64):=by kernel_rfl
theorem sz1171:pv Tryz.prog (sizeOf 26)=some 1:=by kernel_rfl
theorem WOL.eq1172 {h:TH} {K:Regs→TH→Prop} {rest:List TOper} {d:Option Tmp} {ty:TypeId} {i:Nat} {x y:Operand} {u:TypeId} {L:Rg} {cs ds:List Value} {l:List (Int × Int)} (c1:CzL cs l) (c2:CzL ds l) (hl:l.length=4) (hx:getL L x=some (.agg cs.toArray)) (hy:getL L y=some (.agg ds.toArray))
    (w:∀ r,Kn (putL L d (.bool true)) r→WO Tryz.prog tp rest r h K):∀ r,Kn L r→WO Tryz.prog tp (⟨d,.binOp .eql 27 x y u,ty,none,[],i⟩::rest) r h K:=by
  intro r k
  have ex:=getO_eval (k.o hx)
  have ey:=getO_eval (k.o hy)
  have px:∀ cs:List Value,CzL cs l→plain (.agg cs.toArray)=true:=fun cs c=>by
    show (cs.toArray.toList).all plain0=true
    refine List.all_eq_true.2 fun v hv=>?_
    rw [show cs.toArray.toList=cs by simp] at hv
    obtain ⟨i,hi,e⟩:=List.getElem_of_mem hv
    have h1:cs[i]?=some v:=by rw [List.getElem?_eq_getElem hi,e]
    have hi2:i < l.length:=by rw [← c.1];exact hi
    obtain ⟨a,b,e1,q1,q2⟩:=c.2 i v _ h1 (List.getElem?_eq_getElem hi2)
    rw [e1]
    show (!nanB .f64 a && !nanB .f64 b)=true
    rw [q1.nan64,q2.nan64];rfl
  refine WO.plainly rfl rfl rfl (by simp [fastOp,fastBin,ex,ey]) (by simp [valueOp,ex,ey,eqT_agg]) (plainOp_of (by rfl) (fun q hq=>?_) ?_ rfl) (w _ (k.put d _))
  · simp only [Op.operands] at hq
    simp at hq
    rcases hq with rfl | rfl
    · rw [ex];exact px cs c1
    · rw [ey];exact px ds c2
  · show pv Tryz.prog (execOp r.eval ⟨d, .binOp .eql 27 x y u, ty, "", #[], none⟩) = _
    have hg:Tryz.prog.eqGuardType Tryz.prog.depth 27=false:=by kernel_rfl
    have he:=pv_eqArr (P:=Tryz.prog) u1172a u1171a sz1171 c1 c2 hl hl
    rw [decide_eq_true rfl] at he
    simp [execOp,pv_bind,pv_map,pv_pure,pv_program,ex,ey,eqGuard,binOp,he,hg]
section
variable {h h0:TH} {a n z p e2:Int} {v v1 v2:Value} {w L:List Int} {S:List (Int × Int)} {o:Int × List Int × List (Int × Int)} {l:List (Int × Int)} {cs:List Value} {c4 c5 c7 c9 c13 c14:Nat}
def cd1109d:TCode:=.seq (.reg r1109_12) .ret
set_option maxHeartbeats 4000000 in
set_option maxRecDepth 10000 in
theorem k1109d (H:Has tp) (K:Awk tp) (X0:HX h0 h) (f:Free0 h0.next h0) (l1:o.2.1.length≤1000000) (l2:o.2.2.length≤1000000)
  (C7:CelA 55 a o h c7) (C13:CelA 52 a o h c13) (A9:At h c9 (.cells cs true true 27)) (cz:CzL cs l) (A14:At h c14 (.cells (cat encS l) true true 45)) (hl:l.length=4) (lim:∀ p,p ∈ l→p.1.natAbs < 9007199254740992∧p.2.natAbs < 9007199254740992) :
  ∀ r,Kn [(7,ptr c7),(8,zi o.1),(9,ptr c9),(10,zi e2),(11,zi o.1),(12,zi e2),(13,ptr c13),(14,ptr c14)] r→W Tryz.prog tp false cd1109d r h (Fin Tryz.prog [.tmp 6] fun v _=>v=.bool true):=by
 unfold cd1109d
 obtain ⟨_,_,A,A',_,_,_,_,_,_,_,_,_,_,_,_,_,_,rfl,rfl,w⟩:=celOne H f X0 C7 C13 l1 l2
 refine WL.sr<|WOL.ld rfl (load_row tp1117 A rfl (Nat.le_of_ble_eq_true rfl))<|WOL.mv rfl<|WOL.mv rfl<|WOL.ld rfl (load_row tp1114 A' rfl (Nat.le_of_ble_eq_true rfl))<|WOL.cl4 rfl rfl rfl rfl rfl (w.mono ?_)
 rintro v g5 ⟨rfl,X5⟩
 have lcs:cs.length=4:=by rw [cz.1,hl]
 have Y:=X0.trans X5
 have B9:=A9.hx X5
 have B14:=A14.hx X5
 have t9:=B9.lt
 have lc:(cat encS l).length=8:=by rw [eS.cat_len,hl]
 refine WOL.mv rfl<|WOL.now (b:=true) rfl rfl<|WOL.ld rfl (load_row tp1172 B9 (l:=cs) (by rw [List.drop_zero,← lcs,List.take_length]) (by omega))<|WOL.now (b:=true) rfl rfl<|WOL.ld rfl (load_row tp206 B14 (l:=cat encS l) (by rw [List.drop_zero,← lc,List.take_length]) (by omega))<|WOL.now (b:=true) rfl rfl ?_
 refine WOL.lv1 [some c9] rfl rfl rfl fun M hM=>((k1164 (h:=g5.withLock M) H hl lim ((f.on Y).heldO hM (fun b hb=>by simp at hb;omega))).mono ?_)
 rintro v g6 ⟨X6,ds,rfl,dz⟩
 refine WOL.now (b:=true) rfl rfl<|WOL.eq1172 cz dz hl rfl rfl<|WOL.pkt rfl rfl<|WOL.mv rfl<|WOL.now (b:=true) rfl rfl<|WOL.mv rfl<|WOL.now (b:=true) rfl rfl<|WOL.mv rfl<|WOL.now (b:=true) rfl rfl<|WOL.bt rfl rfl rfl (beq_iff_eq.2 rfl)<|WOL.pkt rfl rfl<|WOL.mv rfl<|WOL.now (b:=true) rfl rfl<|WOL.cl0 rfl ((k11t K _).mono ?_)
 rintro v g8 ⟨rfl,rfl⟩
 exact WOL.pkt rfl rfl<|WOL.as rfl<|WOL.nil<|WL.ret (WL.end_ rfl rfl)
end
end Go.Tidy
namespace Go.Tidy
open Go Go.Proofs Tab
variable {tp:TProg}
theorem ProgR.ok {n e:Int} {C:List (Int × Bool)} {n0:Nat} {g:TH} {v:Value} (r:ProgR n e C n0 g v) (he:e=0) (hb:bigC C=false):∃ bv b2 m2 k2,v=.tuple #[trcV n (slA bv C.length) (.slice b2 m2 k2),zi 0]∧n0≤bv∧TrcO n0 g bv (.slice b2 m2 k2) (valC C) (holesOf (C.map fun c=>c.2)):=by
 rcases r with ⟨h1,_⟩ | ⟨_,h1,_⟩ | ⟨_,_,bv,w,h2,h3,h4⟩
 ·exact absurd he h1
 ·rw [hb] at h1;cases h1
 ·obtain ⟨b2,m2,k2,rfl⟩:=h4.form
  exact ⟨bv,b2,m2,k2,h2,h3,h4⟩
section
variable {h h0:TH} {n:Int} {v1 v2:Value} {L:List Int} {S:List (Int × Int)} {c3 c4 p q z:Nat}
end
end Go.Tidy
namespace Go.Tidy
open Go Go.Proofs Tab
variable {tp:TProg}
theorem ProgR.err {n e:Int} {C:List (Int × Bool)} {n0:Nat} {g:TH} {v:Value} (r:ProgR n e C n0 g v) (he:e≠0):v=.tuple #[trcV 0 (.slice none 0 0) (.slice none 0 0),zi e]:=by
 rcases r with ⟨_,h⟩ | ⟨h,_⟩ | ⟨h,_⟩
 ·exact h
 ·exact absurd h he
 ·exact absurd h he
section
variable {hb h0:TH} {n:Int} {v1 v2 w1 w2 y1 y2:Value} {L1 L2:List Int} {S1 S2:List (Int × Int)} {p j c4 c20 cf k cc wd:Nat} {T:List (Nat × Int)} {lf:List Value} {fix wr:Bool} {Q:Exit→Regs→TH→Prop} {z5 z22:Value}
end
end Go.Tidy
namespace Go.Tidy
open Go Go.Proofs Tab
variable {tp:TProg}
theorem RevR.ok {n p e:Int} {L:List Int} {S:List (Int × Int)} {n0:Nat} {g:TH} {v:Value} (r:RevR n p e L S n0 g v) (he:e=0) (h0:0≤2*p+1 - (n+L.length)) (h1:2*p+1 - (n+L.length)+L.length≤100000000):∃ bv b2 m2 k2,v=.tuple #[trcV (2*p+1 - (n+L.length)) (slA bv L.length) (.slice b2 m2 k2),zi 0]∧n0≤bv∧TrcO n0 g bv (.slice b2 m2 k2) L.reverse (holesOf (knownL S L.length).reverse):=by
 rcases r with ⟨q,_⟩ | ⟨_,q,_⟩ | ⟨_,_,_,bv,w,q2,q3,q4⟩
 ·exact absurd he q
 ·omega
 ·obtain ⟨b2,m2,k2,rfl⟩:=q4.form
  exact ⟨bv,b2,m2,k2,q2,q3,q4⟩
section
variable {h h0:TH} {x y n:Int} {p q c3 c4 c5:Nat} {v1 v2 w1 w2:Value} {L1 L2:List Int} {S1 S2:List (Int × Int)}
end
end Go.Tidy
namespace Go.Tidy
open Go Go.Proofs Tab
variable {tp:TProg}
section
variable {h h0 hb:TH} {a n z p q:Int} {v v1 v2:Value} {w L:List Int} {S:List (Int × Int)} {o:Int × List Int × List (Int × Int)} {cs:List Value} {c4 c5 c7 c9 c13 c14:Nat}
theorem catS_one:∀ l:List (Int × Int),(cat encS l).all oneCell=true
 | []=>rfl
 | p::l=>by
  show ((zi p.1::zi p.2::cat encS l).all oneCell)=true
  rw [List.all_cons,List.all_cons,catS_one l];rfl
theorem z4_lim:∀ p,p ∈ z4→p.1.natAbs < 9007199254740992∧p.2.natAbs < 9007199254740992:=by
 intro p hp
 unfold z4 at hp
 simp only [List.mem_cons,List.not_mem_nil,or_false,or_self] at hp
 subst hp
 exact ⟨by decide,by decide⟩
theorem pnL_lim {X:Nat→Int} (hX:∀ n,(X n).natAbs≤1073741824):∀ p,p ∈ pnL X 4 0→p.1.natAbs < 9007199254740992∧p.2.natAbs < 9007199254740992:=by
 intro p hp
 unfold pnL at hp
 obtain ⟨i,hi,rfl⟩:=List.mem_map.1 hp
 rw [if_pos (List.mem_range.1 hi)]
 obtain ⟨a,b⟩:=pn_lim (k:=i) hX 4
 exact ⟨by show (pnR X i 4).natAbs < _;omega,by show (pnI X i 4).natAbs < _;omega⟩
theorem panO_lim:(panO n L S z).1.length=4∧∀ p,p ∈ (panO n L S z).1→p.1.natAbs < 9007199254740992∧p.2.natAbs < 9007199254740992:=by
  unfold panO
  by_cases t:traceE n L S≠0
  · rw [if_pos t];exact ⟨rfl,z4_lim⟩
  · rw [if_neg t]
    obtain ⟨_,lim,_,_,_,_⟩:=trace_ok (Classical.not_not.1 t)
    unfold pnlO
    by_cases c1:z < n∨z > n+(L.length:Int) - 4
    · rw [if_pos c1];exact ⟨rfl,z4_lim⟩
    · rw [if_neg c1]
      by_cases c2:fourK S (z - n).toNat=true
      · rw [if_pos c2]
        exact ⟨pnL_len,pnL_lim fun m=>by have:=lim ((z - n).toNat+m);show (L.getD ((z - n).toNat+m) 0).natAbs≤_;omega⟩
      · rw [if_neg c2];exact ⟨rfl,z4_lim⟩
def cd1109c:TCode:=.seq (.seq (.reg r1109_10) (.cond (.tmp 62) (.reg r1109_11) .skip)) cd1109d
set_option maxHeartbeats 4000000 in
set_option maxRecDepth 10000 in
theorem k1109c (H:Has tp) (K:Awk tp) (X0:HX h0 h) (f:Free0 h0.next h0) (Xb:HX hb h) (b14:hb.next≤c14) (h14:h0.next≤c14) (l1:o.2.1.length≤1000000) (l2:o.2.2.length≤1000000) (hz1:-9223372036854775808≤z) (hz2:z≤9223372036854775807) (hS:S.length≤1000000)
  (C7:CelA 55 a o hb c7) (C13:∀ g,(∀ b x,b≠c14→At h b x→At g b x)→CelA 52 a o g c13) (A9:At hb c9 (.cells cs true true 27)) (cz:CzL cs (panO n L S z).1) (A14:At h c14 (.cells (cat encS z4) true true 45)) (A4:At hb c4 (.cells [zi n,v1,v2] true true 52)) (A5:At hb c5 (.cells [zi p,zi q,zi z] true true 53)) (r:TrcH hb v1 v2 L S) :
  ∀ r,Kn [(4,ptr c4),(5,ptr c5),(7,ptr c7),(8,zi o.1),(9,ptr c9),(10,zi (panO n L S z).2),(11,zi o.1),(12,zi (traceE n L S)),(13,ptr c13),(14,ptr c14)] r→W Tryz.prog tp false cd1109c r h (Fin Tryz.prog [.tmp 6] fun v _=>v=.bool true):=by
 unfold cd1109c
 obtain ⟨b1,k1,e1,_⟩:=id r.l
 obtain ⟨b2,k2,e2,_⟩:=id r.s
 subst e1 e2
 obtain ⟨pl,plim⟩:=panO_lim (n:=n) (L:=L) (S:=S) (z:=z)
 by_cases t1:traceE n L S=0
 ·have eP:panO n L S z=pnlO n L S z:=by unfold panO;rw [if_neg (fun c=>c t1)]
  refine WL.seq<|WL.sr<|WOL.mv rfl<|WOL.bt rfl rfl rfl (beq_iff_eq.2 t1)<|WOL.nil<|keep [(4,_),(5,_),(7,_),(8,_),(9,_),(10,_),(11,_),(13,_),(14,_),(62,_)] ⟨rfl,rfl,rfl,rfl,rfl,rfl,rfl,rfl,rfl,rfl,trivial⟩ ?_
  refine WL.yes rfl<|WL.reg<|WOL.ld rfl (load_row tp1114 (A4.hx Xb) rfl (Nat.le_of_ble_eq_true rfl))<|WOL.ix rfl rfl ix83_2<|WOL.ld rfl (load_one tp3 (A5.hx Xb) rfl)<|WOL.cl2 rfl rfl rfl ((k1163 (n:=n) (z:=z) H (r.hx Xb) t1 hS hz1 hz2 (f.on X0)).mono ?_)
  rintro v g ⟨X,rfl⟩
  rw [← eP]
  have lc:(cat encS (panO n L S z).1).length=8:=by rw [eS.cat_len,pl]
  have oc:=catS_one (panO n L S z).1
  refine WOL.mv rfl<|WOL.ex rfl rfl<|WOL.ex rfl rfl<|WOL.sto (vs:=cat encS (panO n L S z).1) rfl rfl tp206 (A14.hx X) (by simp [Value.cells]) lc (Nat.le_of_ble_eq_true rfl) oc (f.hx (X0.trans X)) h14 fun g2 P=>WOL.as rfl<|WOL.nil ?_
  have Yb:HX hb g2:=P.hx _ (Xb.trans X) b14
  have B:=P.at_
  have es:splice (cat encS z4) 0 (cat encS (panO n L S z).1)=cat encS (panO n L S z).1:=by
   unfold splice
   rw [List.take_zero,List.nil_append,lc]
   simp [z4_cat]
  rw [es] at B
  exact kto (k1109d H K (P.hx _ (X0.trans X) h14) f l1 l2 (C7.hx Yb) (C13 g2 fun b x hb a=>P.oth _ _ hb (a.hx X)) (A9.hx Yb) cz B pl plim) ⟨rfl,rfl,rfl,rfl,rfl,rfl,rfl,rfl,trivial⟩
 ·have eP:panO n L S z=(z4,traceE n L S):=by unfold panO;rw [if_pos t1]
  refine WL.seq<|WL.sr<|WOL.mv rfl<|WOL.bf rfl rfl rfl (beq_eq_false_iff_ne.2 t1)<|WOL.nil<|keep [(7,_),(8,_),(9,_),(10,_),(11,_),(12,_),(13,_),(14,_),(62,_)] ⟨rfl,rfl,rfl,rfl,rfl,rfl,rfl,rfl,rfl,trivial⟩ ?_
  refine WL.no rfl<|WL.skip ?_
  rw [eP] at cz ⊢
  exact kto (k1109d H K X0 f l1 l2 (C7.hx Xb) (C13 h fun b x _ a=>a) (A9.hx Xb) cz A14 rfl z4_lim) ⟨rfl,rfl,rfl,rfl,rfl,rfl,rfl,rfl,trivial⟩
theorem repO_fst:(repO w p q).1=repE w p q:=by
 unfold repO
 by_cases e:repE w p q≠0
 ·rw [if_pos e]
 ·rw [if_neg e];exact (Classical.not_not.1 e).symm
def cd1109b:TCode:=.seq (.seq (.reg r1109_8) (.cond (.tmp 54) (.reg r1109_9) .skip)) cd1109c
set_option maxHeartbeats 4000000 in
set_option maxRecDepth 10000 in
theorem k1109b (H:Has tp) (K:Awk tp) (X0:HX h0 h) (f:Free0 h0.next h0) (Xb:HX hb h) (b13:hb.next≤c13) (h13:h0.next≤c13) (b14:hb.next≤c14) (h14:h0.next≤c14) (ne:c13≠c14) (hz1:-9223372036854775808≤z) (hz2:z≤9223372036854775807) (hS:S.length≤1000000)
  (C7:CelA 55 p (repO w p q) hb c7) (A13:At h c13 (.cells [zi 0,.slice none 0 0,.slice none 0 0] true true 52)) (A9:At hb c9 (.cells cs true true 27)) (cz:CzL cs (panO n L S z).1) (A14:At h c14 (.cells (cat encS z4) true true 45)) (A4:At hb c4 (.cells [zi n,v1,v2] true true 52)) (A5:At hb c5 (.cells [zi p,zi q,zi z] true true 53)) (r:TrcH hb v1 v2 L S) (s:SlL encI 1 hb v w) :
  ∀ r,Kn [(0,v),(4,ptr c4),(5,ptr c5),(7,ptr c7),(8,zi (repE w p q)),(9,ptr c9),(10,zi (panO n L S z).2),(11,zi (repE w p q)),(12,zi (traceE n L S)),(13,ptr c13),(14,ptr c14)] r→W Tryz.prog tp false cd1109b r h (Fin Tryz.prog [.tmp 6] fun v _=>v=.bool true):=by
 unfold cd1109b
 have l13:=A13.lt
 have l14:=A14.lt
 by_cases t1:repE w p q=0
 ·have eo:repO w p q=(0,repL w q.toNat,[]):=by unfold repO;rw [if_neg (fun c=>c t1)]
  have zz:=firstNZ_zero t1
  obtain ⟨w1,w2⟩:=wave_len (zz _ (List.mem_cons_self ..))
  obtain ⟨q1,q2⟩:=out_zero (zz _ (List.mem_cons_of_mem _ (List.mem_cons_of_mem _ (List.mem_cons_self ..))))
  obtain ⟨m,rfl⟩:∃ m:Nat,q=m:=⟨q.toNat,by omega⟩
  rw [Int.toNat_natCast] at eo
  refine WL.seq<|WL.sr<|WOL.mv rfl<|WOL.bt rfl rfl rfl (beq_iff_eq.2 t1)<|WOL.nil<|keep [(0,_),(4,_),(5,_),(7,_),(8,_),(9,_),(10,_),(11,_),(12,_),(13,_),(14,_),(54,_)] ⟨rfl,rfl,rfl,rfl,rfl,rfl,rfl,rfl,rfl,rfl,rfl,rfl,trivial⟩ ?_
  refine WL.yes rfl<|WL.reg<|WOL.mv rfl<|WOL.ix rfl rfl ix83_0<|WOL.ld rfl (load_one tp3 (A5.hx Xb) rfl)<|WOL.ix rfl rfl ix83_1<|WOL.ld rfl (load_one tp3 (A5.hx Xb) rfl)<|WOL.cl3 rfl rfl rfl rfl ((k1162 (n:=m) (a:=p) H (s.hx Xb) w1 (by omega) (by omega) (f.on X0)).mono ?_)
  rintro v' g ⟨X,b,mm,k,rfl,O⟩
  have x:=X.next
  refine WOL.sto (vs:=[zi p,.slice b mm k,.slice none 0 0]) rfl rfl tp1114 (A13.hx X) rfl rfl (Nat.le_of_ble_eq_true rfl) rfl (f.hx (X0.trans X)) h13 fun g2 P=>WOL.nil ?_
  have Yb:HX hb g2:=P.hx _ (Xb.trans X) b13
  have B14:=P.oth _ _ (Ne.symm ne) (A14.hx X)
  have lo:=fun z (hz:bl (.slice b mm k)=some z)=>(O.lt hz).1
  have I:=ownI_ints O
  have C13:∀ g',(∀ b x,b≠c14→At g2 b x→At g' b x)→CelA 52 p (repO w p (m:Nat)) g' c13:=fun g' kk=>by
   rw [eo]
   exact ⟨p,_,_,_,_,_,_,kk _ _ ne P.at_,(I.keep fun b x hz a=>P.oth _ _ (by have:=lo b hz;omega) a).keep fun b x hz a=>kk _ _ (by have:=lo b hz;omega) a,SlL.nil,.inr ⟨rfl,rfl⟩⟩
  refine kto (k1109c (p:=p) (q:=(m:Nat)) H K (P.hx _ (X0.trans X) h13) f Yb b14 h14 (by rw [eo];show (repL w m).length≤_;rw [repL_len];omega) (by rw [eo];exact Nat.zero_le _) hz1 hz2 hS C7 C13 A9 cz B14 A4 A5 r) ?_
  rw [repO_fst]
  exact ⟨rfl,rfl,rfl,rfl,rfl,rfl,rfl,rfl,rfl,rfl,trivial⟩
 ·have eo:repO w p q=(repE w p q,[],[]):=by unfold repO;rw [if_pos t1]
  refine WL.seq<|WL.sr<|WOL.mv rfl<|WOL.bf rfl rfl rfl (beq_eq_false_iff_ne.2 t1)<|WOL.nil<|keep [(4,_),(5,_),(7,_),(8,_),(9,_),(10,_),(11,_),(12,_),(13,_),(14,_),(54,_)] ⟨rfl,rfl,rfl,rfl,rfl,rfl,rfl,rfl,rfl,rfl,rfl,trivial⟩ ?_
  refine WL.no rfl<|WL.skip ?_
  refine kto (k1109c (p:=p) (q:=q) H K X0 f Xb b14 h14 (by rw [eo];exact Nat.zero_le _) (by rw [eo];exact Nat.zero_le _) hz1 hz2 hS C7 (fun g kk=>by rw [eo];exact CelA.err t1 (kk _ _ ne A13)) A9 cz A14 A4 A5 r) ?_
  rw [repO_fst]
  exact ⟨rfl,rfl,rfl,rfl,rfl,rfl,rfl,rfl,rfl,rfl,trivial⟩
end
end Go.Tidy
namespace Go.Tidy
open Go Go.Proofs Tab
variable {tp:TProg}
section
variable {h:TH} {n z p q:Int} {w9 v1 v2:Value} {w L:List Int} {S:List (Int × Int)}
set_option maxHeartbeats 8000000 in
set_option maxRecDepth 10000 in
theorem k1109 (H:Has tp) (K:Awk tp) (G:Glob h) (s:SlL encI 1 h w9 w) (r:TrcH h v1 v2 L S) (hz1:-9223372036854775808≤z) (hz2:z≤9223372036854775807) (f:Free0 h.next h):CallW Tryz.prog tp (.func (.func 4) #[] #[]) #[w9,trcV n v1 v2,.agg #[zi p,zi q,zi z]] h fun v _=>v=.bool true:=by
 obtain ⟨b1,k1,e1,_⟩:=id r.l
 obtain ⟨b2,k2,e2,_⟩:=id r.s
 obtain ⟨b3,k3,e3,_⟩:=id s
 subst e1 e2 e3
 refine CallW.fnL (H.fn 4 f1109 rfl rfl) ?_
 refine WL.sr<|WOL.box rfl fun h1 N1=>WOL.box rfl fun h2 N2=>WOL.as rfl<|WOL.nil<|keep [(0,_),(4,_),(5,_)] ⟨rfl,rfl,rfl,trivial⟩ ?_
 have q1:=N1.next
 have q2:=N2.next
 have A4:At h2 h.next (.cells [zi n,.slice b1 L.length k1,.slice b2 S.length k2] true true 52):=N1.at_.hx N2.hx
 have A5:At h2 h1.next (.cells [zi p,zi q,zi z] true true 53):=N2.at_
 have X2:=N1.hx.trans N2.hx
 refine WL.seq<|WL.sr<|WOL.mv rfl<|WOL.len rfl (s.hx X2) u29 ?_
 by_cases lw:(w.length:Int) > 65
 ·refine WOL.bt rfl rfl rfl (decide_eq_true lw)<|WOL.mv rfl<|WOL.skp (b:=true) rfl rfl<|WOL.skp (b:=true) rfl rfl<|WOL.skp (b:=true) rfl rfl<|WOL.pkt rfl rfl<|WOL.nil<|WL.yes rfl<|WL.sr<|WOL.cl0 rfl ((k11t K _).mono ?_)
  rintro v h4 ⟨rfl,rfl⟩
  exact WOL.as rfl<|WOL.nil<|WL.ret (WL.end_ rfl rfl)
 refine WOL.bf rfl rfl rfl (decide_eq_false lw)<|WOL.mv rfl<|WOL.now (b:=false) rfl rfl<|WOL.ld rfl (load_row tp1114 A4 rfl (Nat.le_of_ble_eq_true rfl))<|WOL.now (b:=false) rfl rfl<|WOL.cl1 rfl rfl ((k1112 (n:=n) H (r.hx X2)).mono ?_)
 rintro v h3 ⟨rfl,X3⟩
 have Y3:=X2.trans X3
 replace A4:=A4.hx X3;replace A5:=A5.hx X3
 cases hb:shortB2 L.length S.length with
 | false =>
  refine WOL.now (b:=false) rfl rfl<|WOL.nt rfl<|WOL.pkf rfl rfl<|WOL.nil<|WL.yes rfl<|WL.sr<|WOL.cl0 rfl ((k11t K _).mono ?_)
  rintro v h4 ⟨rfl,rfl⟩
  exact WOL.as rfl<|WOL.nil<|WL.ret (WL.end_ rfl rfl)
 | true =>
  obtain ⟨hL,hS⟩:=shortB2_le hb
  refine WOL.now (b:=false) rfl rfl<|WOL.nt rfl<|WOL.pkf rfl rfl<|WOL.nil<|WL.no rfl<|WL.skip<|keep [(0,_),(4,_),(5,_)] ⟨rfl,rfl,rfl,trivial⟩ ?_
  have y3:=Y3.next
  have t4:=A4.lt
  have t5:=A5.lt
  -- repeated
  refine WL.sr<|WOL.mv rfl<|WOL.ix rfl rfl ix83_0<|WOL.ld rfl (load_one tp3 A5 rfl)<|WOL.ix rfl rfl ix83_1<|WOL.ld rfl (load_one tp3 A5 rfl)<|WOL.al tp1117 fun h4 N4=>?_
  have q4:=N4.next
  have Y4:=Y3.trans N4.hx
  refine WOL.lk1 rfl rfl fun M=>((k1136 H ((s.hx Y4).relock M) (by omega)).mono ?_)
  rintro v h5 ⟨X5,b6,m6,k6,rfl,s6,_⟩
  replace X5:=X5.relock
  replace s6:=s6.relock h4.lock
  generalize h5.withLock h4.lock=h5 at *
  have Y5:=Y4.trans X5
  have q5:=X5.next
  refine WOL.lv3 [some h3.next] rfl rfl rfl rfl rfl fun M hM=>((k1158 (h:=h5.withLock M) (a:=p) (b:=q) H (s6.relock M) (by omega) ((f.on Y5).heldO hM (fun b hb=>by simp at hb;omega))).mono ?_)
  rintro v h6 ⟨X6,PA⟩
  obtain ⟨zA,y1A,y2A,rfl,iA,sA,loA,lqA,eA⟩:=PA;obtain ⟨d1A,d2A,d3A,rfl⟩:=ints_form iA;obtain ⟨d4A,d5A,rfl,_⟩:=id sA
  replace X6:=X6.relock
  replace iA:=iA.keep (g':=h6.withLock h5.lock) fun b x _ a=>a.relock _
  replace sA:=slC_keep (h':=h6.withLock h5.lock) sA fun b x _ a=>a.relock _
  replace loA:∀ z,bl (.slice d1A d2A d3A)=some z→h5.next≤z:=loA
  replace lqA:∀ z,bl (.slice d4A _ d5A)=some z→h5.next≤z:=lqA
  generalize h6.withLock h5.lock=h6 at *
  have Y6:=Y5.trans X6
  have q6:=X6.next
  have Z6:=(N4.hx.trans X5).trans X6
  refine WOL.mv rfl<|WOL.ex rfl rfl<|WOL.ex rfl rfl<|WOL.sto (vs:=[zi zA,.slice d1A d2A d3A,.slice d4A _ d5A]) rfl rfl tp1117 ((N4.at_.hx X5).hx X6) rfl rfl (Nat.le_of_ble_eq_true rfl) rfl (f.hx (Y6)) (by omega) fun gA PA=>WOL.as rfl<|WOL.nil<|keep [(0,_),(4,_),(5,_),(7,_),(8,_)] ⟨rfl,rfl,rfl,rfl,rfl,trivial⟩ ?_
  have Z7:HX h3 gA:=PA.hx _ Z6 (Nat.le_refl _)
  have Y7:=Y3.trans Z7
  have C7:CelA 55 p (repO w p q) gA h3.next:=⟨zA,_,_,_,_,_,_,PA.at_,iA.keep fun b x hb a=>PA.oth _ _ (by have:=loA b hb;have:=a.lt;omega) (a),slC_keep sA fun b x hb a=>PA.oth _ _ (by have:=lqA b hb;have:=a.lt;omega) (a),eA⟩
  clear PA
  replace A4:=A4.hx Z7;replace A5:=A5.hx Z7
  have z7:=Z7.next
  generalize gA=h7 at *
  have l7:h3.next < h7.next:=by
   obtain ⟨_,_,_,_,_,_,_,A,_⟩:=C7
   exact A.lt
  -- the panel
  refine WL.sr<|WOL.ld rfl (load_row tp1114 A4 rfl (Nat.le_of_ble_eq_true rfl))<|WOL.ix rfl rfl ix83_2<|WOL.ld rfl (load_one tp3 A5 rfl)<|WOL.al tp1172 fun h8 N8=>?_
  have q8:=N8.next
  have Y8:=Y7.trans N8.hx
  refine WOL.lq1 [h7.next,h1.next] rfl rfl rfl fun M hM=>((k1115 (n:=n) H ((r.hx Y8).relock M) (by omega) (by omega) ((f.on Y8).held hM (fun b hb=>by simp at hb;omega))).mono ?_)
  rintro v h9 ⟨X9,u1,u2,rfl,ru,_,_⟩
  replace X9:=X9.relock
  replace ru:=ru.relock h8.lock
  generalize h9.withLock h8.lock=h9 at *
  have Y9:=Y8.trans X9
  have q9:=X9.next
  refine WOL.lv2 [some h7.next] rfl rfl rfl rfl fun M hM=>((k1159 (h:=h9.withLock M) (n:=n) (z:=z) H ((G.hx Y9).relk M) (ru.relock M) (by omega) (by omega) ((f.on Y9).heldO hM (fun b hb=>by simp at hb;omega))).mono ?_)
  rintro v h10 ⟨X10,cs,rfl,cz⟩
  replace X10:=X10.relock
  generalize h10.withLock h9.lock=h10 at *
  have Y10:=Y9.trans X10
  have q10:=X10.next
  have Z10:=(N8.hx.trans X9).trans X10
  have lcs:cs.length=4:=by rw [cz.1];exact panO_lim.1
  have A9:At h10 h7.next (.cells zc4 true true 27):=(N8.at_.hx X9).hx X10
  refine WOL.mv rfl<|WOL.ex rfl rfl<|WOL.ex rfl rfl<|WOL.sto (vs:=cs) rfl rfl tp1172 A9 (by show cs.toArray.toList=cs;simp) lcs (Nat.le_of_ble_eq_true rfl) (czl_one cz) (f.hx Y10) (by omega) fun h11 P11=>WOL.as rfl<|WOL.nil<|keep [(0,_),(4,_),(5,_),(7,_),(8,_),(9,_),(10,_)] ⟨rfl,rfl,rfl,rfl,rfl,rfl,rfl,trivial⟩ ?_
  have B9:=P11.at_
  rw [show splice zc4 0 cs=cs by
   unfold splice zc4
   rw [List.take_zero,List.nil_append,lcs]
   simp] at B9
  have Z11:HX h7 h11:=P11.hx _ Z10 (Nat.le_refl _)
  have Y11:=Y7.trans Z11
  have q11:=P11.next
  replace C7:=C7.hx Z11
  replace A4:=A4.hx Z11;replace A5:=A5.hx Z11
  -- the errors
  refine WL.sr<|WOL.mv rfl<|WOL.ix rfl rfl ix83_0<|WOL.ld rfl (load_one tp3 A5 rfl)<|WOL.ix rfl rfl ix83_1<|WOL.ld rfl (load_one tp3 A5 rfl)<|WOL.ld rfl (load_row tp1114 A4 rfl (Nat.le_of_ble_eq_true rfl)) ?_
  refine WOL.lk1 rfl rfl fun M=>((k1160 H ((s.hx Y11).relock M) (by omega)).mono ?_)
  rintro v h12 ⟨rfl,X12⟩
  replace X12:=X12.relock
  generalize h12.withLock h11.lock=h12 at *
  refine WOL.lk2 rfl rfl rfl fun M=>((k1161 H p q _).mono ?_)
  rintro v h13 ⟨rfl,X13⟩
  replace X13:=X13.relock
  generalize h13.withLock h12.lock=h13 at *
  refine WOL.bsl rfl u29 tp3 (by decide) (by decide) (by decide) (filled_ints _ _) fun h14 N14=>?_
  refine WOL.lk1 rfl rfl fun M=>((k1118 H (l:=[_,_]) (N14.at_.relock M) (by simp)).mono ?_)
  rintro v h15 ⟨rfl,rfl⟩
  rw [TH.relock]
  have Z14:=(X12.trans X13).trans N14.hx
  have Y14:=Y11.trans Z14
  refine WOL.cl1 rfl rfl ((k1117w (n:=n) H (r.hx Y14) (f.on Y14)).mono ?_)
  rintro v h16 ⟨rfl,X16⟩
  refine WOL.as rfl<|WOL.as rfl<|WOL.nil<|keep [(0,_),(4,_),(5,_),(7,_),(8,_),(9,_),(10,_),(11,_),(12,_)] ⟨rfl,rfl,rfl,rfl,rfl,rfl,rfl,rfl,rfl,trivial⟩ ?_
  rw [show firstNZ [waveE w,placeE p q]=repE w p q from firstB,repO_fst]
  have Z16:=Z14.trans X16
  have Y16:=Y14.trans X16
  have y16:=Y16.next
  replace A4:=A4.hx Z16;replace A5:=A5.hx Z16;replace B9:=B9.hx Z16;replace C7:=C7.hx Z16
  refine WL.sr<|WOL.al tp1114 fun h17 N17=>WOL.nil<|keep [(0,_),(4,_),(5,_),(7,_),(8,_),(9,_),(10,_),(11,_),(12,_),(13,_)] ⟨rfl,rfl,rfl,rfl,rfl,rfl,rfl,rfl,rfl,rfl,trivial⟩ ?_
  have q17:=N17.next
  refine WL.sr<|WOL.al tp206 fun h18 N18=>WOL.nil<|keep [(0,_),(4,_),(5,_),(7,_),(8,_),(9,_),(10,_),(11,_),(12,_),(13,_),(14,_)] ⟨rfl,rfl,rfl,rfl,rfl,rfl,rfl,rfl,rfl,rfl,rfl,trivial⟩ ?_
  have q18:=N18.next
  have Z18:=N17.hx.trans N18.hx
  exact kto (k1109b (p:=p) (q:=q) H K (Y16.trans Z18) f Z18 (Nat.le_refl _) (by omega) (by omega) (by omega) (by omega) hz1 hz2 (by omega) C7 (N17.at_.hx N18.hx) B9 cz N18.at_ A4 A5 (r.hx Y16) (s.hx Y16)) ⟨rfl,rfl,rfl,rfl,rfl,rfl,rfl,rfl,rfl,rfl,rfl,trivial⟩
end
theorem i64_inT {z:Int} (h:(Lit.int .i64 z).wf=true):-9223372036854775808≤z∧z≤9223372036854775807:=by
 have h:(decide (IntKind.i64.min≤z) && decide (z≤IntKind.i64.max))=true:=h
 have e1:IntKind.i64.min=-9223372036854775808:=by decide
 have e2:IntKind.i64.max=9223372036854775807:=by decide
 rw [e1,e2,Bool.and_eq_true] at h
 exact ⟨of_decide_eq_true h.1,of_decide_eq_true h.2⟩
set_option maxRecDepth 100000 in
theorem law1109:LawG tpE 4 5 [24,52,53]:=by
 intro h us f G ha
 obtain ⟨x0,x1,x2,rfl,⟨p0,y0,e0⟩,⟨p1,y1,e1⟩,⟨p2,y2,e2⟩⟩:=args3 ha
 rw [val_agg (.inl ⟨_,Tryz.underlying52⟩)] at e1
 have q2:=tyg_array Tryz.underlying53 y2
 rw [val_agg (.inr ⟨_,_,Tryz.underlying53⟩)] at e2
 obtain ⟨w9,w,rfl,s,_⟩:=tyg_slice eI u29 (fun p y=>by obtain ⟨b,e,_⟩:=ty_int y;exact ⟨b,e⟩) y0
 rw [val_ints] at e0
 obtain ⟨n1,v1,v2,L1,S1,rfl,r1⟩:=ty_trc (n:=1) y1
 obtain ⟨c0,d0,rfl,_,t0,c1,d1,rfl,_,t1,c2,d2,rfl,_,t2,rfl⟩:=q2
 obtain ⟨a,rfl,_⟩:=ty_int t0
 obtain ⟨b,rfl,_⟩:=ty_int t1
 obtain ⟨c,rfl,hc⟩:=ty_int t2
 subst e0 e1 e2
 have lim:=i64_inT hc
 exact k1109 hasE awkE G s r1 lim.1 lim.2 f
end Go.Tidy
