/- A part of the proof. -/
import Derived.Test.YtcfbkkhgmedbfaaGreatDoorPa5
import Derived.Test.YtcfbkkhgmedbfaaGreatDoorPa4
set_option linter.all false
namespace Go.Tidy
open Go Go.Proofs Tab
variable {tp:TProg}
def repL (w:List Int) (n:Nat):List Int:=(List.range n).map fun i=>w.getD (i % w.length) 0
section
variable {h:TH} {v:Value} {w:List Int} {a:Int} {n j:Nat}
theorem repL_len:(repL w n).length=n:=by unfold repL;rw [List.length_map,List.length_range]
theorem repL_get (hj:j < n):(repL w n).getD j 0=w.getD (j % w.length) 0:=by
 unfold repL
 rw [List.getD_eq_getElem?_getD,tbl_get,if_pos hj];rfl
theorem rep_at (hw:0 < w.length):w[j % w.length]?=some (w.getD (j % w.length) 0):=by
 rw [List.getD_eq_getElem?_getD,List.getElem?_eq_getElem (Nat.mod_lt _ hw)];rfl
set_option maxHeartbeats 4000000 in
set_option maxRecDepth 10000 in
theorem k1211 (H:Has tp) (s:SlL encI 1 h v w) (hw:0 < w.length) (hl:w.length≤1000000) (hn:n≤4096) (f:Free0 h.next h):CallW Tryz.prog tp (.func (.func 66) #[] #[]) #[v,zi a,zi (n:Nat)] h fun u h'=>HX h h'∧∃ b,u=trcV a (slA b n) (.slice none 0 0)∧h.next≤b∧At h' b (.cells (cat encI (repL w n)) true true 3):=by
 refine CallW.fnL (H.fn 66 f1211 rfl rfl) ?_
 refine WL.sr<|WOL.al tp1117 fun h1 N1=>WOL.nil<|keep [(0,_),(1,_),(2,_),(6,_)] ⟨rfl,rfl,rfl,rfl,trivial⟩ ?_
 have n1:=N1.next
 refine WL.sr<|WOL.mv rfl<|WOL.ms (m:=n) rfl rfl u29 tp3 (by decide) (by omega) fun h2 N2=>WOL.as rfl<|WOL.nil<|keep [(0,_),(1,_),(2,_),(6,_),(7,_)] ⟨rfl,rfl,rfl,rfl,rfl,trivial⟩ ?_
 have n2:=N2.next
 have W0:=N2.at_
 rw [rep_flat,← cat_rep (enc:=encI) (x:=0) rfl,← upTo_zero (C:=repL w n)] at W0
 refine WL.seq<|WL.sr<|WOL.mv rfl<|WOL.mv rfl<|WOL.nil<|keep [(0,_),(1,_),(6,_),(7,_),(11,_),(12,_)] ⟨rfl,rfl,rfl,rfl,rfl,rfl,trivial⟩ ?_
 refine WL.upto (α:=Unit) n (fun j _ g=>HX h g∧h2.next≤g.next∧At g h.next (.cells [zi 0,.slice none 0 0,.slice none 0 0] true true 57)∧At g h1.next (.cells (cat encI (upTo 0 (repL w n) n j)) true true 3)) (fun _ _=>[(0,v),(1,zi a),(6,ptr h.next),(7,slA h1.next n),(11,zi (n:Nat))]) () rfl rfl (by omega) ⟨N1.hx.trans N2.hx,Nat.le_refl _,N1.at_.hx N2.hx,W0⟩ ⟨rfl,rfl,rfl,rfl,rfl,rfl,trivial⟩ (fun _ _=>rfl) (fun _ _ _=>⟨rfl,rfl,rfl,rfl,rfl,rfl,trivial⟩) (fun _ _ _=>⟨rfl,rfl,rfl,rfl,rfl,rfl,trivial⟩) ?_ ?_
 ·rintro j _ g hj ⟨X,nx,A6,B⟩
  obtain ⟨b,o,cc,fix,wr,el,g1,g2,g3,g4,g5⟩:=(s.hx X).at eI u29 tp3 (rep_at (j:=j) hw) .i64
  refine WL.sr<|WOL.mv rfl<|WOL.as rfl<|WOL.nil<|keep [(0,_),(1,_),(6,_),(7,_),(8,_),(11,_),(12,_)] ⟨rfl,rfl,rfl,rfl,rfl,rfl,rfl,trivial⟩ ?_
  refine WL.reg<|WOL.mv rfl<|WOL.mv rfl<|WOL.mv rfl<|WOL.mv rfl<|WOL.mv rfl<|WOL.len rfl (s.hx X) u29<|WOL.rem (m:=((j:Nat):Int)) (n:=((w.length:Nat):Int)) rfl rfl (by omega) (by omega)<|WOL.ix rfl rfl g1<|WOL.ld rfl (load_one tp3 g2 (by have:=g5 0 (by decide);rwa [Nat.add_zero] at this))<|WOL.ix rfl rfl (indexAddr_tp (j:=j) u29 tp3 hj)<|WOL.sto (vs:=encI (w.getD (j % w.length) 0)) rfl rfl tp3 B rfl rfl (by rw [eI.cat_len,upTo_len];omega) rfl (f.hx X) (by omega) fun i2 P=>WOL.nil fun x q=>⟨(),⟨P.hx _ X (by omega),by have:=P.next;omega,P.oth _ _ (by omega) A6,?_⟩,q.sub ⟨rfl,rfl,rfl,rfl,rfl,rfl,trivial⟩⟩
  have:=P.at_
  rw [Nat.zero_add,eI.set (by rw [upTo_len];omega),← repL_get hj,← upTo_set] at this
  exact this
 ·rintro _ g ⟨X,nx,A6,B⟩
  rw [upTo_all repL_len] at B
  refine WL.sr<|WOL.mv rfl<|WOL.mv rfl<|WOL.bd rfl bd1117a<|WOL.sto (vs:=[zi a,slA h1.next n,.slice none 0 0]) rfl rfl tp1117 A6 rfl rfl (Nat.le_of_ble_eq_true rfl) rfl (f.hx X) (Nat.le_refl _) fun i2 P=>WOL.nil ?_
  exact WL.ret (WL.endC rfl (load_row tp1117 P.at_ rfl (Nat.le_of_ble_eq_true rfl)) ⟨P.hx _ X (Nat.le_refl _),h1.next,rfl,by omega,P.oth _ _ (by omega) B⟩)
theorem wave_len (h0:waveE w=0):0 < w.length∧w.length≤64:=by
 have z:=firstNZ_zero h0
 have z1:=z _ (List.mem_cons_self ..)
 have z2:=z _ (List.mem_cons_of_mem _ (List.mem_cons_self ..))
 constructor
 ·refine Nat.pos_of_ne_zero fun e=>?_
  rw [e] at z1
  exact absurd z1 (by decide)
 ·refine Nat.le_of_not_lt fun e=>?_
  rw [decide_eq_true (show (w.length:Int) > 64 by omega)] at z2
  exact absurd z2 (by decide)
theorem out_zero {x l m:Int} (h0:outB x l m=0):l≤x∧x≤m:=by
 unfold outB at h0
 by_cases c1:x < l
 ·rw [decide_eq_true c1] at h0;exact absurd (show (3:Int)=0 from h0) (by decide)
 ·by_cases c2:x > m
  ·rw [decide_eq_true c2,Bool.or_true] at h0;exact absurd (show (3:Int)=0 from h0) (by decide)
  ·omega
end
end Go.Tidy
namespace Go.Tidy
open Go Go.Proofs Tab
variable {tp:TProg}
def zc4:List Value:=[.complex .f64 0 0,.complex .f64 0 0,.complex .f64 0 0,.complex .f64 0 0]
theorem zc4_z4:CzL zc4 z4:=num_zero (a:=fun _=>0) (b:=fun _=>0)
section
variable {h:TH} {n z:Int} {v1 v2:Value} {L:List Int} {S:List (Int × Int)}
end
end Go.Tidy
namespace Go.Tidy
open Go Go.Proofs Tab
variable {tp:TProg}
section
variable {P:Program} {h:TH} {K:Regs→TH→Prop} {rest:List TOper} {d:Option Tmp} {ty:TypeId} {i:Nat} {L:Rg} {f x0 x1 x2 l0:Operand} {ls:List Operand} {fv v0 v1 v2:Value} {ts:Array TypeId}
theorem WOL.lv3 (bs:List (Option Nat)) (hb:(l0::ls).map (fun x=>(getL L x).map blockOf)=bs.map some) (hf:getL L f=some fv) (h0:getL L x0=some v0) (h1:getL L x1=some v1) (h2:getL L x2=some v2) (w:∀ M,(∀ l,l ∈ M→some l ∈ bs∨l ∈ h.lock)→CallW P tp fv #[v0,v1,v2] (h.withLock M) fun v h1=>∀ a,Kn (putL L d v) a→WO P tp rest a (h1.withLock h.lock) K):∀ a,Kn L a→WO P tp (⟨d,.call ⟨.value f,#[x0,x1,x2],ts⟩,ty,none,l0::ls,i⟩::rest) a h K:=fun a k =>
 WO.cons_lock rfl rfl (StepW.call (by rw [getO_eval (k.o hf)];simpa [getO_eval (k.o h0),getO_eval (k.o h1),getO_eval (k.o h2)] using (w _ (lockOf_os _ a bs h.lock (locks_v k hb))).mono fun _ _ q=>k.nx q))
end
theorem u1172a:Tryz.prog.underlying 27=some (.array 4 26):=by kernel_rfl
theorem u1171a:Tryz.prog.underlying 26=some (.complex .f64):=by kernel_rfl
theorem sz1171:pv Tryz.prog (sizeOf 26)=some 1:=by kernel_rfl
theorem WOL.eq1172 {h:TH} {K:Regs→TH→Prop} {rest:List TOper} {d:Option Tmp} {ty:TypeId} {i:Nat} {x y:Operand} {u:TypeId} {L:Rg} {cs ds:List Value} {l:List (Int × Int)} (c1:CzL cs l) (c2:CzL ds l) (hl:l.length=4) (hx:getL L x=some (.agg cs.toArray)) (hy:getL L y=some (.agg ds.toArray))
    (w:∀ r,Kn (putL L d (.bool true)) r→WO Tryz.prog tp rest r h K):∀ r,Kn L r→WO Tryz.prog tp (⟨d,.binOp .eql 27 x y u,ty,none,[],i⟩::rest) r h K:=by
  intro r k
  have ex:=getO_eval (k.o hx)
  have ey:=getO_eval (k.o hy)
  have px:∀ cs:List Value,CzL cs l→plain (.agg cs.toArray)=true:=fun cs c=>by
    show (cs.toArray.toList).all plain0=true
    refine List.all_eq_true.2 fun v hv=>?_
    rw [show cs.toArray.toList=cs by simp] at hv
    obtain ⟨i,hi,e⟩:=List.getElem_of_mem hv
    have h1:cs[i]?=some v:=by rw [List.getElem?_eq_getElem hi,e]
    have hi2:i < l.length:=by rw [← c.1];exact hi
    obtain ⟨a,b,e1,q1,q2⟩:=c.2 i v _ h1 (List.getElem?_eq_getElem hi2)
    rw [e1]
    show (!nanB .f64 a && !nanB .f64 b)=true
    rw [q1.nan64,q2.nan64];rfl
  refine WO.plainly rfl rfl rfl (by simp [fastOp,fastBin,ex,ey]) (by simp [valueOp,ex,ey,eqT_agg]) (plainOp_of (by rfl) (fun q hq=>?_) ?_ rfl) (w _ (k.put d _))
  · simp only [Op.operands] at hq
    simp at hq
    rcases hq with rfl | rfl
    · rw [ex];exact px cs c1
    · rw [ey];exact px ds c2
  · show pv Tryz.prog (execOp r.eval ⟨d, .binOp .eql 27 x y u, ty, "", #[], none⟩) = _
    have hg:Tryz.prog.eqGuardType Tryz.prog.depth 27=false:=by kernel_rfl
    have he:=pv_eqArr (P:=Tryz.prog) u1172a u1171a sz1171 c1 c2 hl hl
    rw [decide_eq_true rfl] at he
    simp [execOp,pv_bind,pv_map,pv_pure,pv_program,ex,ey,eqGuard,binOp,he,hg]
section
variable {h h0:TH} {a n z p e2:Int} {v v1 v2:Value} {w L:List Int} {S:List (Int × Int)} {o:Int × List Int × List (Int × Int)} {l:List (Int × Int)} {cs:List Value} {c4 c5 c7 c9 c13 c14:Nat}
end
end Go.Tidy
namespace Go.Tidy
open Go Go.Proofs Tab
variable {tp:TProg}
theorem ProgR.ok {n e:Int} {C:List (Int × Bool)} {n0:Nat} {g:TH} {v:Value} (r:ProgR n e C n0 g v) (he:e=0) (hb:bigC C=false):∃ bv b2 m2 k2,v=.tuple #[trcV n (slA bv C.length) (.slice b2 m2 k2),zi 0]∧n0≤bv∧TrcO n0 g bv (.slice b2 m2 k2) (valC C) (holesOf (C.map fun c=>c.2)):=by
 rcases r with ⟨h1,_⟩ | ⟨_,h1,_⟩ | ⟨_,_,bv,w,h2,h3,h4⟩
 ·exact absurd he h1
 ·rw [hb] at h1;cases h1
 ·obtain ⟨b2,m2,k2,rfl⟩:=h4.form
  exact ⟨bv,b2,m2,k2,h2,h3,h4⟩
section
variable {h h0:TH} {n:Int} {v1 v2:Value} {L:List Int} {S:List (Int × Int)} {c3 c4 p q z:Nat}
end
end Go.Tidy
namespace Go.Tidy
open Go Go.Proofs Tab
variable {tp:TProg}
theorem RevR.ok {n p e:Int} {L:List Int} {S:List (Int × Int)} {n0:Nat} {g:TH} {v:Value} (r:RevR n p e L S n0 g v) (he:e=0) (h0:0≤2*p+1 - (n+L.length)) (h1:2*p+1 - (n+L.length)+L.length≤100000000):∃ bv b2 m2 k2,v=.tuple #[trcV (2*p+1 - (n+L.length)) (slA bv L.length) (.slice b2 m2 k2),zi 0]∧n0≤bv∧TrcO n0 g bv (.slice b2 m2 k2) L.reverse (holesOf (knownL S L.length).reverse):=by
 rcases r with ⟨q,_⟩ | ⟨_,q,_⟩ | ⟨_,_,_,bv,w,q2,q3,q4⟩
 ·exact absurd he q
 ·omega
 ·obtain ⟨b2,m2,k2,rfl⟩:=q4.form
  exact ⟨bv,b2,m2,k2,q2,q3,q4⟩
section
variable {h h0:TH} {x y n:Int} {p q c3 c4 c5:Nat} {v1 v2 w1 w2:Value} {L1 L2:List Int} {S1 S2:List (Int × Int)}
end
end Go.Tidy
namespace Go.Tidy
open Go Go.Proofs Tab
variable {tp:TProg}
section
variable {h h0 hb:TH} {a n z p q:Int} {v v1 v2:Value} {w L:List Int} {S:List (Int × Int)} {o:Int × List Int × List (Int × Int)} {cs:List Value} {c4 c5 c7 c9 c13 c14:Nat}
theorem catS_one:∀ l:List (Int × Int),(cat encS l).all oneCell=true
 | []=>rfl
 | p::l=>by
  show ((zi p.1::zi p.2::cat encS l).all oneCell)=true
  rw [List.all_cons,List.all_cons,catS_one l];rfl
end
end Go.Tidy
namespace Go.Tidy
open Go Go.Proofs Tab
variable {tp:TProg}
def blind (p q k:Nat):Bool:=cond (((p:Nat):Int) % ((k:Nat):Int) == 0) (((q:Nat):Int) % ((k:Nat):Int) == 0) false
def blP (p q:Nat):Nat→List Int
 | 0=>[]
 | j+1=>if 2≤j∧blind p q j=true then blP p q j ++ [((j:Nat):Int)] else blP p q j
theorem blP_len {p q:Nat}:∀ j,(blP p q j).length≤j
 | 0=>Nat.le_refl _
 | j+1=>by
  have:=blP_len (p:=p) (q:=q) j
  unfold blP
  by_cases c:2≤j∧blind p q j=true
  ·rw [if_pos c,List.length_append];show (blP p q j).length+1≤_;omega
  ·rw [if_neg c];omega
section
variable {h:TH} {p q k:Nat} {a b:Int}
theorem k1219 (H:Has tp) (hk:0 < k):CallW Tryz.prog tp (.func (.func 63) #[] #[]) #[.agg #[zi (p:Nat),zi (q:Nat)],zi (k:Nat)] h fun v h'=>v=.bool (blind p q k)∧HX h h':=by
 refine CallW.fnL (H.fn 63 f1219 rfl rfl) ?_
 refine WL.sr<|WOL.box rfl fun h1 N1=>WOL.as rfl<|WOL.nil<|keep [(1,_),(2,_)] ⟨rfl,rfl,trivial⟩ ?_
 have A2:At h1 h.next (.cells [zi (p:Nat),zi (q:Nat)] true true 31):=N1.at_
 refine WL.sr<|WOL.fa rfl (fa_of fo1128_0)<|WOL.ld rfl (load_one tp3 A2 rfl)<|WOL.mv rfl<|WOL.rem (m:=((p:Nat):Int)) (n:=((k:Nat):Int)) rfl rfl (by omega) (by omega)<|WOL.bi (v:=.bool (((p:Nat):Int) % ((k:Nat):Int) == 0)) rfl rfl rfl<|WOL.mv rfl ?_
 unfold blind
 cases (((p:Nat):Int) % ((k:Nat):Int) == 0) with
 | true =>
  refine WOL.now (b:=true) rfl rfl<|WOL.fa rfl (fa_of fo1128_1)<|WOL.now (b:=true) rfl rfl<|WOL.ld rfl (load_one tp3 A2 rfl)<|WOL.now (b:=true) rfl rfl<|WOL.mv rfl<|WOL.now (b:=true) rfl rfl<|WOL.rem (m:=((q:Nat):Int)) (n:=((k:Nat):Int)) rfl rfl (by omega) (by omega)<|WOL.now (b:=true) rfl rfl<|WOL.bi (v:=.bool (((q:Nat):Int) % ((k:Nat):Int) == 0)) rfl rfl rfl<|WOL.pkt rfl rfl<|WOL.as rfl<|WOL.nil ?_
  exact WL.ret (WL.end_ rfl ⟨rfl,N1.hx⟩)
 | false =>
  refine WOL.skp (b:=false) rfl rfl<|WOL.skp (b:=false) rfl rfl<|WOL.skp (b:=false) rfl rfl<|WOL.skp (b:=false) rfl rfl<|WOL.skp (b:=false) rfl rfl<|WOL.pkf rfl rfl<|WOL.as rfl<|WOL.nil ?_
  exact WL.ret (WL.end_ rfl ⟨rfl,N1.hx⟩)
set_option maxHeartbeats 4000000 in
set_option maxRecDepth 10000 in
theorem k1216 (H:Has tp) (f:Free0 h.next h):CallW Tryz.prog tp (.func (.func 57) #[] #[]) #[.agg #[zi (p:Nat),zi (q:Nat)]] h fun v h'=>HX h h'∧OwnL encI h.next h' v 3 (blP p q 33):=by
  refine CallW.fnL (H.fn 57 f1216 rfl rfl) ?_
  refine WL.sr<|WOL.box rfl fun h1 N1=>WOL.as rfl<|WOL.nil<|keep [(1,_)] ⟨rfl,trivial⟩ ?_
  have n1:=N1.next
  have A1:At h1 h.next (.cells [zi (p:Nat),zi (q:Nat)] true true 31):=N1.at_
  refine WL.sr<|WOL.as rfl<|WOL.nil<|keep [(1,_),(3,_)] ⟨rfl,rfl,trivial⟩ ?_
  refine WL.seq<|WL.sr<|WOL.mv rfl<|WOL.nil<|keep [(1,_),(3,_),(5,_)] ⟨rfl,rfl,rfl,trivial⟩ ?_
  refine WL.upto (α:=Value) 33 (fun j u g=>HX h1 g∧OwnL encI h1.next g u 3 (blP p q j)) (fun _ u=>[(1,ptr h.next),(3,u)]) (.slice none 0 0) rfl rfl (by decide) ⟨HX.refl _,.inl ⟨rfl,rfl⟩⟩ ⟨rfl,rfl,rfl,trivial⟩ (fun _ _=>rfl) (fun _ _ _=>⟨rfl,rfl,rfl,trivial⟩) (fun _ _ _=>⟨rfl,rfl,rfl,trivial⟩) ?_ ?_
  · rintro j u g hj ⟨X,O⟩
    have ll:=blP_len (p:=p) (q:=q) j
    have xg:=X.next
    have Y:=N1.hx.trans X
    refine WL.sr<|WOL.mv rfl<|WOL.as rfl<|WOL.nil<|keep [(1,_),(3,_),(4,_),(5,_)] ⟨rfl,rfl,rfl,rfl,trivial⟩ ?_
    have skip:¬(2≤j∧blind p q j=true)→blP p q (j+1)=blP p q j:=fun c=>by
      show (if 2≤j∧blind p q j=true then _ else _)=_
      rw [if_neg c]
    by_cases c1:2≤j
    · refine WL.sr<|WOL.mv rfl<|WOL.bt rfl rfl rfl (decide_eq_true (by omega))<|WOL.mv rfl<|WOL.now (b:=true) rfl rfl<|WOL.ld rfl (load_row tp1128 (A1.hx X) rfl (Nat.le_of_ble_eq_true rfl))<|WOL.now (b:=true) rfl rfl<|WOL.mv rfl<|WOL.now (b:=true) rfl rfl<|WOL.cl2 rfl rfl rfl ((k1219 (k:=j) H (by omega)).mono ?_)
      rintro v g2 ⟨rfl,X2⟩
      have Z:=X.trans X2
      have zn:=Z.next
      refine WOL.pkt rfl rfl<|WOL.nil<|keep [(1,_),(3,_),(4,_),(5,_),(14,_)] ⟨rfl,rfl,rfl,rfl,rfl,trivial⟩ ?_
      cases hb:blind p q j with
      | true =>
        have e:blP p q (j+1)=blP p q j ++ [((j:Nat):Int)]:=by
          show (if 2≤j∧blind p q j=true then _ else _)=_
          rw [if_pos ⟨c1,hb⟩]
        refine WL.yes rfl<|WL.reg<|WOL.mv rfl<|WOL.mv rfl<|WOL.bs1 rfl u29 tp3 rfl fun i1 M1=>?_
        have m1:=M1.next
        obtain ⟨w',i2,ap,O',x2,_⟩:=own_push (sT:=24) (x:=((j:Nat):Int)) eI u29 tp3 ((O.hx X2).hx M1.hx) (SlC.own (sz:=1) (m:=1) rfl M1.at_) ((f.hx ((N1.hx.trans Z).trans M1.hx)).up (by omega)) (by omega) (by omega)
        refine WOL.ap rfl rfl ap<|WOL.as rfl<|WOL.nil fun y k=>⟨w',⟨x2 _ (Z.trans M1.hx) (Nat.le_refl _),?_⟩,k.sub ⟨rfl,rfl,rfl,trivial⟩⟩
        rw [e];exact O'
      | false =>
        refine WL.no rfl<|WL.skip fun y k=>⟨u,⟨Z,?_⟩,k.sub ⟨rfl,rfl,rfl,trivial⟩⟩
        rw [skip (fun c=>by rw [hb] at c;exact absurd c.2 (by decide))]
        exact O.hx X2
    · refine WL.sr<|WOL.mv rfl<|WOL.bf rfl rfl rfl (decide_eq_false (by omega))<|WOL.mv rfl<|WOL.skp (b:=false) rfl rfl<|WOL.skp (b:=false) rfl rfl<|WOL.skp (b:=false) rfl rfl<|WOL.pkf rfl rfl<|WOL.nil<|WL.no rfl<|WL.skip fun y k=>⟨u,⟨X,?_⟩,k.sub ⟨rfl,rfl,rfl,trivial⟩⟩
      rw [skip (fun c=>c1 c.1)]
      exact O
  · rintro u g ⟨X,O⟩
    have xn:=N1.hx.next
    exact WL.sr<|WOL.mv rfl<|WOL.as rfl<|WOL.nil<|WL.ret (WL.end_ rfl ⟨N1.hx.trans X,O.low xn⟩)
end
end Go.Tidy
namespace Go.Tidy
open Go Go.Proofs Tab
variable {tp:TProg}
def boL (p q r s:Nat):Nat→List Int
 | 0=>[]
 | j+1=>if (blind p q (j+2) && blind r s (j+2))=true then boL p q r s j ++ [((j+2:Nat):Int)] else boL p q r s j
theorem boL_len {p q r s:Nat}:∀ j,(boL p q r s j).length≤j
 | 0=>Nat.le_refl _
 | j+1=>by
  have:=boL_len (p:=p) (q:=q) (r:=r) (s:=s) j
  unfold boL
  by_cases c:(blind p q (j+2) && blind r s (j+2))=true
  ·rw [if_pos c,List.length_append];show (boL p q r s j).length+1≤_;omega
  ·rw [if_neg c];omega
section
variable {h:TH} {p q r s:Nat} {a b:Int}
theorem k1195b (H:Has tp) (f:Free0 h.next h) :
  CallW Tryz.prog tp (.func (.func 56) #[] #[]) #[.agg #[zi a,zi b],.func (.func 57) #[] #[]] h fun v h'=>HX h h'∧LisR (chordE a b) (blP a.toNat b.toNat 33) h.next h' v:=by
 refine CallW.fnL (H.fn 56 f1195 rfl rfl) ?_
 refine WL.sr<|WOL.box rfl fun h1 N1=>WOL.as rfl<|WOL.as rfl<|WOL.nil<|keep [(1,_),(2,_)] ⟨rfl,rfl,trivial⟩ ?_
 have q1:=N1.next
 have A2:At h1 h.next (.cells [zi a,zi b] true true 31):=N1.at_
 refine WL.seq<|WL.sr<|WOL.ld rfl (load_row tp1128 A2 rfl (Nat.le_of_ble_eq_true rfl))<|WOL.cl1 rfl rfl ((k1121 H a b _).mono ?_)
 rintro v h2 ⟨rfl,X2⟩
 have Y2:=N1.hx.trans X2
 have y2:=Y2.next
 replace A2:=A2.hx X2
 refine WOL.as rfl<|WOL.nil<|keep [(1,_),(2,_),(6,_)] ⟨rfl,rfl,rfl,trivial⟩ ?_
 by_cases e0:chordE a b≠0
 ·refine WL.sr<|WOL.mv rfl<|WOL.bt rfl rfl rfl (bne_iff_ne.2 e0)<|WOL.nil<|WL.yes rfl<|WL.sr<|WOL.al tp29 fun h3 N3=>WOL.nc rfl<|WOL.ld rfl (load_one tp29 N3.at_ rfl)<|WOL.mv rfl<|WOL.as rfl<|WOL.as rfl<|WOL.nil ?_
  exact WL.ret (WL.end_ rfl ⟨Y2.trans N3.hx,_,_,_,rfl,by rw [if_pos e0];exact .inl ⟨rfl,rfl⟩,fun z hz=>(by cases hz)⟩)
 have e0:chordE a b=0:=Classical.not_not.1 e0
 obtain ⟨p1,p2,p3,p4⟩:=chord_ok e0
 rw [e0]
 obtain ⟨p,rfl⟩:∃ p:Nat,a=p:=⟨a.toNat,by omega⟩
 obtain ⟨q,rfl⟩:∃ q:Nat,b=q:=⟨b.toNat,by omega⟩
 rw [Int.toNat_natCast,Int.toNat_natCast]
 refine WL.sr<|WOL.mv rfl<|WOL.bf rfl rfl rfl rfl<|WOL.nil<|WL.no rfl<|WL.skip ?_
 refine WL.sr<|WOL.mv rfl<|WOL.ld rfl (load_row tp1128 A2 rfl (Nat.le_of_ble_eq_true rfl))<|WOL.cl1 rfl rfl ((k1216 (p:=p) (q:=q) H (f.on Y2)).mono ?_)
 rintro v h3 ⟨X3,O⟩
 obtain ⟨bo,e5⟩:=OwnF.form (Or.inl O)
 have lo:=fun z (hz:bl v=some z)=>(O.lt hz).1
 subst e5
 exact WOL.as rfl<|WOL.as rfl<|WOL.nil<|WL.ret (WL.end_ rfl ⟨Y2.trans X3,_,_,_,rfl,by rw [if_neg (by decide)];exact ownI_ints O,fun z hz=>by have:=lo z hz;omega⟩)
theorem k1171 (H:Has tp) (f:Free0 h.next h) :
  CallW Tryz.prog tp (.func (.func 8) #[] #[]) #[.agg #[zi a,zi b]] h fun v h'=>HX h h'∧LisR (chordE a b) (blP a.toNat b.toNat 33) h.next h' v:=by
 refine CallW.fnL (H.fn 8 f1171 rfl rfl) ?_
 refine WL.sr<|WOL.box rfl fun h1 N1=>WOL.as rfl<|WOL.as rfl<|WOL.nil<|keep [(1,_)] ⟨rfl,trivial⟩ ?_
 have q1:=N1.next
 have A1:At h1 h.next (.cells [zi a,zi b] true true 31):=N1.at_
 refine WL.sr<|WOL.ld rfl (load_row tp1128 A1 rfl (Nat.le_of_ble_eq_true rfl))<|WOL.cl2 rfl rfl rfl ((k1195b H (f.on N1.hx)).mono ?_)
 rintro v h2 ⟨X2,b',m,c,rfl,i,l⟩
 exact WOL.ex rfl rfl<|WOL.ex rfl rfl<|WOL.as rfl<|WOL.as rfl<|WOL.nil<|WL.ret (WL.end_ rfl ⟨N1.hx.trans X2,_,_,_,rfl,i,fun z hz=>by have:=l z hz;omega⟩)
set_option maxHeartbeats 8000000 in
set_option maxRecDepth 10000 in
theorem k1241 (H:Has tp) (f:Free0 h.next h):CallW Tryz.prog tp (.func (.func 18) #[] #[]) #[.agg #[zi (p:Nat),zi (q:Nat)],.agg #[zi (r:Nat),zi (s:Nat)]] h fun v h'=>HX h h'∧OwnL encI h.next h' v 3 (boL p q r s 31):=by
  refine CallW.fnL (H.fn 18 f1241 rfl rfl) ?_
  refine WL.sr<|WOL.box rfl fun h1 N1=>WOL.box rfl fun h2 N2=>WOL.as rfl<|WOL.nil<|keep [(2,_),(3,_)] ⟨rfl,rfl,trivial⟩ ?_
  have n1:=N1.next
  have n2:=N2.next
  have A2:At h2 h.next (.cells [zi (p:Nat),zi (q:Nat)] true true 23):=N1.at_.hx N2.hx
  have A3:At h2 h1.next (.cells [zi (r:Nat),zi (s:Nat)] true true 23):=N2.at_
  have X2:=N1.hx.trans N2.hx
  refine WL.sr<|WOL.as rfl<|WOL.nil<|keep [(2,_),(3,_),(5,_)] ⟨rfl,rfl,rfl,trivial⟩ ?_
  refine WL.seq<|WL.sr<|WOL.as rfl<|WOL.nil<|keep [(2,_),(3,_),(5,_),(6,_)] ⟨rfl,rfl,rfl,rfl,trivial⟩ ?_
  refine WL.fori (α:=Value) 31 (fun j u g=>HX h2 g∧OwnL encI h2.next g u 3 (boL p q r s j)) (fun j u=>[(2,ptr h.next),(3,ptr h1.next),(5,u),(6,zi ((j+2:Nat):Int))]) (fun j u=>[(2,ptr h.next),(3,ptr h1.next),(5,u),(6,zi ((j+2:Nat):Int))]) (.slice none 0 0) ⟨HX.refl _,.inl ⟨rfl,rfl⟩⟩ ⟨rfl,rfl,rfl,rfl,trivial⟩ ?_ ?_ (fun _ _ _=>⟨rfl,rfl,rfl,rfl,trivial⟩) ?_ ?_
  · rintro j u g hj _
    refine WOL.mv rfl<|WOL.bi (v:=.bool (decide (j < 31))) rfl rfl ?_<|WOL.nil fun x q=>⟨rfl,q.sub ⟨rfl,rfl,rfl,rfl,rfl,trivial⟩⟩
    show some (Value.bool (decide (((j+2:Nat):Int)≤32)))=_
    rw [show decide (((j+2:Nat):Int)≤32)=decide (j < 31) from decide_eq_decide.2 (by omega)]
  · rintro j u g hj q
    exact WOL.mv rfl<|WOL.inc (j:=j+2) rfl (by omega)<|WOL.as rfl<|WOL.nil fun x k=>⟨q,k.sub ⟨rfl,rfl,rfl,rfl,trivial⟩⟩
  · rintro j u g hj ⟨X,O⟩
    have ll:=boL_len (p:=p) (q:=q) (r:=r) (s:=s) j
    have B2:=A2.hx X
    have B3:=A3.hx X
    have xg:=X.next
    have skip:(blind p q (j+2) && blind r s (j+2))=false→boL p q r s (j+1)=boL p q r s j:=fun c=>by
      show (if (blind p q (j+2) && blind r s (j+2))=true then _ else _)=_
      rw [if_neg (by rw [c];decide)]
    have no:(blind p q (j+2) && blind r s (j+2))=false→∀ a,Kn [(2,ptr h.next),(3,ptr h1.next),(5,u),(6,zi ((j+2:Nat):Int))] a→∃ x,(HX h2 g∧OwnL encI h2.next g x 3 (boL p q r s (j+1)))∧Kn [(2,ptr h.next),(3,ptr h1.next),(5,x),(6,zi ((j+2:Nat):Int))] a:=fun c a k=>⟨u,⟨X,by rw [skip c];exact O⟩,k⟩
    refine WL.sr<|WOL.fa rfl (fa_of fo1112_0)<|WOL.ld rfl (load_one tp3 B2 rfl)<|WOL.mv rfl<|WOL.rem (m:=((p:Nat):Int)) (n:=((j+2:Nat):Int)) rfl rfl (by omega) (by omega)<|WOL.bi (v:=.bool (((p:Nat):Int) % ((j+2:Nat):Int) == 0)) rfl rfl rfl<|WOL.mv rfl ?_
    cases e1:(((p:Nat):Int) % ((j+2:Nat):Int) == 0) with
    | false =>
      repeat' (first
    | (refine WOL.mv rfl ?_)
    | refine WOL.now (b:=true) rfl rfl ?_ | refine WOL.now (b:=false) rfl rfl ?_
    | refine WOL.skp (b:=true) rfl rfl ?_ | refine WOL.skp (b:=false) rfl rfl ?_ | refine WOL.gu rfl rfl ?_
    | refine WOL.mv rfl ?_ | refine WOL.as rfl ?_
    | refine WOL.bi rfl rfl rfl ?_ | refine WOL.nt rfl ?_
    | refine WOL.pkt rfl rfl ?_ | refine WOL.pkf rfl rfl ?_)
      refine WOL.nil<|WL.no rfl<|WL.skip fun a k=>no (by unfold blind;rw [e1];rfl) a (k.sub ⟨rfl,rfl,rfl,rfl,trivial⟩)
    | true =>
      refine WOL.now (b:=true) rfl rfl<|WOL.fa rfl (fa_of fo1112_1)<|WOL.now (b:=true) rfl rfl<|WOL.ld rfl (load_one tp3 B2 rfl)<|WOL.now (b:=true) rfl rfl<|WOL.mv rfl<|WOL.now (b:=true) rfl rfl<|WOL.rem (m:=((q:Nat):Int)) (n:=((j+2:Nat):Int)) rfl rfl (by omega) (by omega)<|WOL.now (b:=true) rfl rfl<|WOL.bi (v:=.bool (((q:Nat):Int) % ((j+2:Nat):Int) == 0)) rfl rfl rfl<|WOL.pkt rfl rfl<|WOL.mv rfl ?_
      cases e2:(((q:Nat):Int) % ((j+2:Nat):Int) == 0) with
      | false =>
        repeat' (first
    | (refine WOL.mv rfl ?_)
    | refine WOL.now (b:=true) rfl rfl ?_ | refine WOL.now (b:=false) rfl rfl ?_
    | refine WOL.skp (b:=true) rfl rfl ?_ | refine WOL.skp (b:=false) rfl rfl ?_ | refine WOL.gu rfl rfl ?_
    | refine WOL.mv rfl ?_ | refine WOL.as rfl ?_
    | refine WOL.bi rfl rfl rfl ?_ | refine WOL.nt rfl ?_
    | refine WOL.pkt rfl rfl ?_ | refine WOL.pkf rfl rfl ?_)
        refine WOL.nil<|WL.no rfl<|WL.skip fun a k=>no (by unfold blind;rw [e1,e2];rfl) a (k.sub ⟨rfl,rfl,rfl,rfl,trivial⟩)
      | true =>
        have b1:blind p q (j+2)=true:=by unfold blind;rw [e1,e2];rfl
        refine WOL.now (b:=true) rfl rfl<|WOL.fa rfl (fa_of fo1112_0)<|WOL.now (b:=true) rfl rfl<|WOL.ld rfl (load_one tp3 B3 rfl)<|WOL.now (b:=true) rfl rfl<|WOL.mv rfl<|WOL.now (b:=true) rfl rfl<|WOL.rem (m:=((r:Nat):Int)) (n:=((j+2:Nat):Int)) rfl rfl (by omega) (by omega)<|WOL.now (b:=true) rfl rfl<|WOL.bi (v:=.bool (((r:Nat):Int) % ((j+2:Nat):Int) == 0)) rfl rfl rfl<|WOL.pkt rfl rfl<|WOL.mv rfl ?_
        cases e3:(((r:Nat):Int) % ((j+2:Nat):Int) == 0) with
        | false =>
          repeat' (first
    | (refine WOL.mv rfl ?_)
    | refine WOL.now (b:=true) rfl rfl ?_ | refine WOL.now (b:=false) rfl rfl ?_
    | refine WOL.skp (b:=true) rfl rfl ?_ | refine WOL.skp (b:=false) rfl rfl ?_ | refine WOL.gu rfl rfl ?_
    | refine WOL.mv rfl ?_ | refine WOL.as rfl ?_
    | refine WOL.bi rfl rfl rfl ?_ | refine WOL.nt rfl ?_
    | refine WOL.pkt rfl rfl ?_ | refine WOL.pkf rfl rfl ?_)
          refine WOL.nil<|WL.no rfl<|WL.skip fun a k=>no (by rw [b1];unfold blind;rw [e3];rfl) a (k.sub ⟨rfl,rfl,rfl,rfl,trivial⟩)
        | true =>
          refine WOL.now (b:=true) rfl rfl<|WOL.fa rfl (fa_of fo1112_1)<|WOL.now (b:=true) rfl rfl<|WOL.ld rfl (load_one tp3 B3 rfl)<|WOL.now (b:=true) rfl rfl<|WOL.mv rfl<|WOL.now (b:=true) rfl rfl<|WOL.rem (m:=((s:Nat):Int)) (n:=((j+2:Nat):Int)) rfl rfl (by omega) (by omega)<|WOL.now (b:=true) rfl rfl<|WOL.bi (v:=.bool (((s:Nat):Int) % ((j+2:Nat):Int) == 0)) rfl rfl rfl<|WOL.pkt rfl rfl<|WOL.nil<|keep [(2,_),(3,_),(5,_),(6,_),(36,_)] ⟨rfl,rfl,rfl,rfl,rfl,trivial⟩ ?_
          cases e4:(((s:Nat):Int) % ((j+2:Nat):Int) == 0) with
          | false=>exact WL.no rfl<|WL.skip fun a k=>no (by rw [b1];unfold blind;rw [e3,e4];rfl) a (k.sub ⟨rfl,rfl,rfl,rfl,trivial⟩)
          | true =>
            have c:(blind p q (j+2) && blind r s (j+2))=true:=by rw [b1];unfold blind;rw [e3,e4];rfl
            refine WL.yes rfl<|WL.reg<|WOL.mv rfl<|WOL.mv rfl<|WOL.bs1 rfl u29 tp3 rfl fun i1 M1=>?_
            have m1:=M1.next
            obtain ⟨w',i2,ap,O',x2,_⟩:=own_push (sT:=24) (x:=((j+2:Nat):Int)) eI u29 tp3 (O.hx M1.hx) (SlC.own (sz:=1) (m:=1) rfl M1.at_) ((f.hx ((X2.trans X).trans M1.hx)).up (by omega)) (by omega) (by omega)
            refine WOL.ap rfl rfl ap<|WOL.as rfl<|WOL.nil fun y k=>⟨w',⟨x2 _ (X.trans M1.hx) (Nat.le_refl _),?_⟩,k.sub ⟨rfl,rfl,rfl,rfl,trivial⟩⟩
            show OwnL encI h2.next i2 w' 3 (if (blind p q (j+2) && blind r s (j+2))=true then _ else _)
            rw [if_pos c];exact O'
  · rintro u g ⟨X,O⟩
    have xn:=X2.next
    exact WL.sr<|WOL.mv rfl<|WOL.as rfl<|WOL.nil<|WL.ret (WL.end_ rfl ⟨X2.trans X,O.low xn⟩)
end
end Go.Tidy
namespace Go.Tidy
open Go Go.Proofs Tab
variable {tp:TProg}
section
variable {P:Program} {h:TH} {K:Regs→TH→Prop} {rest:List TOper} {d:Option Tmp} {ty:TypeId} {i:Nat} {x y:Operand} {t u:TypeId} {L:Rg}
theorem WOL.csub {vx vy:Value} {a b a' b':Int} (cx:Cz vx a b) (cy:Cz vy a' b') (h1:(a - a').natAbs < 9007199254740992) (h2:(b - b').natAbs < 9007199254740992) (hx:getL L x=some vx) (hy:getL L y=some vy) (w:∀ v,Cz v (a - a') (b - b')→∀ r,Kn (putL L d v) r→WO P tp rest r h K):∀ r,Kn L r→WO P tp (⟨d,.binOp .sub t x y u,ty,none,[],i⟩::rest) r h K:=by
 obtain ⟨p,q,rfl,f1,f2⟩:=id cx.ok
 obtain ⟨p',q',rfl,g1,g2⟩:=id cy.ok
 obtain ⟨r1,e1,k1⟩:=fx_sub f1 g1 h1
 obtain ⟨r2,e2,k2⟩:=fx_sub f2 g2 h2
 have cr:Cz (.complex .f64 r1 r2) (a - a') (b - b'):=⟨_,_,rfl,k1,k2⟩
 refine WOL.pbinC hx hy cx.plain cy.plain rfl ⟨by decide,by decide⟩ ?_ cr.plain (w _ cr)
 show pv P (Op.complexOp .sub .f64 p q p' q')=_
 unfold Op.complexOp
 simp only [pv_bind,pv_arith (.inr (.inl ⟨rfl,e1⟩)),pv_arith (.inr (.inl ⟨rfl,e2⟩)),Option.bind_some,pv_pure]
end
def trR (p q k:Nat):Int:=(p:Int)+q - (q:Int)*tRe (3*(k*p)) - (p:Int)*tRe (k*q)
def trI (p q k:Nat):Int:=0 - (q:Int)*tIm (3*(k*p)) - (p:Int)*tIm (k*q)
def trL (p q j:Nat):List (Int × Int):=(List.range 4).map fun i=>if i < j then (trR p q i,trI p q i) else (0,0)
section
variable {h:TH} {p q i j:Nat}
theorem trL_len:(trL p q j).length=4:=by unfold trL;rw [List.length_map,List.length_range]
theorem trL_get (h:i < 4):(trL p q j)[i]?=some (if i < j then (trR p q i,trI p q i) else (0,0)):=by
 unfold trL
 rw [List.getElem?_map,List.getElem?_range h];rfl
theorem trL_step (hj:j < 4):(trL p q j).set j (trR p q j,trI p q j)=trL p q (j+1):=by
 refine List.ext_getElem? fun i=>?_
 by_cases e:i=j
 ·subst e
  rw [List.getElem?_set_self (by rw [trL_len];exact hj),trL_get hj,if_pos (by omega)]
 ·rw [List.getElem?_set_ne (fun c=>e c.symm)]
  by_cases h:i < 4
  ·rw [trL_get h,trL_get h]
   by_cases c:i < j
   ·rw [if_pos c,if_pos (by omega)]
   ·rw [if_neg c,if_neg (by omega)]
  ·rw [List.getElem?_eq_none (by rw [trL_len];omega),List.getElem?_eq_none (by rw [trL_len];omega)]
theorem trL_zero:CzL zc4 (trL p q 0):=zc4_z4
set_option maxHeartbeats 8000000 in
set_option maxRecDepth 10000 in
theorem k1222 (H:Has tp) (G:Glob h) (hp:p≤32) (hq:q≤32) (f:Free0 h.next h):CallW Tryz.prog tp (.func (.func 55) #[] #[]) #[.agg #[zi (p:Nat),zi (q:Nat)]] h fun v h'=>HX h h'∧∃ cs:List Value,v=.agg cs.toArray∧CzL cs (trL p q 4):=by
 refine CallW.fnL (H.fn 55 f1222 rfl rfl) ?_
 refine WL.sr<|WOL.box rfl fun h1 N1=>WOL.al tp1172 fun h2 N2=>WOL.nil<|keep [(1,_),(2,_)] ⟨rfl,rfl,trivial⟩ ?_
 have n1:=N1.next
 have n2:=N2.next
 have X2:=N1.hx.trans N2.hx
 have A1:At h2 h.next (.cells [zi (p:Nat),zi (q:Nat)] true true 31):=N1.at_.hx N2.hx
 have A2:At h2 h1.next (.cells zc4 true true 27):=N2.at_
 have fp:=fx_int (n:=((p:Nat):Int)) (by omega)
 have fq:=fx_int (n:=((q:Nat):Int)) (by omega)
 have cp:Cz (.complex .f64 (FloatKind.f64.nearest ((p:Nat):Int)) 0) (p:Nat) 0:=⟨_,_,rfl,fp,fx_zero⟩
 have cq:Cz (.complex .f64 (FloatKind.f64.nearest ((q:Nat):Int)) 0) (q:Nat) 0:=⟨_,_,rfl,fq,fx_zero⟩
 refine WL.sr<|WOL.fa rfl (fa_of fo1128_0)<|WOL.ld rfl (load_one tp3 A1 rfl)<|WOL.cvP rfl rfl (conv_i2f Tryz.underlying3 u188c) (plain_float fp.nan64)<|WOL.cplx rfl rfl fp.nan64 (by decide)<|WOL.fa rfl (fa_of fo1128_1)<|WOL.ld rfl (load_one tp3 A1 rfl)<|WOL.cvP rfl rfl (conv_i2f Tryz.underlying3 u188c) (plain_float fq.nan64)<|WOL.cplx rfl rfl fq.nan64 (by decide)<|WOL.as rfl<|WOL.as rfl<|WOL.nil<|keep [(1,_),(2,_),(3,_),(4,_)] ⟨rfl,rfl,rfl,rfl,trivial⟩ ?_
 generalize FloatKind.f64.nearest ((p:Nat):Int)=vp at *
 generalize FloatKind.f64.nearest ((q:Nat):Int)=vq at *
 refine WL.sr<|WOL.al tp1172 fun h3 N3=>WOL.nil<|keep [(1,_),(2,_),(3,_),(4,_),(5,_)] ⟨rfl,rfl,rfl,rfl,rfl,trivial⟩ ?_
 have n3:=N3.next
 refine WL.seq<|WL.sr<|WOL.mv rfl<|WOL.nil<|keep [(1,_),(2,_),(3,_),(4,_),(5,_),(15,_)] ⟨rfl,rfl,rfl,rfl,rfl,rfl,trivial⟩ ?_
 refine WL.upto (α:=List Value) 4 (fun k cs g=>HX h2 g∧h3.next≤g.next∧At g h2.next (.cells cs true true 27)∧CzL cs (trL p q k)) (fun _ _=>[(1,ptr h.next),(2,ptr h1.next),(3,.complex .f64 vp 0),(4,.complex .f64 vq 0),(5,ptr h2.next)]) zc4 rfl rfl (by decide) ⟨N3.hx,Nat.le_refl _,N3.at_,trL_zero⟩ ⟨rfl,rfl,rfl,rfl,rfl,rfl,trivial⟩ (fun _ _=>rfl) (fun _ _ _=>⟨rfl,rfl,rfl,rfl,rfl,rfl,trivial⟩) (fun _ _ _=>⟨rfl,rfl,rfl,rfl,rfl,rfl,trivial⟩) ?_ ?_
 ·rintro k cs g hk ⟨Y,nx,B,cz⟩
  have lcs:cs.length=4:=by rw [cz.1,trL_len]
  have Yh:=X2.trans Y
  have B1:=A1.hx Y
  have b1:=B1.lt
  have m1:k*p≤3*32:=Nat.mul_le_mul (by omega) hp
  have m2:k*q≤3*32:=Nat.mul_le_mul (by omega) hq
  have c1:((k:Nat):Int)*((p:Nat):Int)=((k*p:Nat):Int):=(Int.natCast_mul k p).symm
  have c2:((k:Nat):Int)*((q:Nat):Int)=((k*q:Nat):Int):=(Int.natCast_mul k q).symm
  have t1:=t_lim (3*(k*p))
  have t2:=t_lim (k*q)
  have u1:=mulb (w:=((q:Nat):Int)) (x:=tRe (3*(k*p))) (a:=32) (b:=1) (by omega) (by omega)
  have u2:=mulb (w:=((q:Nat):Int)) (x:=tIm (3*(k*p))) (a:=32) (b:=1) (by omega) (by omega)
  have u3:=mulb (w:=((p:Nat):Int)) (x:=tRe (k*q)) (a:=32) (b:=1) (by omega) (by omega)
  have u4:=mulb (w:=((p:Nat):Int)) (x:=tIm (k*q)) (a:=32) (b:=1) (by omega) (by omega)
  refine WL.sr<|WOL.mv rfl<|WOL.as rfl<|WOL.nil<|keep [(1,_),(2,_),(3,_),(4,_),(5,_),(6,_),(15,_)] ⟨rfl,rfl,rfl,rfl,rfl,rfl,rfl,trivial⟩ ?_
  refine WL.reg<|WOL.mv rfl<|WOL.mv rfl<|WOL.mv rfl<|WOL.cadd cp cq (by omega) (by decide) rfl rfl fun w1 d1=>?_
  rw [show (0:Int)+0=0 from rfl] at d1
  refine WOL.mv rfl<|WOL.mv rfl<|WOL.fa rfl (fa_of fo1128_0)<|WOL.ld rfl (load_one tp3 B1 rfl)<|WOL.mul (m:=((k:Nat):Int)) (n:=((p:Nat):Int)) rfl rfl (by rw [c1];omega) (by rw [c1];omega)<|WOL.mv rfl<|WOL.mv rfl<|WOL.fa rfl (fa_of fo1128_1)<|WOL.ld rfl (load_one tp3 B1 rfl)<|WOL.mul (m:=((k:Nat):Int)) (n:=((q:Nat):Int)) rfl rfl (by rw [c2];omega) (by rw [c2];omega) ?_
  rw [c1,c2]
  refine WOL.lv1 [some h.next] rfl rfl rfl fun ml hl=>((k1230 (h:=TH.withLock _ ml) H ((G.hx Yh).relk ml) (by omega) ((f.on Yh).heldO hl (fun b hb=>by simp at hb;omega))).mono ?_)
  rintro v g1 ⟨G1,ct⟩
  replace G1:=G1.relock
  generalize g1.withLock g.lock=g1 at *
  refine WOL.cmul cq ct (by omega) (by rw [Int.zero_mul];decide) (by omega) (by rw [Int.zero_mul];decide) rfl rfl fun w2 d2=>?_
  rw [Int.zero_mul,Int.sub_zero,Int.zero_mul,Int.add_zero] at d2
  refine WOL.csub d1 d2 (by omega) (by omega) rfl rfl fun w3 d3=>?_
  refine WOL.cl1 rfl rfl ((k1231 H (G.hx (Yh.trans G1)) (by omega) (f.on (Yh.trans G1))).mono ?_)
  rintro v2 g2 ⟨G2,cu⟩
  refine WOL.cmul cp cu (by omega) (by rw [Int.zero_mul];decide) (by omega) (by rw [Int.zero_mul];decide) rfl rfl fun w4 d4=>?_
  rw [Int.zero_mul,Int.sub_zero,Int.zero_mul,Int.add_zero] at d4
  refine WOL.csub d3 d4 (by omega) (by omega) rfl rfl fun w5 d5=>?_
  obtain ⟨x1,x2,e2,_,_⟩:=id d5.ok
  have B':=(B.hx G1).hx G2
  have y1:=G1.next
  have y2:=G2.next
  refine WOL.ix rfl rfl (ix1172 hk)<|WOL.sto (vs:=[w5]) rfl rfl tp1171 B' (by rw [e2];rfl) rfl (by show k+1≤cs.length;omega) (by rw [e2];rfl) (f.hx ((Yh.trans G1).trans G2)) (by omega) fun g3 P3=>WOL.nil fun a z=>⟨cs.set k w5,⟨P3.hx _ ((Y.trans G1).trans G2) (by omega),by have:=P3.next;omega,?_,?_⟩,z.sub ⟨rfl,rfl,rfl,rfl,rfl,rfl,trivial⟩⟩
  ·have:=P3.at_
   rw [splice_set (by omega)] at this
   exact this
  ·have:=Cz.set (j:=k) cz (p:=(trR p q k,trI p q k)) d5
   rw [trL_step hk] at this
   exact this
 ·rintro cs g ⟨Y,nx,B,cz⟩
  have lcs:cs.length=4:=by rw [cz.1,trL_len]
  have Yh:=X2.trans Y
  have C2:=A2.hx Y
  refine WL.sr<|WOL.ld rfl (load_row tp1172 B (l:=cs) (by rw [List.drop_zero,← lcs,List.take_length]) (by omega))<|WOL.sto (vs:=cs) rfl rfl tp1172 C2 (by show cs.toArray.toList=cs;simp) lcs (Nat.le_of_ble_eq_true rfl) (czl_one cz) (f.hx Yh) (by omega) fun g2 P2=>WOL.nil ?_
  have D:=P2.at_
  rw [show splice zc4 0 cs=cs by
   unfold splice zc4
   rw [List.take_zero,List.nil_append,lcs]
   simp] at D
  exact WL.ret (WL.endC rfl (load_row tp1172 D (l:=cs) (by rw [List.drop_zero,← lcs,List.take_length]) (by omega)) ⟨P2.hx _ Yh (by omega),cs,rfl,cz⟩)
end
end Go.Tidy
namespace Go.Tidy
open Go Go.Proofs Tab
variable {tp:TProg}
def traL (a b:Int):List (Int × Int):=if chordE a b≠0 then z4 else trL a.toNat b.toNat 4
section
variable {h:TH} {a b:Int}
set_option maxHeartbeats 4000000 in
set_option maxRecDepth 10000 in
theorem k1221 (H:Has tp) (G:Glob h) (f:Free0 h.next h) :
  CallW Tryz.prog tp (.func (.func 54) #[] #[]) #[.agg #[zi a,zi b],.func (.func 55) #[] #[]] h fun v h'=>HX h h'∧∃ cs:List Value,v=.tuple #[.agg cs.toArray,zi (chordE a b)]∧CzL cs (traL a b):=by
 refine CallW.fnL (H.fn 54 f1221 rfl rfl) ?_
 refine WL.sr<|WOL.box rfl fun h1 N1=>WOL.al tp1172 fun h2 N2=>WOL.as rfl<|WOL.nil<|keep [(1,_),(2,_),(4,_)] ⟨rfl,rfl,rfl,trivial⟩ ?_
 have q1:=N1.next
 have q2:=N2.next
 have X2:=N1.hx.trans N2.hx
 have A2:At h2 h.next (.cells [zi a,zi b] true true 31):=N1.at_.hx N2.hx
 have A4:At h2 h1.next (.cells zc4 true true 27):=N2.at_
 refine WL.seq<|WL.sr<|WOL.ld rfl (load_row tp1128 A2 rfl (Nat.le_of_ble_eq_true rfl))<|WOL.cl1 rfl rfl ((k1121 H a b _).mono ?_)
 rintro v h3 ⟨rfl,X3⟩
 have Y3:=X2.trans X3
 have y3:=Y3.next
 replace A2:=A2.hx X3;replace A4:=A4.hx X3
 refine WOL.as rfl<|WOL.nil<|keep [(1,_),(2,_),(4,_),(6,_)] ⟨rfl,rfl,rfl,rfl,trivial⟩ ?_
 by_cases e0:chordE a b≠0
 ·have e:traL a b=z4:=by unfold traL;rw [if_pos e0]
  rw [e]
  refine WL.sr<|WOL.mv rfl<|WOL.bt rfl rfl rfl (bne_iff_ne.2 e0)<|WOL.nil<|WL.yes rfl<|WL.sr<|WOL.al tp1172 fun h4 N4=>WOL.nc rfl<|WOL.ld rfl (load_row tp1172 N4.at_ (l:=zc4) rfl (Nat.le_of_ble_eq_true rfl))<|WOL.mv rfl<|WOL.sto (vs:=zc4) rfl rfl tp1172 (A4.hx N4.hx) rfl rfl (Nat.le_of_ble_eq_true rfl) rfl (f.hx (Y3.trans N4.hx)) (by omega) fun g2 P=>WOL.as rfl<|WOL.nil ?_
  have B:=P.at_
  rw [show splice zc4 0 zc4=zc4 from rfl] at B
  exact WL.ret (WL.endC1 rfl rfl (load_row tp1172 B (l:=zc4) rfl (Nat.le_of_ble_eq_true rfl)) ⟨P.hx _ (Y3.trans N4.hx) (by omega),zc4,rfl,zc4_z4⟩)
 have e0:chordE a b=0:=Classical.not_not.1 e0
 have e:traL a b=trL a.toNat b.toNat 4:=by unfold traL;rw [if_neg (fun c=>c e0)]
 obtain ⟨p1,p2,p3,p4⟩:=chord_ok e0
 rw [e,e0]
 obtain ⟨p,rfl⟩:∃ p:Nat,a=p:=⟨a.toNat,by omega⟩
 obtain ⟨q,rfl⟩:∃ q:Nat,b=q:=⟨b.toNat,by omega⟩
 rw [Int.toNat_natCast,Int.toNat_natCast]
 refine WL.sr<|WOL.mv rfl<|WOL.bf rfl rfl rfl rfl<|WOL.nil<|WL.no rfl<|WL.skip ?_
 refine WL.sr<|WOL.mv rfl<|WOL.ld rfl (load_row tp1128 A2 rfl (Nat.le_of_ble_eq_true rfl))<|WOL.cl1 rfl rfl ((k1222 (p:=p) (q:=q) H (G.hx Y3) (by omega) (by omega) (f.on Y3)).mono ?_)
 rintro v h4 ⟨X4,cs,rfl,cz⟩
 have lcs:cs.length=4:=by rw [cz.1,trL_len]
 refine WOL.sto (vs:=cs) rfl rfl tp1172 (A4.hx X4) (by show cs.toArray.toList=cs;simp) lcs (Nat.le_of_ble_eq_true rfl) (czl_one cz) (f.hx (Y3.trans X4)) (by omega) fun g2 P=>WOL.as rfl<|WOL.nil ?_
 have B:=P.at_
 rw [show splice zc4 0 cs=cs by
  unfold splice zc4
  rw [List.take_zero,List.nil_append,lcs]
  simp] at B
 exact WL.ret (WL.endC1 rfl rfl (load_row tp1172 B (l:=cs) (by rw [List.drop_zero,← lcs,List.take_length]) (by omega)) ⟨P.hx _ (Y3.trans X4) (by omega),cs,rfl,cz⟩)
set_option maxHeartbeats 4000000 in
set_option maxRecDepth 10000 in
theorem k1174 (H:Has tp) (G:Glob h) (f:Free0 h.next h) :
  CallW Tryz.prog tp (.func (.func 7) #[] #[]) #[.agg #[zi a,zi b]] h fun v h'=>HX h h'∧∃ cs:List Value,v=.tuple #[.agg cs.toArray,zi (chordE a b)]∧CzL cs (traL a b):=by
 refine CallW.fnL (H.fn 7 f1174 rfl rfl) ?_
 refine WL.sr<|WOL.box rfl fun h1 N1=>WOL.al tp1172 fun h2 N2=>WOL.as rfl<|WOL.nil<|keep [(1,_),(2,_)] ⟨rfl,rfl,trivial⟩ ?_
 have q1:=N1.next
 have q2:=N2.next
 have X2:=N1.hx.trans N2.hx
 have A1:At h2 h.next (.cells [zi a,zi b] true true 31):=N1.at_.hx N2.hx
 have A2:At h2 h1.next (.cells zc4 true true 27):=N2.at_
 refine WL.sr<|WOL.ld rfl (load_row tp1128 A1 rfl (Nat.le_of_ble_eq_true rfl))<|WOL.cl2 rfl rfl rfl ((k1221 (a:=a) (b:=b) H (G.hx X2) (f.on X2)).mono ?_)
 rintro v h4 ⟨X4,cs,rfl,cz⟩
 have ll:(traL a b).length=4:=by
  unfold traL
  by_cases c:chordE a b≠0
  ·rw [if_pos c];rfl
  ·rw [if_neg c,trL_len]
 have lcs:cs.length=4:=by rw [cz.1,ll]
 refine WOL.ex rfl rfl<|WOL.ex rfl rfl<|WOL.sto (vs:=cs) rfl rfl tp1172 (A2.hx X4) (by show cs.toArray.toList=cs;simp) lcs (Nat.le_of_ble_eq_true rfl) (czl_one cz) (f.hx (X2.trans X4)) (by omega) fun g2 P=>WOL.as rfl<|WOL.nil ?_
 have B:=P.at_
 rw [show splice zc4 0 cs=cs by
  unfold splice zc4
  rw [List.take_zero,List.nil_append,lcs]
  simp] at B
 exact WL.ret (WL.endC1 rfl rfl (load_row tp1172 B (l:=cs) (by rw [List.drop_zero,← lcs,List.take_length]) (by omega)) ⟨P.hx _ (X2.trans X4) (by omega),cs,rfl,cz⟩)
end
end Go.Tidy
namespace Go.Tidy
open Go Go.Proofs Tab
variable {tp:TProg}
theorem t_nine (j:Nat):tRe (3*(3*j))=tRe j∧tIm (3*(3*j))=tIm j:=by
 have e:3*(3*j) % 4=j % 4:=by omega
 unfold tRe tIm
 rw [e];exact ⟨rfl,rfl⟩
section
variable {h:TH} {p q:Nat}
set_option maxHeartbeats 8000000 in
set_option maxRecDepth 10000 in
theorem k1240 (H:Has tp) (hp:p≤32) (hq:q≤32) (f:Free0 h.next h):CallW Tryz.prog tp (.func (.func 17) #[] #[]) #[.agg #[zi (p:Nat),zi (q:Nat)]] h fun v h'=>HX h h'∧v=.agg (cat encS (trL p q 4)).toArray:=by
 refine CallW.fnL (H.fn 17 f1240 rfl rfl) ?_
 refine WL.sr<|WOL.box rfl fun h1 N1=>WOL.al tp206 fun h2 N2=>WOL.nil<|keep [(1,_),(2,_)] ⟨rfl,rfl,trivial⟩ ?_
 have n1:=N1.next
 have n2:=N2.next
 have X2:=N1.hx.trans N2.hx
 refine WL.sr<|WOL.al tp206 fun h3 N3=>WOL.nil<|keep [(1,_),(2,_),(3,_)] ⟨rfl,rfl,rfl,trivial⟩ ?_
 have n3:=N3.next
 have A1:At h3 h.next (.cells [zi (p:Nat),zi (q:Nat)] true true 23):=(N1.at_.hx N2.hx).hx N3.hx
 have A2:At h3 h1.next (.cells (cat encS z4) true true 45):=N2.at_.hx N3.hx
 have A3:At h3 h2.next (.cells (cat encS (trL p q 0)) true true 45):=N3.at_
 have X3:=X2.trans N3.hx
 refine WL.seq<|WL.sr<|WOL.as rfl<|WOL.nil<|keep [(1,_),(2,_),(3,_),(4,_)] ⟨rfl,rfl,rfl,rfl,trivial⟩ ?_
 refine WL.forz (α:=Unit) 4 (fun k _ g=>HX h2 g∧h3.next≤g.next∧At g h2.next (.cells (cat encS (trL p q k)) true true 45)) (fun j _=>[(1,ptr h.next),(2,ptr h1.next),(3,ptr h2.next),(4,zi (j:Nat))]) (fun j _=>[(1,ptr h.next),(2,ptr h1.next),(3,ptr h2.next),(4,zi (j:Nat))]) () ⟨N3.hx,Nat.le_refl _,A3⟩ ⟨rfl,rfl,rfl,rfl,trivial⟩ ?_ ?_ (fun _ _ _=>⟨rfl,rfl,rfl,rfl,trivial⟩) ?_ ?_
 ·rintro j _ g hj _
  exact WOL.mv rfl<|WOL.bi rfl rfl rfl<|WOL.nil fun a q=>⟨rfl,q.sub ⟨rfl,rfl,rfl,rfl,rfl,trivial⟩⟩
 ·rintro j _ g hj hH
  exact WOL.mv rfl<|WOL.inc rfl (by omega)<|WOL.as rfl<|WOL.nil fun a q=>⟨hH,q.sub ⟨rfl,rfl,rfl,rfl,trivial⟩⟩
 ·rintro k _ g hk ⟨Y,nx,B⟩
  have Yh:=X2.trans Y
  have B1:At g h.next (.cells [zi (p:Nat),zi (q:Nat)] true true 23):=(N1.at_.hx N2.hx).hx Y
  have b1:=B1.lt
  have bb:=B.lt
  have m1:k*p≤3*32:=Nat.mul_le_mul (by omega) hp
  have m2:k*q≤3*32:=Nat.mul_le_mul (by omega) hq
  have m3:3*k*q=3*(k*q):=Nat.mul_assoc 3 k q
  have c1:((k:Nat):Int)*((p:Nat):Int)=((k*p:Nat):Int):=(Int.natCast_mul k p).symm
  have c2:((3*k:Nat):Int)*((q:Nat):Int)=((3*(k*q):Nat):Int):=by rw [← m3];exact (Int.natCast_mul (3*k) q).symm
  have t1:=t_lim (3*(k*p))
  have t2:=t_lim (k*q)
  have u1:=mulb (w:=((q:Nat):Int)) (x:=tRe (3*(k*p))) (a:=32) (b:=1) (by omega) (by omega)
  have u2:=mulb (w:=((q:Nat):Int)) (x:=tIm (3*(k*p))) (a:=32) (b:=1) (by omega) (by omega)
  have u3:=mulb (w:=((p:Nat):Int)) (x:=tRe (k*q)) (a:=32) (b:=1) (by omega) (by omega)
  have u4:=mulb (w:=((p:Nat):Int)) (x:=tIm (k*q)) (a:=32) (b:=1) (by omega) (by omega)
  refine WL.sr<|WOL.mv rfl<|WOL.fa rfl (fa_of fo1112_0)<|WOL.ld rfl (load_one tp3 B1 rfl)<|WOL.mul (m:=((k:Nat):Int)) (n:=((p:Nat):Int)) rfl rfl (by rw [c1];omega) (by rw [c1];omega)<|WOL.mv rfl<|WOL.mul (m:=3) (n:=((k:Nat):Int)) rfl rfl (by omega) (by omega) ?_
  rw [c1,show (3:Int)*((k:Nat):Int)=((3*k:Nat):Int) by omega]
  refine WOL.fa rfl (fa_of fo1112_1)<|WOL.ld rfl (load_one tp3 B1 rfl)<|WOL.mul (m:=((3*k:Nat):Int)) (n:=((q:Nat):Int)) rfl rfl (by rw [c2];omega) (by rw [c2];omega) ?_
  rw [c2]
  refine WOL.al tp205 fun g5 M5=>WOL.al tp205 fun g6 M6=>?_
  have k5:=M5.next
  have k6:=M6.next
  have Y6:=(Yh.trans M5.hx).trans M6.hx
  refine WOL.lv1 [some g5.next,some g.next,some h.next] rfl rfl rfl fun ml hl=>((k1215 (h:=TH.withLock _ ml) H (by omega) ((f.on Y6).heldO hl (fun b hb=>by simp at hb;omega))).mono ?_)
  rintro v1 g7 ⟨rfl,G7⟩
  replace G7:=G7.relock
  generalize g7.withLock g6.lock=g7 at *
  have k7:=G7.next
  refine WOL.lv1 [some g5.next,some g.next] rfl rfl rfl fun ml hl=>((k1215 (h:=TH.withLock _ ml) H (by omega) ((f.on (Y6.trans G7)).heldO hl (fun b hb=>by simp at hb;omega))).mono ?_)
  rintro v2 g8 ⟨rfl,G8⟩
  replace G8:=G8.relock
  generalize g8.withLock g7.lock=g8 at *
  have k8:=G8.next
  have Y8:=(Y6.trans G7).trans G8
  rw [(t_nine (k*q)).1,(t_nine (k*q)).2]
  have D5:=((M5.at_.hx M6.hx).hx G7).hx G8
  have D6:=(M6.at_.hx G7).hx G8
  refine WOL.sto (vs:=[zi (tRe (3*(k*p))),zi (tIm (3*(k*p)))]) rfl rfl tp205 D5 rfl rfl (Nat.le_of_ble_eq_true rfl) rfl (f.hx Y8) (by omega) fun g9 P9=>WOL.sto (vs:=[zi (tRe (k*q)),zi (tIm (k*q))]) rfl rfl tp205 (P9.oth _ _ (by omega) D6) rfl rfl (Nat.le_of_ble_eq_true rfl) rfl (f.hx (P9.hx _ Y8 (by omega))) (by omega) fun g10 P10=>WOL.nil<|keep [(1,_),(2,_),(3,_),(4,_),(5,_),(6,_)] ⟨rfl,rfl,rfl,rfl,rfl,rfl,trivial⟩ ?_
  have k9:=P9.next
  have k10:=P10.next
  have E5:=P10.oth _ _ (by omega) P9.at_
  have E6:=P10.at_
  have W8:HX h2 g8:=(((Y.trans M5.hx).trans M6.hx).trans G7).trans G8
  have W10:HX h2 g10:=P10.hx _ (P9.hx _ W8 (by omega)) (by omega)
  have Y10:=X2.trans W10
  have Bz:=P10.oth _ _ (by omega) (P9.oth _ _ (by omega) ((((B.hx M5.hx).hx M6.hx).hx G7).hx G8))
  have B1z:At g10 h.next (.cells [zi (p:Nat),zi (q:Nat)] true true 23):=(N1.at_.hx N2.hx).hx W10
  have lc:(cat encS (trL p q k)).length=8:=by rw [eS.cat_len,trL_len]
  refine WL.reg<|WOL.mv rfl<|WOL.fa rfl (fa_of fo1112_0)<|WOL.ld rfl (load_one tp3 B1z rfl)<|WOL.fa rfl (fa_of fo1112_1)<|WOL.ld rfl (load_one tp3 B1z rfl)<|WOL.add (m:=((p:Nat):Int)) (n:=((q:Nat):Int)) rfl rfl (by omega) (by omega)<|WOL.fa rfl (fa_of fo1112_1)<|WOL.ld rfl (load_one tp3 B1z rfl)<|WOL.fa rfl (fa_of fo205_0)<|WOL.ld rfl (load_one tp3 E5 rfl)<|WOL.mul (m:=((q:Nat):Int)) (n:=tRe (3*(k*p))) rfl rfl (by omega) (by omega)<|WOL.sub (m:=((p:Nat):Int)+((q:Nat):Int)) (n:=((q:Nat):Int)*tRe (3*(k*p))) rfl rfl (by omega) (by omega)<|WOL.fa rfl (fa_of fo1112_0)<|WOL.ld rfl (load_one tp3 B1z rfl)<|WOL.fa rfl (fa_of fo205_0)<|WOL.ld rfl (load_one tp3 E6 rfl)<|WOL.mul (m:=((p:Nat):Int)) (n:=tRe (k*q)) rfl rfl (by omega) (by omega)<|WOL.sub (m:=((p:Nat):Int)+((q:Nat):Int) - ((q:Nat):Int)*tRe (3*(k*p))) (n:=((p:Nat):Int)*tRe (k*q)) rfl rfl (by omega) (by omega)<|WOL.fa rfl (fa_of fo1112_1)<|WOL.ld rfl (load_one tp3 B1z rfl)<|WOL.fa rfl (fa_of fo205_1)<|WOL.ld rfl (load_one tp3 E5 rfl)<|WOL.mul (m:=((q:Nat):Int)) (n:=tIm (3*(k*p))) rfl rfl (by omega) (by omega)<|WOL.sub (m:=0) (n:=((q:Nat):Int)*tIm (3*(k*p))) rfl rfl (by omega) (by omega)<|WOL.fa rfl (fa_of fo1112_0)<|WOL.ld rfl (load_one tp3 B1z rfl)<|WOL.fa rfl (fa_of fo205_1)<|WOL.ld rfl (load_one tp3 E6 rfl)<|WOL.mul (m:=((p:Nat):Int)) (n:=tIm (k*q)) rfl rfl (by omega) (by omega)<|WOL.sub (m:=0 - ((q:Nat):Int)*tIm (3*(k*p))) (n:=((p:Nat):Int)*tIm (k*q)) rfl rfl (by omega) (by omega)<|WOL.bd rfl bd205<|WOL.ix rfl rfl (ix206 hk)<|WOL.sto (vs:=encS (trR p q k,trI p q k)) rfl rfl tp205 Bz rfl rfl (by omega) rfl (f.hx Y10) (by omega) fun g11 P11=>WOL.nil fun a z=>⟨(),⟨P11.hx _ W10 (by omega),by have:=P11.next;have:=M5.hx.next;have:=M6.hx.next;omega,?_⟩,z.sub ⟨rfl,rfl,rfl,rfl,trivial⟩⟩
  have:=P11.at_
  rw [Nat.mul_comm 2 k,eS.set (by rw [trL_len];omega),trL_step hk] at this
  exact this
 ·rintro _ g ⟨Y,nx,B⟩
  have Yh:=X2.trans Y
  have C2:At g h1.next (.cells (cat encS z4) true true 45):=N2.at_.hx Y
  have lc:(cat encS (trL p q 4)).length=8:=by rw [eS.cat_len,trL_len]
  refine WL.sr<|WOL.ld rfl (load_row tp206 B (l:=cat encS (trL p q 4)) (by rw [List.drop_zero,← lc,List.take_length]) (by omega))<|WOL.sto (vs:=cat encS (trL p q 4)) rfl rfl tp206 C2 (by simp [Value.cells]) lc (Nat.le_of_ble_eq_true rfl) (catS_one _) (f.hx Yh) (by omega) fun g2 P=>WOL.nil ?_
  have D:=P.at_
  rw [show splice (cat encS z4) 0 (cat encS (trL p q 4))=cat encS (trL p q 4) by
   unfold splice
   rw [List.take_zero,List.nil_append,lc]
   simp [z4_cat]] at D
  exact WL.ret (WL.endC rfl (load_row tp206 D (l:=cat encS (trL p q 4)) (by rw [List.drop_zero,← lc,List.take_length]) (by omega)) ⟨P.hx _ Yh (by omega),rfl⟩)
end
end Go.Tidy
namespace Go.Tidy
open Go Go.Proofs Tab
variable {tp:TProg}
def seeN (p q:Nat) (w:List Int) (i:Nat):Int:=((p:Int)+(q:Int))*w.getD i 0 - (q:Int)*w.getD ((i+w.length*32 - p) % w.length) 0 - (p:Int)*w.getD ((i+q) % w.length) 0
def seeB (p q:Nat) (w:List Int):Bool:=(List.range w.length).any fun i=>seeN p q w i != 0
section
variable {h:TH} {p q:Nat} {v:Value} {w:List Int}
theorem at_getD {i:Nat} (hi:i < w.length):w[i]?=some (w.getD i 0):=by
 rw [List.getD_eq_getElem?_getD,List.getElem?_eq_getElem hi];rfl
set_option maxHeartbeats 8000000 in
set_option maxRecDepth 10000 in
theorem k1239 (H:Has tp) (s:SlL encI 1 h v w) (hp:p≤32) (hq:q≤32) (hw:0 < w.length) (hl:w.length≤64) (lim:∀ j,-16384≤w.getD j 0∧w.getD j 0≤16384):CallW Tryz.prog tp (.func (.func 15) #[] #[]) #[.agg #[zi (p:Nat),zi (q:Nat)],v] h fun u h'=>u=.bool (seeB p q w)∧HX h h':=by
 refine CallW.fnL (H.fn 15 f1239 rfl rfl) ?_
 refine WL.sr<|WOL.box rfl fun h1 N1=>WOL.as rfl<|WOL.nil<|keep [(1,_),(2,_)] ⟨rfl,rfl,trivial⟩ ?_
 have A2:At h1 h.next (.cells [zi (p:Nat),zi (q:Nat)] true true 23):=N1.at_
 have s1:=s.hx N1.hx
 refine WL.sr<|WOL.mv rfl<|WOL.len rfl s1 u29<|WOL.as rfl<|WOL.nil<|keep [(1,_),(2,_),(5,_)] ⟨rfl,rfl,rfl,trivial⟩ ?_
 refine WL.seq<|WL.sr<|WOL.as rfl<|WOL.nil<|keep [(1,_),(2,_),(5,_),(6,_)] ⟨rfl,rfl,rfl,rfl,trivial⟩ ?_
 refine WL.forz (α:=Unit) w.length (fun j _ g=>g=h1∧∀ i,i < j→seeN p q w i=0) (fun j _=>[(1,v),(2,ptr h.next),(5,zi (w.length:Nat)),(6,zi (j:Nat))]) (fun j _=>[(1,v),(2,ptr h.next),(5,zi (w.length:Nat)),(6,zi (j:Nat))]) () ⟨rfl,fun i hi=>absurd hi (by omega)⟩ ⟨rfl,rfl,rfl,rfl,trivial⟩ ?_ ?_ (fun _ _ _=>⟨rfl,rfl,rfl,rfl,trivial⟩) ?_ ?_
 ·rintro j _ g hj _
  exact WOL.mv rfl<|WOL.mv rfl<|WOL.bi rfl rfl rfl<|WOL.nil fun a q=>⟨rfl,q.sub ⟨rfl,rfl,rfl,rfl,rfl,trivial⟩⟩
 ·rintro j _ g hj hH
  exact WOL.mv rfl<|WOL.inc rfl (by omega)<|WOL.as rfl<|WOL.nil fun a q=>⟨hH,q.sub ⟨rfl,rfl,rfl,rfl,trivial⟩⟩
 ·rintro j _ g hj ⟨rfl,hz⟩
  have r1:(j+w.length*32 - p) % w.length < w.length:=Nat.mod_lt _ hw
  have r2:(j+q) % w.length < w.length:=Nat.mod_lt _ hw
  obtain ⟨_,_,ca,fa,wa,ela,a1,a2,a3,a4,a5⟩:=s1.at eI u29 tp3 (at_getD r1) .i64
  obtain ⟨_,_,cb,fb,wb,elb,b1,b2,b3,b4,b5⟩:=s1.at eI u29 tp3 (at_getD r2) .i64
  obtain ⟨_,_,cc,fc,wc,elc,c1,c2,c3,c4,c5⟩:=s1.at eI u29 tp3 (at_getD hj) .i64
  have gxa:=a5 0 (by decide)
  have gxb:=b5 0 (by decide)
  have gxc:=c5 0 (by decide)
  rw [Nat.add_zero] at gxa gxb gxc
  refine WL.sr<|WOL.mv rfl<|WOL.mv rfl<|WOL.mv rfl<|WOL.mul (m:=((w.length:Nat):Int)) (n:=32) rfl rfl (by omega) (by omega)<|WOL.add (m:=((j:Nat):Int)) (n:=((w.length:Nat):Int)*32) rfl rfl (by omega) (by omega)<|WOL.fa rfl (fa_of fo1112_0)<|WOL.ld rfl (load_one tp3 A2 rfl)<|WOL.sub (m:=((j:Nat):Int)+((w.length:Nat):Int)*32) (n:=((p:Nat):Int)) rfl rfl (by omega) (by omega) ?_
  rw [show ((j:Nat):Int)+((w.length:Nat):Int)*32 - ((p:Nat):Int)=((j+w.length*32 - p:Nat):Int) by omega]
  refine WOL.mv rfl<|WOL.rem (m:=((j+w.length*32 - p:Nat):Int)) (n:=((w.length:Nat):Int)) rfl rfl (by omega) (by omega)<|WOL.ix rfl rfl a1<|WOL.ld rfl (load_one tp3 a2 gxa)<|WOL.mv rfl<|WOL.mv rfl<|WOL.fa rfl (fa_of fo1112_1)<|WOL.ld rfl (load_one tp3 A2 rfl)<|WOL.add (m:=((j:Nat):Int)) (n:=((q:Nat):Int)) rfl rfl (by omega) (by omega) ?_
  rw [show ((j:Nat):Int)+((q:Nat):Int)=((j+q:Nat):Int) by omega]
  refine WOL.mv rfl<|WOL.rem (m:=((j+q:Nat):Int)) (n:=((w.length:Nat):Int)) rfl rfl (by omega) (by omega)<|WOL.ix rfl rfl b1<|WOL.ld rfl (load_one tp3 b2 gxb)<|WOL.as rfl<|WOL.as rfl<|WOL.nil<|keep [(1,_),(2,_),(5,_),(6,_),(7,_),(8,_)] ⟨rfl,rfl,rfl,rfl,rfl,rfl,trivial⟩ ?_
  have e1:=lim ((j+w.length*32 - p) % w.length)
  have e2:=lim ((j+q) % w.length)
  have e3:=lim j
  have hs:seeN p q w j=((p:Int)+(q:Int))*w.getD j 0 - (q:Int)*w.getD ((j+w.length*32 - p) % w.length) 0 - (p:Int)*w.getD ((j+q) % w.length) 0:=rfl
  generalize w.getD ((j+w.length*32 - p) % w.length) 0=x1 at *
  generalize w.getD ((j+q) % w.length) 0=x2 at *
  generalize w.getD j 0=x3 at *
  have u1:=mulb (w:=((p:Int)+(q:Int))) (x:=x3) (a:=64) (b:=16384) (by omega) (by omega)
  have u2:=mulb (w:=((q:Nat):Int)) (x:=x1) (a:=32) (b:=16384) (by omega) (by omega)
  have u3:=mulb (w:=((p:Nat):Int)) (x:=x2) (a:=32) (b:=16384) (by omega) (by omega)
  refine WL.sr<|WOL.fa rfl (fa_of fo1112_0)<|WOL.ld rfl (load_one tp3 A2 rfl)<|WOL.fa rfl (fa_of fo1112_1)<|WOL.ld rfl (load_one tp3 A2 rfl)<|WOL.add (m:=((p:Nat):Int)) (n:=((q:Nat):Int)) rfl rfl (by omega) (by omega)<|WOL.mv rfl<|WOL.mv rfl<|WOL.ix rfl rfl c1<|WOL.ld rfl (load_one tp3 c2 gxc)<|WOL.mul (m:=((p:Nat):Int)+((q:Nat):Int)) (n:=x3) rfl rfl (by omega) (by omega)<|WOL.fa rfl (fa_of fo1112_1)<|WOL.ld rfl (load_one tp3 A2 rfl)<|WOL.mv rfl<|WOL.mul (m:=((q:Nat):Int)) (n:=x1) rfl rfl (by omega) (by omega)<|WOL.sub (m:=(((p:Nat):Int)+((q:Nat):Int))*x3) (n:=((q:Nat):Int)*x1) rfl rfl (by omega) (by omega)<|WOL.fa rfl (fa_of fo1112_0)<|WOL.ld rfl (load_one tp3 A2 rfl)<|WOL.mv rfl<|WOL.mul (m:=((p:Nat):Int)) (n:=x2) rfl rfl (by omega) (by omega)<|WOL.sub (m:=(((p:Nat):Int)+((q:Nat):Int))*x3 - ((q:Nat):Int)*x1) (n:=((p:Nat):Int)*x2) rfl rfl (by omega) (by omega) ?_
  rw [← hs]
  by_cases h0:seeN p q w j=0
  ·refine WOL.bf rfl rfl rfl (bne_eq_false_iff_eq.2 h0)<|WOL.nil<|WL.no rfl<|WL.skip fun a k=>⟨(),⟨rfl,fun i hi=>?_⟩,k.sub ⟨rfl,rfl,rfl,rfl,trivial⟩⟩
   by_cases e:i=j
   ·subst e;exact h0
   ·exact hz i (by omega)
  ·refine WOL.bt rfl rfl rfl (bne_iff_ne.2 h0)<|WOL.nil<|WL.yes rfl<|WL.sr<|WOL.as rfl<|WOL.nil ?_
   have e:seeB p q w=true:=List.any_eq_true.2 ⟨j,List.mem_range.2 hj,bne_iff_ne.2 h0⟩
   exact WL.ret (WL.end_ rfl ⟨by rw [e];rfl,N1.hx⟩)
 ·rintro _ g ⟨rfl,hz⟩
  have e:seeB p q w=false:=by
   refine List.any_eq_false.2 fun i hi=>?_
   rw [hz i (List.mem_range.1 hi)];decide
  refine WL.sr<|WOL.as rfl<|WOL.nil ?_
  exact WL.ret (WL.end_ rfl ⟨by rw [e];rfl,N1.hx⟩)
end
end Go.Tidy
namespace Go.Tidy
open Go Go.Proofs Tab
variable {tp:TProg}
section
variable {h:TH} {p q:Nat} {a b:Int} {v:Value} {w:List Int}
theorem mod_a {i p m:Nat} (hp:p≤m*32) (hi:i < m):((i+p) % m+m*32 - p) % m=i:=by
 have e:=Nat.div_add_mod (i+p) m
 generalize (i+p) / m=t at e
 generalize (i+p) % m=r at e
 have:(r+m*32 - p)+m*t=i+m*32:=by omega
 rw [← Nat.add_mul_mod_self_left (r+m*32 - p) m t,this,Nat.add_mul_mod_self_left,Nat.mod_eq_of_lt hi]
theorem mod_b {k p m:Nat} (hp:p≤m*32) (hk:k < m):((k+m*32 - p) % m+p) % m=k:=by
 rw [Nat.mod_add_mod,show k+m*32 - p+p=k+m*32 by omega,Nat.add_mul_mod_self_left,Nat.mod_eq_of_lt hk]
theorem wave_lim (h0:waveE w=0):∀ j,-16384≤w.getD j 0∧w.getD j 0≤16384:=by
 intro j
 by_cases hj:j < w.length
 ·have z3:=firstNZ_zero h0 (firstNZ (w.map sampE)) (List.mem_cons_of_mem _ (List.mem_cons_of_mem _ (List.mem_cons_self ..)))
  exact out_zero (firstNZ_zero z3 (sampE (w.getD j 0)) (List.mem_map.2 ⟨_,List.mem_of_getElem? (at_getD hj),rfl⟩))
 ·rw [List.getD_eq_getElem?_getD,List.getElem?_eq_none (by omega)];decide
theorem rep_lim {n:Nat} (lim:∀ j,-16384≤w.getD j 0∧w.getD j 0≤16384):∀ j,-16384≤(repL w n).getD j 0∧(repL w n).getD j 0≤16384:=by
 intro j
 by_cases hj:j < n
 ·rw [repL_get hj];exact lim _
 ·rw [List.getD_eq_getElem?_getD,List.getElem?_eq_none (by rw [repL_len];omega)];decide
theorem vTn_at {L:List Int} {i:Nat}:tapN L i (vTn p q) 0=0+-(q:Int)*L.getD (i+0) 0+((p:Int)+q)*L.getD (i+p) 0+-(p:Int)*L.getD (i+(p+q)) 0:=rfl
theorem rep_see {n i:Nat} (hp:p≤32) (hw:0 < w.length) (hi:i < w.length) (hn:i+(p+q) < n):tapN (repL w n) i (vTn p q) 0=seeN p q w ((i+p) % w.length):=by
 rw [vTn_at,repL_get (by omega),repL_get (by omega),repL_get hn,Nat.add_zero,Nat.mod_eq_of_lt hi]
 unfold seeN
 rw [mod_a (by omega) hi,Nat.mod_add_mod,Nat.add_assoc i p q,Int.neg_mul,Int.neg_mul]
 omega
theorem see_lim {k:Nat} (hp:p≤32) (hq:q≤32) (lim:∀ j,-16384≤w.getD j 0∧w.getD j 0≤16384):-4000000≤seeN p q w k∧seeN p q w k≤4000000:=by
 unfold seeN
 have e1:=lim ((k+w.length*32 - p) % w.length)
 have e2:=lim ((k+q) % w.length)
 have e3:=lim k
 generalize w.getD ((k+w.length*32 - p) % w.length) 0=x1 at *
 generalize w.getD ((k+q) % w.length) 0=x2 at *
 generalize w.getD k 0=x3 at *
 have u1:=mulb (w:=((p:Int)+(q:Int))) (x:=x3) (a:=64) (b:=16384) (by omega) (by omega)
 have u2:=mulb (w:=((q:Nat):Int)) (x:=x1) (a:=32) (b:=16384) (by omega) (by omega)
 have u3:=mulb (w:=((p:Nat):Int)) (x:=x2) (a:=32) (b:=16384) (by omega) (by omega)
 omega
theorem large_in {x:Int} (h1:-4000000≤x) (h2:x≤4000000):largeB x=false:=by
 unfold largeB readE outB
 rw [decide_eq_false (by omega),decide_eq_false (by omega)];rfl
theorem rep_big (hp:p≤32) (hq:q≤32) (hw:0 < w.length) (lim:∀ j,-16384≤w.getD j 0∧w.getD j 0≤16384):bigC (tapC (repL w (w.length+(p+q))) [] (vTn p q) w.length)=false :=
 big_not fun i hi _=>by
  rw [rep_see hp hw hi (by omega)]
  have:=see_lim (w:=w) (k:=(i+p) % w.length) hp hq lim
  exact large_in this.1 this.2
theorem tapK_v0 {i:Nat}:tapK [] i (vTn p q)=true:=rfl
theorem rep_any (hp:p≤32) (hw:0 < w.length):(valC (tapC (repL w (w.length+(p+q))) [] (vTn p q) w.length)).any (fun n=>n != 0)=seeB p q w:=by
 rw [Bool.eq_iff_iff,List.any_eq_true,seeB,List.any_eq_true]
 constructor
 ·rintro ⟨x,hx,hx0⟩
  unfold valC tapC at hx
  rw [List.map_map] at hx
  obtain ⟨i,hi,rfl⟩:=List.mem_map.1 hx
  have hi:=List.mem_range.1 hi
  refine ⟨(i+p) % w.length,List.mem_range.2 (Nat.mod_lt _ hw),?_⟩
  rw [← rep_see hp hw hi (n:=w.length+(p+q)) (by omega)]
  exact hx0
 ·rintro ⟨k,hk,hk0⟩
  have hk:=List.mem_range.1 hk
  have hi:(k+w.length*32 - p) % w.length < w.length:=Nat.mod_lt _ hw
  refine ⟨seeN p q w k,?_,hk0⟩
  unfold valC tapC
  rw [List.map_map]
  refine List.mem_map.2 ⟨(k+w.length*32 - p) % w.length,List.mem_range.2 hi,?_⟩
  show cond (tapK [] ((k+w.length*32 - p) % w.length) (vTn p q)) (tapN _ ((k+w.length*32 - p) % w.length) (vTn p q) 0) 0=_
  rw [tapK_v0,Bool.cond_true,rep_see hp hw hi (by omega),mod_b (by omega) hk]
theorem k1220 (H:Has tp) (x:Int) (h:TH):CallW Tryz.prog tp (.func (.func 70) #[] #[]) #[zi x] h fun v h'=>v=.bool (x != 0)∧h'=h:=by
 refine CallW.fnL (H.fn 70 f1220 rfl rfl) ?_
 exact WL.sr<|WOL.as rfl<|WOL.nil<|WL.sr<|WOL.mv rfl<|WOL.bi rfl rfl rfl<|WOL.as rfl<|WOL.nil<|WL.ret (WL.end_ rfl ⟨rfl,rfl⟩)
theorem trc_rep {g:TH} {c n:Nat} (B:At g c (.cells (cat encI (repL w n)) true true 3)):TrcH g (slA c n) (.slice none 0 0) (repL w n) []:=by
 have t:TrcO 0 g c (.slice none 0 0) (repL w n) []:=⟨B,.inl ⟨rfl,rfl⟩⟩
 have:=t.trc
 rwa [repL_len] at this
set_option maxHeartbeats 4000000 in
set_option maxRecDepth 10000 in
theorem k1173 (H:Has tp) (s:SlL encI 1 h v w) (hm:w.length≤1000000) (f:Free0 h.next h):CallW Tryz.prog tp (.func (.func 10) #[] #[]) #[.agg #[zi a,zi b],v] h fun u h'=>HX h h'∧u=.tuple #[.bool (decide (firstNZ [chordE a b,waveE w]=0) && seeB a.toNat b.toNat w),zi (firstNZ [chordE a b,waveE w])]:=by
 refine CallW.fnL (H.fn 10 f1173 rfl rfl) ?_
 refine WL.sr<|WOL.box rfl fun h1 N1=>WOL.as rfl<|WOL.as rfl<|WOL.nil<|keep [(1,_),(2,_)] ⟨rfl,rfl,trivial⟩ ?_
 have n1:=N1.next
 have A2:At h1 h.next (.cells [zi a,zi b] true true 31):=N1.at_
 refine WL.seq<|WL.sr<|WOL.ld rfl (load_row tp1128 A2 rfl (Nat.le_of_ble_eq_true rfl))<|WOL.cl1 rfl rfl ((k1121 H a b _).mono ?_)
 rintro u h2 ⟨rfl,X2⟩
 refine WOL.mv rfl<|WOL.cl1 rfl rfl ((k1210 H ((s.hx N1.hx).hx X2) hm).mono ?_)
 rintro u h3 ⟨rfl,X3⟩
 refine WOL.bsl rfl u166 tp30 (by decide) (by decide) (by decide) (filled_ints _ _) fun h4 N4=>WOL.cl1 rfl rfl ((k71 H (l:=[_,_]) N4.at_.get (by simp)).mono ?_)
 rintro u h4 ⟨rfl,rfl⟩
 have X:=(X2.trans X3).trans N4.hx
 have Y:=N1.hx.trans X
 replace A2:=A2.hx X
 have yn:=Y.next
 refine WOL.as rfl<|WOL.nil<|keep [(1,_),(2,_),(6,_)] ⟨rfl,rfl,rfl,trivial⟩ ?_
 generalize hE:firstNZ [chordE a b,waveE w]=E
 by_cases e0:E≠0
 ·refine WL.sr<|WOL.mv rfl<|WOL.bt rfl rfl rfl (bne_iff_ne.2 e0)<|WOL.nil<|WL.yes rfl<|WL.sr<|WOL.mv rfl<|WOL.as rfl<|WOL.as rfl<|WOL.nil ?_
  exact WL.ret (WL.end_ rfl ⟨Y,by rw [decide_eq_false e0];rfl⟩)
 have e0:E=0:=Classical.not_not.1 e0
 subst e0
 have all:=firstNZ_zero hE
 obtain ⟨p1,p2,p3,p4⟩:=chord_ok (all (chordE a b) (by simp))
 have w0:=all (waveE w) (by simp)
 obtain ⟨w1,w2⟩:=wave_len w0
 have lim:=wave_lim w0
 obtain ⟨p,rfl⟩:∃ p:Nat,a=p:=⟨a.toNat,by omega⟩
 obtain ⟨q,rfl⟩:∃ q:Nat,b=q:=⟨b.toNat,by omega⟩
 rw [Int.toNat_natCast,Int.toNat_natCast]
 refine WL.sr<|WOL.mv rfl<|WOL.bf rfl rfl rfl rfl<|WOL.nil<|keep [(1,_),(2,_),(16,_)] ⟨rfl,rfl,rfl,trivial⟩<|WL.no rfl<|WL.skip ?_
 refine WL.sr<|WOL.mv rfl<|WOL.mv rfl<|WOL.len rfl (s.hx Y) u29<|WOL.ld rfl (load_row tp1128 A2 rfl (Nat.le_of_ble_eq_true rfl))<|WOL.ld rfl (load_row tp1128 A2 rfl (Nat.le_of_ble_eq_true rfl))<|WOL.al tp1117 fun h6 N6=>?_
 have n6:=N6.next
 have Y6:=Y.trans N6.hx
 refine WOL.lk1 rfl rfl fun M=>((k1199 H (a:=p) (b:=q) (by omega) (by omega) (by omega) (by omega) _).mono ?_)
 rintro u g1 ⟨rfl,G1⟩
 replace G1:=G1.relock
 generalize g1.withLock h6.lock=g1 at *
 refine WOL.add (m:=((w.length:Nat):Int)) (n:=(p:Int)+q) rfl rfl (by omega) (by omega) ?_
 rw [show ((w.length:Nat):Int)+((p:Int)+q)=((w.length+(p+q):Nat):Int) by omega]
 have Y7:=Y6.trans G1
 have n7:=G1.next
 refine WOL.lv3 [some h4.next,some h.next] rfl rfl rfl rfl rfl fun ml hl=>((k1211 (h:=TH.withLock _ ml) (n:=w.length+(p+q)) H ((s.hx Y7).relock ml) w1 hm (by omega) ((f.on Y7).heldO hl (fun b hb=>by simp at hb;omega))).mono ?_)
 rintro u g2 ⟨G2,c,rfl,hc,B⟩
 replace G2:=G2.relock
 replace B:=B.relock g1.lock
 generalize g2.withLock g1.lock=g2 at *
 have n8:=G2.next
 refine WOL.lk1 rfl rfl fun M=>((k1194 H (a:=p) (b:=q) (by omega) (by omega) (by omega) (by omega) _).mono ?_)
 rintro u g3 ⟨G3,c3,rfl,hc3,Ac⟩
 replace G3:=G3.relock
 replace Ac:=Ac.relock g2.lock
 generalize g3.withLock g2.lock=g3 at *
 have n9:=G3.next
 rw [← vTapD] at Ac
 have Y9:=(Y7.trans G2).trans G3
 have rl:=rep_lim (n:=w.length+(p+q)) lim
 refine WOL.lv2 [some h4.next] rfl rfl rfl rfl fun ml hl=>((k1193 (h:=TH.withLock _ ml) (n:=0) (W:=p+q) (c:=-(p:Int)) H ((trc_rep (B.hx G3)).relock ml) ((SlL.own eS Ac rfl).relock ml) (vTaps (by omega) (by omega) (by omega) (by omega)) (fun j=>by have:=rl j;omega) (by decide) (by decide) (by omega) (by omega) (by omega) (by rw [repL_len];omega) (by simp) (fun z hz=>by cases hz) (by omega) ((f.on Y9).heldO hl (fun b hb=>by simp at hb;omega))).mono ?_)
 rintro u g4 ⟨G4,R⟩
 replace G4:=G4.relock
 rw [repL_len,decide_eq_false (by omega),Nat.add_sub_cancel] at R
 obtain ⟨bv,b5,m5,k5,rfl,hv,to⟩:=R.ok rfl (rep_big (by omega) (by omega) w1 lim)
 have Bv:=to.v.relock g3.lock
 generalize g4.withLock g3.lock=g4 at *
 rw [tapC_len]
 have A7:=(((N6.at_.hx G1).hx G2).hx G3).hx G4
 have n10:=G4.next
 have lb:=Bv.lt
 have hv':g3.next≤bv:=hv
 have Y10:=Y9.trans G4
 refine WOL.mv rfl<|WOL.ex rfl rfl<|WOL.ex rfl rfl<|WOL.sto (vs:=[zi _,slA bv _,.slice b5 m5 k5]) rfl rfl tp1117 A7 rfl rfl (Nat.le_of_ble_eq_true rfl) rfl (f.hx Y10) (by omega) fun g5 P5=>WOL.as rfl<|WOL.nil<|keep [(7,_),(8,_)] ⟨rfl,rfl,trivial⟩ ?_
 have C7:=P5.at_
 have Bw:=P5.oth _ _ (by omega) Bv
 have lv:(valC (tapC (repL w (w.length+(p+q))) [] (vTn p q) w.length)).length=w.length:=by
  show (List.map _ _).length=_
  rw [List.length_map,tapC_len]
 refine WL.sr<|WOL.fa rfl (fa_of fo1117_1)<|WOL.ld rfl (load_one tp29 C7 rfl)<|WOL.cl2 rfl rfl rfl ((k1064L H (SlL.own eI Bw lv) (by rw [lv];omega) (fun x=>k1220 H x _)).mono ?_)
 rintro u g6 ⟨rfl,rfl⟩
 rw [rep_any (by omega) w1]
 exact WOL.mv rfl<|WOL.as rfl<|WOL.as rfl<|WOL.nil<|WL.ret (WL.end_ rfl ⟨P5.hx _ Y10 (by omega),rfl⟩)
end
end Go.Tidy
namespace Go.Tidy
open Go Go.Proofs Tab
variable {tp:TProg}
section
variable {h h0:TH} {v w fv:Value} {L M:List Int} {p:Int→Bool}
theorem k18L (H:Has tp) (s:SlL encI 1 h v L) (r:SlL encI 1 h w M) (hl:L.length≤1000000) (hm:M.length≤1000000):CallW Tryz.prog tp (.func (.func 22) #[] #[]) #[v,w] h fun u h'=>u=.bool (decide (L=M))∧h'=h:=by
  refine CallW.fnL (H.fn 22 f18 rfl rfl) ?_
  refine WL.sr<|WOL.as rfl<|WOL.nil<|keep [(0,_),(1,_)] ⟨rfl,rfl,trivial⟩ ?_
  by_cases c:(L.length:Int)=(M.length:Int)
  · refine WL.seq<|WL.sr<|WOL.mv rfl<|WOL.len rfl s u29<|WOL.mv rfl<|WOL.len rfl r u29<|WOL.bf rfl rfl rfl (bne_eq_false_iff_eq.2 c)<|WOL.nil<|keep [(0,_),(1,_),(10,_)] ⟨rfl,rfl,rfl,trivial⟩<|WL.no rfl<|WL.skip ?_
    refine WL.seq<|WL.sr<|WOL.as rfl<|WOL.nil<|keep [(0,_),(1,_),(5,_)] ⟨rfl,rfl,rfl,trivial⟩ ?_
    refine WL.forz (α:=Unit) L.length (fun j _ g=>g=h∧∀ i,i < j→L[i]?=M[i]?) (fun j _=>[(0,v),(1,w),(5,zi (j:Nat))]) (fun j _=>[(0,v),(1,w),(5,zi (j:Nat))]) () ⟨rfl,fun i hi=>absurd hi (by omega)⟩ ⟨rfl,rfl,rfl,trivial⟩ ?_ ?_ (fun _ _ _=>⟨rfl,rfl,rfl,trivial⟩) ?_ ?_
    · rintro j _ g hj ⟨rfl,_⟩
      exact WOL.mv rfl<|WOL.mv rfl<|WOL.len rfl s u29<|WOL.bi rfl rfl rfl<|WOL.nil fun a q=>⟨rfl,q.sub ⟨rfl,rfl,rfl,rfl,trivial⟩⟩
    · rintro j _ g hj hH
      exact WOL.mv rfl<|WOL.inc rfl (by omega)<|WOL.as rfl<|WOL.nil fun a q=>⟨hH,q.sub ⟨rfl,rfl,rfl,trivial⟩⟩
    · rintro j _ g hj ⟨rfl,hz⟩
      have e1:L[j]?=some (L.getD j 0):=at_getD hj
      have e2:M[j]?=some (M.getD j 0):=at_getD (by omega)
      obtain ⟨_,_,ca,fa,wa,ela,a1,a2,a3,a4,a5⟩:=s.at eI u29 tp3 e1 .i64
      obtain ⟨_,_,cb,fb,wb,elb,b1,b2,b3,b4,b5⟩:=r.at eI u29 tp3 e2 .i64
      have gxa:=a5 0 (by decide)
      have gxb:=b5 0 (by decide)
      rw [Nat.add_zero] at gxa gxb
      refine WL.sr<|WOL.mv rfl<|WOL.mv rfl<|WOL.ix rfl rfl a1<|WOL.ld rfl (load_one tp3 a2 gxa)<|WOL.mv rfl<|WOL.mv rfl<|WOL.ix rfl rfl b1<|WOL.ld rfl (load_one tp3 b2 gxb) ?_
      by_cases h0:L.getD j 0=M.getD j 0
      · refine WOL.bf rfl rfl rfl (bne_eq_false_iff_eq.2 h0)<|WOL.nil<|WL.no rfl<|WL.skip fun a k=>⟨(),⟨rfl,fun i hi=>?_⟩,k.sub ⟨rfl,rfl,rfl,trivial⟩⟩
        by_cases e:i=j
        · subst e;rw [e1,e2,h0]
        · exact hz i (by omega)
      · refine WOL.bt rfl rfl rfl (bne_iff_ne.2 h0)<|WOL.nil<|WL.yes rfl<|WL.sr<|WOL.as rfl<|WOL.nil ?_
        exact WL.ret (WL.end_ rfl ⟨by rw [decide_eq_false (fun e:L=M=>h0 (by rw [e]))];rfl,rfl⟩)
    · rintro _ g ⟨rfl,hz⟩
      have e:L=M:=List.ext_getElem? fun i=>by
        by_cases hi:i < L.length
        · exact hz i hi
        · rw [List.getElem?_eq_none (by omega),List.getElem?_eq_none (by omega)]
      exact WL.sr<|WOL.as rfl<|WOL.nil<|WL.ret (WL.end_ rfl ⟨by rw [decide_eq_true e];rfl,rfl⟩)
  · refine WL.seq<|WL.sr<|WOL.mv rfl<|WOL.len rfl s u29<|WOL.mv rfl<|WOL.len rfl r u29<|WOL.bt rfl rfl rfl (bne_iff_ne.2 c)<|WOL.nil<|WL.yes rfl<|WL.sr<|WOL.as rfl<|WOL.nil ?_
    exact WL.ret (WL.end_ rfl ⟨by rw [decide_eq_false (fun e:L=M=>c (by rw [e]))];rfl,rfl⟩)
theorem k1130L (H:Has tp) {e:Int} {l:List Int} (i:SlL encI 1 h v l) (hl:l.length≤1000000) (c:(e≠0∧l=[])∨(e=0∧SlL encI 1 h w l)) :
  CallW Tryz.prog tp (.func (.func 19) #[] #[]) #[v,zi e,zi e,w] h fun u h'=>u=.bool true∧h'=h:=by
 refine CallW.fnL (H.fn 19 f1130 rfl rfl) ?_
 refine WL.sr<|WOL.as rfl<|WOL.nil<|keep [(0,_),(1,_),(2,_),(3,_)] ⟨rfl,rfl,rfl,rfl,trivial⟩ ?_
 have fin:∀ w',SlL encI 1 h w' l→∀ y,Kn [(0,v),(1,zi e),(2,zi e),(3,w')] y→W Tryz.prog tp false (.seq (.reg r1130_3) .ret) y h (Fin Tryz.prog [.tmp 8] fun u h'=>u=.bool true∧h'=h):=by
  intro w' i'
  refine WL.sr<|WOL.mv rfl<|WOL.mv rfl<|WOL.cl2 rfl rfl rfl ((k18L H i i' hl hl).mono ?_)
  rintro u h2 ⟨rfl,rfl⟩
  rw [show decide (l=l)=true from decide_eq_true rfl]
  exact WOL.mv rfl<|WOL.now (b:=true) rfl rfl<|WOL.mv rfl<|WOL.now (b:=true) rfl rfl<|WOL.mv rfl<|WOL.now (b:=true) rfl rfl<|WOL.bt rfl rfl rfl (beq_iff_eq.2 rfl)<|WOL.pkt rfl rfl<|WOL.as rfl<|WOL.nil<|WL.ret (WL.end_ rfl ⟨rfl,rfl⟩)
 rcases c with ⟨e0,rfl⟩ | ⟨e0,i'⟩
 ·exact WL.seq<|WL.sr<|WOL.mv rfl<|WOL.bt rfl rfl rfl (bne_iff_ne.2 e0)<|WOL.nil<|WL.yes rfl<|WL.reg<|WOL.as rfl<|WOL.nil<|kto (fin _ SlL.nil) ⟨rfl,rfl,rfl,rfl,trivial⟩
 ·exact WL.seq<|WL.sr<|WOL.mv rfl<|WOL.bf rfl rfl rfl (bne_eq_false_iff_eq.2 e0)<|WOL.nil<|WL.no rfl<|WL.skip<|kto (fin _ i') ⟨rfl,rfl,rfl,rfl,trivial⟩
theorem k1071F (H:Has tp) (X0:HX h0 h) (s:SlL encI 1 h v L) (hl:L.length≤1000000) (hf:∀ x g,x ∈ L→HX h0 g→CallW Tryz.prog tp fv #[zi x] g fun v g'=>v=.bool (p x)∧HX g g') :
  CallW Tryz.prog tp (.func (.func 124) #[] #[]) #[v,fv] h fun u h'=>HX h h'∧((u=zi (-1)∧∀ i,i < L.length→p (L.getD i 0)=false)∨∃ i:Nat,u=zi (i:Nat)∧i < L.length∧p (L.getD i 0)=true∧∀ j,j < i→p (L.getD j 0)=false):=by
 refine CallW.fnL (H.fn 124 f1071 rfl rfl) ?_
 refine WL.sr<|WOL.as rfl<|WOL.nil ?_
 refine WL.seq<|WL.sr<|WOL.mv rfl<|WOL.len rfl s u29<|WOL.mv rfl<|WOL.nil<|keep [(0,_),(1,_),(7,_),(8,_)] ⟨rfl,rfl,rfl,rfl,trivial⟩ ?_
 refine WL.upto (α:=Unit) L.length (fun j _ g=>HX h g∧∀ i,i < j→p (L.getD i 0)=false) (fun _ _=>[(0,v),(1,fv),(7,zi (L.length:Nat))]) () rfl rfl (by omega) ⟨HX.refl _,fun i hi=>absurd hi (by omega)⟩ ⟨rfl,rfl,rfl,rfl,trivial⟩ (fun _ _=>rfl) (fun _ _ _=>⟨rfl,rfl,rfl,rfl,trivial⟩) (fun _ _ _=>⟨rfl,rfl,rfl,rfl,trivial⟩) ?_ ?_
 ·rintro j _ g hj ⟨X,hz⟩
  have e1:L[j]?=some (L.getD j 0):=at_getD hj
  obtain ⟨_,_,ca,fa,wa,ela,a1,a2,a3,a4,a5⟩:=(s.hx X).at eI u29 tp3 e1 .i64
  have gxa:=a5 0 (by decide)
  rw [Nat.add_zero] at gxa
  refine WL.sr<|WOL.mv rfl<|WOL.as rfl<|WOL.nil<|keep [(0,_),(1,_),(5,_),(7,_),(8,_)] ⟨rfl,rfl,rfl,rfl,rfl,trivial⟩ ?_
  refine WL.sr<|WOL.mv rfl<|WOL.mv rfl<|WOL.mv rfl<|WOL.ix rfl rfl a1<|WOL.ld rfl (load_one tp3 a2 gxa)<|WOL.cl1 rfl rfl ((hf _ g (List.mem_of_getElem? e1) (X0.trans X)).mono ?_)
  rintro u g2 ⟨rfl,X2⟩
  refine WOL.nil<|keep [(0,_),(1,_),(5,_),(7,_),(8,_),(16,_)] ⟨rfl,rfl,rfl,rfl,rfl,rfl,trivial⟩ ?_
  cases hp:p (L.getD j 0) with
  | true =>
   refine WL.yes rfl<|WL.sr<|WOL.mv rfl<|WOL.as rfl<|WOL.nil ?_
   exact WL.ret (WL.end_ rfl ⟨X.trans X2,.inr ⟨j,rfl,hj,hp,hz⟩⟩)
  | false =>
   refine WL.no rfl<|WL.skip fun a k=>⟨(),⟨X.trans X2,fun i hi=>?_⟩,k.sub ⟨rfl,rfl,rfl,rfl,trivial⟩⟩
   by_cases e:i=j
   ·subst e;exact hp
   ·exact hz i (by omega)
 ·rintro _ g ⟨X,hz⟩
  exact WL.sr<|WOL.as rfl<|WOL.nil<|WL.ret (WL.end_ rfl ⟨X,.inl ⟨rfl,hz⟩⟩)
end
end Go.Tidy
namespace Go.Tidy
open Go Go.Proofs Tab
variable {tp:TProg}
section
variable {h h0:TH} {v w fv:Value} {L M:List Int} {p:Int→Bool}
theorem SlL.front {α:Type} {enc:α→List Value} {n b m i:Nat} {A R:List α} {fix wr:Bool} {el:TypeId} (E:Enc enc n) (hb:At h b (.cells (cat enc (A ++ R)) fix wr el)) (hi:A.length=i) (hm:i≤m):SlL enc n h (.slice (some ⟨b,0,none⟩) i m) A:=by
 subst hi
 refine ⟨_,m,rfl,hm,E.cat_len A,.inr ⟨b,0,_,_,_,_,rfl,hb,?_,?_⟩⟩
 ·rw [List.drop_zero,cat_append,← E.cat_len A,List.take_left]
 ·rw [cat_append,List.length_append,E.cat_len A];omega
set_option maxHeartbeats 4000000 in
set_option maxRecDepth 10000 in
theorem k1217 (H:Has tp) (X0:HX h0 h) (O:OwnL encI h0.next h v 3 L) (hl:L.length≤1000000) (f:Free0 h0.next h) (hf:∀ x g,x ∈ L→HX h0 g→CallW Tryz.prog tp fv #[zi x] g fun v g'=>v=.bool (p x)∧HX g g') :
    CallW Tryz.prog tp (.func (.func 61) #[] #[]) #[v,fv] h fun u h'=>HX h0 h'∧SlL encI 1 h' u (L.filter fun x=>!p x)∧∃ b m c,u=.slice b m c∧∀ z,bl u=some z→h0.next≤z:=by
  refine CallW.fnL (H.fn 61 f1217 rfl rfl) ?_
  obtain ⟨bo,e5⟩:=OwnF.form (Or.inl O)
  have lo:=fun z (hz:bl v=some z)=>(O.lt hz).1
  refine WL.sr<|WOL.as rfl<|WOL.nil<|keep [(0,_),(1,_)] ⟨rfl,rfl,trivial⟩ ?_
  refine WL.sr<|WOL.mv rfl<|WOL.mv rfl<|WOL.cl2 rfl rfl rfl ((k1071F H X0 (O.sl eI) hl hf).mono ?_)
  rintro u h1 ⟨X1,R⟩
  refine WOL.as rfl<|WOL.nil<|keep [(0,_),(1,_),(5,_)] ⟨rfl,rfl,rfl,trivial⟩ ?_
  rcases R with ⟨rfl,hz⟩ | ⟨i0,rfl,hi0,hp0,hz⟩
  · refine WL.seq<|WL.sr<|WOL.mv rfl<|WOL.bt rfl rfl rfl rfl<|WOL.nil<|WL.yes rfl<|WL.sr<|WOL.mv rfl<|WOL.as rfl<|WOL.nil ?_
    have e:(L.filter fun x=>!p x)=L:=List.filter_eq_self.2 fun x hx=>by
      obtain ⟨i,hi⟩:=List.mem_iff_getElem?.1 hx
      have hlt:=(List.getElem?_eq_some_iff.1 hi).1
      have:=hz i hlt
      rw [List.getD_eq_getElem?_getD,hi] at this
      show (!p x)=true
      rw [show p x=false from this];rfl
    refine WL.ret (WL.end_ rfl ⟨X0.trans X1,?_,_,_,_,e5,lo⟩)
    rw [e]
    exact (O.sl eI).hx X1
  rcases O with ⟨_,rfl⟩ | ⟨hne,b,rfl,hb,A⟩
  · exact absurd hi0 (Nat.not_lt_zero _)
  replace A:=A.hx X1
  have n1:=X1.next
  have n0:=X0.next
  have nb:=A.lt
  refine WL.seq<|WL.sr<|WOL.mv rfl<|WOL.bf rfl rfl rfl (by first | exact decide_eq_false (by omega) | exact beq_eq_false_iff_ne.2 (by omega) | exact bne_eq_false_iff_eq.2 (by omega))<|WOL.nil<|WL.no rfl<|WL.skip ?_
  refine WL.seq<|WL.sr<|WOL.mv rfl<|WOL.inc rfl (by omega)<|WOL.as rfl<|WOL.nil<|keep [(0,_),(1,_),(5,_),(6,_)] ⟨rfl,rfl,rfl,rfl,trivial⟩ ?_
  let q:=fun x=>!p x
  have t0:(L.take (i0+1)).filter q=L.take i0:=by
    rw [List.take_add_one,at_getD hi0,List.filter_append]
    have a1:(L.take i0).filter q=L.take i0:=List.filter_eq_self.2 fun x hx=>by
      obtain ⟨i,hi⟩:=List.mem_iff_getElem?.1 hx
      have hlt:i < i0:=by have:=(List.getElem?_eq_some_iff.1 hi).1;rw [List.length_take] at this;omega
      rw [List.getElem?_take_of_lt hlt] at hi
      have:=hz i hlt
      rw [List.getD_eq_getElem?_getD,hi] at this
      show (!p x)=true
      rw [show p x=false from this];rfl
    have a2:[L.getD i0 0].filter q=[]:=by
      show (match q (L.getD i0 0) with | true=>_ | false=>_)=_
      rw [show q (L.getD i0 0)=false by show (!p (L.getD i0 0))=false;rw [hp0];rfl];rfl
    rw [a1]
    show L.take i0 ++ [L.getD i0 0].filter q=_
    rw [a2,List.append_nil]
  refine WL.forz (α:=List Int × Nat) (L.length - (i0+1)) (fun j x g=>x.1.length=L.length∧x.2≤i0+j∧x.1.take x.2=(L.take (i0+1+j)).filter q∧(∀ n,i0+1+j≤n→x.1[n]?=L[n]?)∧At g b (.cells (cat encI x.1) false true 3)∧HX h0 g∧Free0 h0.next g∧h1.next≤g.next)
    (fun j x=>[(0,.slice (some ⟨b,0,none⟩) L.length L.length),(1,fv),(5,zi (x.2:Nat)),(6,zi ((i0+1+j:Nat):Int))]) (fun j x=>[(0,.slice (some ⟨b,0,none⟩) L.length L.length),(1,fv),(5,zi (x.2:Nat)),(6,zi ((i0+1+j:Nat):Int))]) (L,i0)
    ⟨rfl,by omega,t0.symm,fun n _=>rfl,A,X0.trans X1,f.hx X1,Nat.le_refl _⟩ ⟨rfl,rfl,rfl,rfl,trivial⟩ ?_ ?_ (fun _ _ _=>⟨rfl,rfl,rfl,rfl,trivial⟩) ?_ ?_
  · rintro j x g hj ⟨l1,l2,l3,l4,B,Y,f',n'⟩
    have s:SlL encI 1 g (.slice (some ⟨b,0,none⟩) L.length L.length) x.1:=SlL.own eI B l1
    refine WOL.mv rfl<|WOL.mv rfl<|WOL.len rfl s u29<|WOL.bi rfl rfl rfl<|WOL.nil fun a k=>⟨rfl,?_⟩
    rw [l1] at k
    have k:=k.sub (M:=(19,.bool (decide (((i0+1+j:Nat):Int) < (L.length:Nat))))::[(0,.slice (some ⟨b,0,none⟩) L.length L.length),(1,fv),(5,zi (x.2:Nat)),(6,zi ((i0+1+j:Nat):Int))]) ⟨rfl,rfl,rfl,rfl,rfl,trivial⟩
    rwa [show decide (((i0+1+j:Nat):Int) < (L.length:Nat))=decide (((j:Nat):Int) < ((L.length - (i0+1):Nat):Int)) from decide_eq_decide.2 (by omega)] at k
  · rintro j x g hj hH
    refine WOL.mv rfl<|WOL.inc rfl (by omega)<|WOL.as rfl<|WOL.nil fun a q=>⟨hH,?_⟩
    exact q.sub ⟨rfl,rfl,rfl,rfl,trivial⟩
  · rintro j ⟨W,i⟩ g hj ⟨l1,l2,l3,l4,B,Y,f',n'⟩
    replace l1:W.length=L.length:=l1
    replace l2:i≤i0+j:=l2
    replace l3:W.take i=(L.take (i0+1+j)).filter q:=l3
    replace B:At g b (.cells (cat encI W) false true 3):=B
    have l5:W[i0+1+j]?=L[i0+1+j]?:=l4 _ (Nat.le_refl _)
    have e1:L[i0+1+j]?=some (L.getD (i0+1+j) 0):=at_getD (by omega)
    rw [e1] at l5
    have tk:(L.take (i0+1+(j+1))).filter q=W.take i ++ [L.getD (i0+1+j) 0].filter q:=by
      rw [show i0+1+(j+1)=i0+1+j+1 from rfl,List.take_add_one,e1,List.filter_append,l3];rfl
    generalize L.getD (i0+1+j) 0=x at *
    have s:SlL encI 1 g (.slice (some ⟨b,0,none⟩) L.length L.length) W:=SlL.own eI B l1
    obtain ⟨_,_,ca,fa,wa,ela,a1,a2,a3,a4,a5⟩:=s.at eI u29 tp3 l5 .i64
    have gxa:=a5 0 (by decide)
    rw [Nat.add_zero] at gxa
    refine WL.sr<|WOL.mv rfl<|WOL.mv rfl<|WOL.ix rfl rfl a1<|WOL.ld rfl (load_one tp3 a2 gxa)<|WOL.as rfl<|WOL.nil<|keep [(0,_),(1,_),(5,_),(6,_),(7,_)] ⟨rfl,rfl,rfl,rfl,rfl,trivial⟩ ?_
    refine WL.sr<|WOL.mv rfl<|WOL.mv rfl<|WOL.cl1 rfl rfl ((hf x g (List.mem_of_getElem? e1) Y).mono ?_)
    rintro u g2 ⟨rfl,X2⟩
    have B2:=B.hx X2
    have nx:=X2.next
    refine WOL.nt rfl<|WOL.nil<|keep [(0,_),(1,_),(5,_),(6,_),(7,_),(29,_)] ⟨rfl,rfl,rfl,rfl,rfl,rfl,trivial⟩ ?_
    cases hp:p x with
    | true =>
      refine WL.no rfl<|WL.skip fun a k=>⟨(W,i),⟨l1,by show i≤i0+(j+1);omega,?_,fun n hn=>l4 n (by omega),B2,Y.trans X2,f'.hx X2,by omega⟩,k.sub ⟨rfl,rfl,rfl,rfl,trivial⟩⟩
      show W.take i=_
      rw [tk]
      have:[x].filter q=[]:=by
        show (match q x with | true=>_ | false=>_)=_
        rw [show q x=false by show (!p x)=false;rw [hp];rfl];rfl
      rw [this,List.append_nil]
    | false =>
      have hil:i < W.length:=by omega
      refine WL.yes rfl<|WL.sr<|WOL.mv rfl<|WOL.mv rfl<|WOL.mv rfl<|WOL.ix rfl rfl (indexAddr_tp u29 tp3 (by omega))<|WOL.sto (vs:=encI x) rfl rfl tp3 B2 rfl rfl (by rw [eI.cat_len];omega) rfl (f'.hx X2) hb fun g3 P3=>WOL.nil<|keep [(0,_),(1,_),(5,_),(6,_)] ⟨rfl,rfl,rfl,rfl,trivial⟩ ?_
      have B3:=P3.at_
      rw [Nat.zero_add,eI.set hil] at B3
      refine WL.reg<|WOL.mv rfl<|WOL.inc rfl (by omega)<|WOL.as rfl<|WOL.nil fun a k=>⟨(W.set i x,i+1),⟨by show (W.set i x).length=_;rw [List.length_set];exact l1,by show i+1≤i0+(j+1);omega,?_,fun n hn=>?_,B3,P3.hx _ (Y.trans X2) hb,⟨by rw [P3.floor];exact (f'.hx X2).floor,fun l hl=>(f'.hx X2).lock l (by rw [← P3.lock];exact hl)⟩,by rw [P3.next];omega⟩,k.sub ⟨rfl,rfl,rfl,rfl,trivial⟩⟩
      · show (W.set i x).take (i+1)=_
        have:[x].filter q=[x]:=by
          show (match q x with | true=>_ | false=>_)=_
          rw [show q x=true by show (!p x)=true;rw [hp];rfl];rfl
        rw [tk,this,List.take_add_one,List.getElem?_set_self hil,List.take_set_of_le (Nat.le_refl _)];rfl
      · show (W.set i x)[n]?=_
        rw [List.getElem?_set_ne (by omega)]
        exact l4 n (by omega)
  · rintro ⟨W,i⟩ g ⟨l1,l2,l3,l4,B,Y,f',n'⟩
    replace l1:W.length=L.length:=l1
    replace l2:i≤i0+(L.length - (i0+1)):=l2
    replace l3:W.take i=(L.take (i0+1+(L.length - (i0+1)))).filter q:=l3
    replace B:At g b (.cells (cat encI W) false true 3):=B
    rw [show i0+1+(L.length - (i0+1))=L.length by omega,List.take_length] at l3
    obtain ⟨g2,c1,c2,c3,c4,c5⟩:=clear_part (z0:=(0:Int)) (k:=L.length - i) (off:=i) (cap:=L.length - i) (sT:=24) eI (by decide) u29 tp3 B (by omega) f' hb
    have sf:=sliceT_from (off:=0) (k:=.i64) (lo:=i) u29 tp3 (Nat.le_refl L.length) (by omega) B (.inr rfl)
    rw [Nat.zero_add] at sf
    refine WL.sr<|WOL.mv rfl<|WOL.mv rfl<|WOL.slG rfl rfl rfl rfl sf<|WOL.clrK rfl c1<|WOL.nil<|keep [(0,_),(5,_)] ⟨rfl,rfl,trivial⟩ ?_
    have n3:g2.next=g.next:=c4
    refine WL.sr<|WOL.mv rfl<|WOL.mv rfl<|WOL.slG rfl rfl rfl rfl (sliceT_to (k:=.i64) (hi:=i) u29 tp3 (Nat.le_refl L.length) (by omega) c5 (.inr rfl))<|WOL.as rfl<|WOL.nil ?_
    have lf:((L.filter q)).length=i:=by rw [← l3,List.length_take];omega
    refine WL.ret (WL.end_ rfl ⟨c2 _ Y hb,?_,_,_,_,rfl,fun z hz=>by cases hz;exact hb⟩)
    rw [show ((W,i).1.take i)=L.filter q from l3] at c5
    rw [show (L.filter fun x=>!p x)=L.filter q from rfl]
    exact SlL.front (m:=L.length) eI c5 lf (by omega)
end
end Go.Tidy
namespace Go.Tidy
open Go Go.Proofs Tab
variable {tp:TProg}
section
variable {P:Program}
theorem pv_eqJ {t:TypeId} {d:Nat} {k:IntKind} {a b:Int} (hu:P.underlying t=some (.int k)):pv P (Op.equalIn (d+1) t (.int k a) (.int k b))=some (a == b):=by
 rw [Op.equalIn,pv_bind,pv_underlying hu]
 simp [pv_pure]
theorem pv_eqr2 {t : TypeId} {f1 f2 : Field} {a b c d : Int} (hu : P.underlying t = some (.struct #[f1, f2])) (hs : P.stoodInHeld t = false) (h1 : f1.offset = 0) (h2 : f2.offset = 1) (m1 : f1.name ≠ "_") (m2 : f2.name ≠ "_") (u1 : P.underlying f1.type = some (.int .i64)) (u2 : P.underlying f2.type = some (.int .i64)) :
    pv P (Op.equal t (.agg #[.int .i64 a,.int .i64 b]) (.agg #[.int .i64 c,.int .i64 d]))=some (cond (a == c) (b == d) false):=by
  show pv P (Op.equalIn (9998+1+1) t _ _)=_
  rw [Op.equalIn,pv_bind,pv_underlying hu]
  simp only [Option.bind_some]
  rw [pv_bind,pv_program]
  simp only [Option.bind_some,hs]
  have e1:=pv_eqJ (d:=9998) (a:=a) (b:=c) u1
  have e2:=pv_eqJ (d:=9998) (a:=b) (b:=d) u2
  have q1:=pv_part0 (v:=Value.int .i64 a) (w:=Value.int .i64 b) u1
  have q2:=pv_part1 (v:=Value.int .i64 a) (w:=Value.int .i64 b) u2
  have r1:=pv_part0 (v:=Value.int .i64 c) (w:=Value.int .i64 d) u1
  have r2:=pv_part1 (v:=Value.int .i64 c) (w:=Value.int .i64 d) u2
  cases ha:(a == c) <;> cases hb:(b == d) <;> simp [pv_bind,pv_pure,h1,h2,m1,m2,e1,e2,q1,q2,r1,r2,ha,hb]
variable {h:TH} {K:Regs→TH→Prop} {rest:List TOper} {d:Option Tmp} {ty:TypeId} {i:Nat} {x y:Operand} {t u:TypeId} {L:Rg}
theorem WOL.eqr2 {p q r s:Int} (hu:Rat2 P t) (hx:getL L x=some (.agg #[.int .i64 p,.int .i64 q])) (hy:getL L y=some (.agg #[.int .i64 r,.int .i64 s])) (w:∀ a,Kn (putL L d (.bool (cond (p == r) (q == s) false))) a→WO P tp rest a h K):∀ a,Kn L a→WO P tp (⟨d,.binOp .eql t x y u,ty,none,[],i⟩::rest) a h K:=by
  intro a k
  obtain ⟨f1,f2,e1,e2,e3,e4,e5,e6,e7⟩:=hu.u
  have ex:=getO_eval (k.o hx)
  have ey:=getO_eval (k.o hy)
  refine WO.plainly rfl rfl rfl (by simp [fastOp,fastBin,ex,ey]) (by simp [valueOp,ex,ey,eqT_aggs]) (plainOp_of (by rfl) (fun q hq=>?_) ?_ rfl) (w _ (k.put d _))
  · simp only [Op.operands] at hq
    simp at hq
    rcases hq with rfl | rfl
    · rw [ex];rfl
    · rw [ey];rfl
  · show pv P (execOp a.eval ⟨d, .binOp .eql t x y u, ty, "", #[], none⟩) = _
    simp [execOp,pv_bind,pv_map,pv_pure,pv_program,ex,ey,eqGuard,binOp,hu.g,pv_eqr2 e1 hu.s e2 e3 e4 e5 e6 e7]
end
theorem rat1128:Rat2 Tryz.prog 31:=rat2_of (by kernel_rfl) (by kernel_rfl) (by kernel_rfl)
section
variable {h:TH} {p q r s k:Nat} {a b c d:Int}
theorem blind_swap:blind q p k=blind p q k:=by
 unfold blind
 cases (((p:Nat):Int) % ((k:Nat):Int) == 0) <;> cases (((q:Nat):Int) % ((k:Nat):Int) == 0) <;> rfl
theorem bl_bo {p q r s:Nat}:∀ j,(blP p q (j+2)).filter (fun x=>blind r s x.toNat)=boL p q r s j
  | 0=>by
    have e:blP p q 2=[]:=by
      show (if 2≤1∧blind p q 1=true then _ else (if 2≤0∧blind p q 0=true then _ else []))=_
      rw [if_neg (by omega),if_neg (by omega)]
    show (blP p q 2).filter _=[]
    rw [e];rfl
  | j + 1 => by
    have ih:=@bl_bo p q r s j
    show (if 2≤j+2∧blind p q (j+2)=true then blP p q (j+2) ++ [((j+2:Nat):Int)] else blP p q (j+2)).filter _=(if (blind p q (j+2) && blind r s (j+2))=true then _ else _)
    cases h1:blind p q (j+2) with
    | false =>
      rw [if_neg (fun c=>by cases c.2),if_neg (by rw [Bool.false_and];decide)]
      exact ih
    | true =>
      rw [if_pos ⟨by omega,rfl⟩,List.filter_append,ih,Bool.true_and]
      have e:([((j+2:Nat):Int)].filter fun x=>blind r s x.toNat)=if blind r s (j+2)=true then [((j+2:Nat):Int)] else []:=by
        show (match blind r s (Int.toNat ((j+2:Nat):Int)) with | true=>_ | false=>_)=_
        rw [Int.toNat_natCast]
        cases blind r s (j+2) <;> rfl
      rw [e]
      cases blind r s (j+2) with
      | true=>rw [if_pos rfl,if_pos rfl]
      | false=>rw [if_neg (by decide),if_neg (by decide),List.append_nil]
theorem blP_mem {p q:Nat} {x:Int}:∀ {j:Nat},x ∈ blP p q j→∃ k:Nat,x=k∧2≤k∧blind p q k=true
  | 0,h=>by cases h
  | j + 1, h => by
    unfold blP at h
    by_cases c:2≤j∧blind p q j=true
    · rw [if_pos c] at h
      rcases List.mem_append.1 h with h | h
      · exact blP_mem h
      · rw [List.mem_singleton] at h
        exact ⟨j,h,c.1,c.2⟩
    · rw [if_neg c] at h
      exact blP_mem h
theorem bl_same (hs:∀ k,blind p q k=true→blind r s k=true):blP p q 33=boL p q r s 31:=by
 rw [← bl_bo 31]
 refine (List.filter_eq_self.2 fun x hx=>?_).symm
 obtain ⟨k,rfl,_,hb⟩:=blP_mem hx
 show blind r s (Int.toNat (k:Nat))=true
 rw [Int.toNat_natCast];exact hs k hb
theorem k1218 (H:Has tp) {c3:Nat} {x:Int} (A:At h c3 (.cells [zi (p:Nat),zi (q:Nat)] true true 31)) (hx:0 < x):CallW Tryz.prog tp (.func (.func 62) #[] #[ptr c3]) #[zi x] h fun v h'=>v=.bool (!blind p q x.toNat)∧HX h h':=by
 refine CallW.fnC (H.fn 62 f1218 rfl rfl) ?_
 obtain ⟨k,rfl⟩:∃ k:Nat,x=k:=⟨x.toNat,by omega⟩
 refine WL.sr<|WOL.as rfl<|WOL.nil<|keep [(0,_),(1,_)] ⟨rfl,rfl,trivial⟩ ?_
 refine WL.sr<|WOL.ld rfl (load_row tp1128 A rfl (Nat.le_of_ble_eq_true rfl))<|WOL.mv rfl<|WOL.cl2 rfl rfl rfl ((k1219 (k:=k) H (by omega)).mono ?_)
 rintro v h1 ⟨rfl,X1⟩
 exact WOL.nt rfl<|WOL.as rfl<|WOL.nil<|WL.ret (WL.end_ rfl ⟨rfl,X1⟩)
def LisS (e:Int) (l:List Int) (n0:Nat) (h':TH) (v:Value):Prop:=∃ b m c,v=.tuple #[.slice b m c,zi e]∧SlL encI 1 h' (.slice b m c) (if e≠0 then [] else l)∧∀ z,bl (.slice b m c)=some z→n0≤z
set_option maxHeartbeats 4000000 in
set_option maxRecDepth 10000 in
theorem k1172 (H:Has tp) (f:Free0 h.next h) :
  CallW Tryz.prog tp (.func (.func 9) #[] #[]) #[.agg #[zi a,zi b],.agg #[zi c,zi d]] h fun v h'=>HX h h'∧LisS (firstNZ [chordE a b,chordE c d]) (boL a.toNat b.toNat c.toNat d.toNat 31) h.next h' v:=by
 refine CallW.fnL (H.fn 9 f1172 rfl rfl) ?_
 refine WL.sr<|WOL.box rfl fun h1 N1=>WOL.box rfl fun h2 N2=>WOL.as rfl<|WOL.as rfl<|WOL.nil<|keep [(2,_),(3,_)] ⟨rfl,rfl,trivial⟩ ?_
 have q1:=N1.next
 have q2:=N2.next
 have A2:At h2 h.next (.cells [zi a,zi b] true true 31):=N1.at_.hx N2.hx
 have A3:At h2 h1.next (.cells [zi c,zi d] true true 31):=N2.at_
 have X2:=N1.hx.trans N2.hx
 refine WL.seq<|WL.sr<|WOL.ld rfl (load_row tp1128 A2 rfl (Nat.le_of_ble_eq_true rfl))<|WOL.ld rfl (load_row tp1128 A3 rfl (Nat.le_of_ble_eq_true rfl))<|WOL.lk1 rfl rfl fun M=>((k1121 H a b _).mono ?_)
 rintro v h3 ⟨rfl,X3⟩
 replace X3:=X3.relock
 generalize h3.withLock h2.lock=h3 at *
 refine WOL.cl1 rfl rfl ((k1121 H c d _).mono ?_)
 rintro v h4 ⟨rfl,X4⟩
 refine WOL.bsl rfl u166 tp30 (by decide) (by decide) (by decide) (filled_ints _ _) fun h5 N5=>WOL.cl1 rfl rfl ((k71 H (l:=[_,_]) N5.at_.get (by simp)).mono ?_)
 rintro v h5 ⟨rfl,rfl⟩
 have X:=(X3.trans X4).trans N5.hx
 have Y:=X2.trans X
 have yn:=Y.next
 have xn:=X.next
 replace A2:=A2.hx X
 replace A3:=A3.hx X
 refine WOL.as rfl<|WOL.nil<|keep [(2,_),(3,_),(6,_)] ⟨rfl,rfl,rfl,trivial⟩ ?_
 generalize hE:firstNZ [chordE a b,chordE c d]=E
 by_cases e0:E≠0
 ·refine WL.sr<|WOL.mv rfl<|WOL.bt rfl rfl rfl (bne_iff_ne.2 e0)<|WOL.nil<|WL.yes rfl<|WL.sr<|WOL.mv rfl<|WOL.as rfl<|WOL.as rfl<|WOL.nil ?_
  exact WL.ret (WL.end_ rfl ⟨Y,_,_,_,rfl,by rw [if_pos e0];exact SlL.nil,fun z hz=>(by cases hz)⟩)
 have e0:E=0:=Classical.not_not.1 e0
 subst e0
 have all:=firstNZ_zero hE
 obtain ⟨p1,p2,p3,p4⟩:=chord_ok (all (chordE a b) (by simp))
 obtain ⟨r1,r2,r3,r4⟩:=chord_ok (all (chordE c d) (by simp))
 obtain ⟨p,rfl⟩:∃ p:Nat,a=p:=⟨a.toNat,by omega⟩
 obtain ⟨q,rfl⟩:∃ q:Nat,b=q:=⟨b.toNat,by omega⟩
 obtain ⟨r,rfl⟩:∃ r:Nat,c=r:=⟨c.toNat,by omega⟩
 obtain ⟨s,rfl⟩:∃ s:Nat,d=s:=⟨d.toNat,by omega⟩
 rw [Int.toNat_natCast,Int.toNat_natCast,Int.toNat_natCast,Int.toNat_natCast]
 refine WL.sr<|WOL.mv rfl<|WOL.bf rfl rfl rfl rfl<|WOL.nil<|WL.no rfl<|WL.skip<|keep [(2,_),(3,_)] ⟨rfl,rfl,trivial⟩ ?_
 refine WL.sr<|WOL.ld rfl (load_row tp1128 A2 rfl (Nat.le_of_ble_eq_true rfl))<|WOL.cl1 rfl rfl ((k1216 (p:=p) (q:=q) H (f.on Y)).mono ?_)
 rintro v h6 ⟨X6,O⟩
 have x6:=X6.next
 have A3':=A3
 replace A2:=A2.hx X6
 replace A3:=A3.hx X6
 have Y6:=Y.trans X6
 obtain ⟨bo,e5⟩:=OwnF.form (Or.inl O)
 have lo:=fun z (hz:bl v=some z)=>(O.lt hz).1
 refine WOL.as rfl<|WOL.nil<|keep [(2,_),(3,_),(7,_)] ⟨rfl,rfl,rfl,trivial⟩ ?_
 -- the same arms
 have same:∀ (Q:Exit→Regs→TH→Prop) h7,(∀ a g,Fin Tryz.prog f1172.results (fun v h'=>HX h h'∧LisS 0 (boL p q r s 31) h.next h' v) .ret a g→Q .ret a g)→HX h6 h7→(∀ k,blind p q k=true→blind r s k=true)→∀ x,Kn [(7,v)] x→W Tryz.prog tp false (.seq (.reg r1172_6) .ret) x h7 Q:=by
  intro Q h7 hQ X7 hs
  have O7:=(O.hx X7).sl eI
  rw [bl_same hs] at O7
  subst e5
  exact WL.sr<|WOL.mv rfl<|WOL.as rfl<|WOL.as rfl<|WOL.nil<|WL.ret fun a k=>hQ _ _ (WL.end_ rfl ⟨Y6.trans X7,_,_,_,rfl,by rw [if_neg (by decide)];exact O7,fun z hz=>by have:=lo z hz;omega⟩ a k)
 -- others
 have other:∀ h7,HX h6 h7→∀ x,Kn [(3,ptr h1.next),(7,v)] x→W Tryz.prog tp false (.seq (.reg r1172_7) .ret) x h7 (Fin Tryz.prog f1172.results fun v h'=>HX h h'∧LisS 0 (boL p q r s 31) h.next h' v):=by
  intro h7 X7
  have len:=blP_len (p:=p) (q:=q) 33
  have x7:=X7.next
  refine WL.sr<|WOL.mv rfl<|WOL.mf rfl<|WOL.cl2 rfl rfl rfl ((k1217 (h0:=h5) (p:=fun x=>!blind r s x.toNat) H (X6.trans X7) (O.hx X7) (by omega) ((f.hx (Y6.trans X7)).up (by omega)) (fun x g hx Xg=>k1218 (p:=r) (q:=s) H (A3'.hx Xg) (by obtain ⟨k,rfl,hk,_⟩:=blP_mem hx;omega))).mono ?_)
  rintro u h8 ⟨X8,S,b8,m8,c8,rfl,lo8⟩
  simp only [Bool.not_not] at S
  rw [bl_bo 31] at S
  exact WOL.as rfl<|WOL.as rfl<|WOL.nil<|WL.ret (WL.end_ rfl ⟨Y.trans X8,_,_,_,rfl,by rw [if_neg (by decide)];exact S,fun z hz=>by have:=lo8 z hz;omega⟩)
 have key:∀ {x y u w:Nat},cond (((x:Nat):Int) == ((y:Nat):Int)) (((u:Nat):Int) == ((w:Nat):Int)) false=true→x=y∧u=w:=by
  intro x y u w h
  cases h1:(((x:Nat):Int) == ((y:Nat):Int)) with
  | false=>rw [h1] at h;cases h
  | true =>
   rw [h1] at h
   have:=beq_iff_eq.1 h1
   have:=beq_iff_eq.1 (show (((u:Nat):Int) == ((w:Nat):Int))=true from h)
   omega
 refine WL.seq<|WL.sr<|WOL.ld rfl (load_row tp1128 A3 rfl (Nat.le_of_ble_eq_true rfl))<|WOL.ld rfl (load_row tp1128 A2 rfl (Nat.le_of_ble_eq_true rfl))<|WOL.eqr2 (p:=((r:Nat):Int)) (q:=((s:Nat):Int)) (r:=((p:Nat):Int)) (s:=((q:Nat):Int)) rat1128 rfl rfl ?_
 cases hv:cond (((r:Nat):Int) == ((p:Nat):Int)) (((s:Nat):Int) == ((q:Nat):Int)) false with
 | true =>
  obtain ⟨rfl,rfl⟩:=key hv
  refine WOL.mv rfl<|WOL.skp (b:=true) rfl rfl<|WOL.skp (b:=true) rfl rfl<|WOL.skp (b:=true) rfl rfl<|WOL.skp (b:=true) rfl rfl<|WOL.pkt rfl rfl<|WOL.nil<|WL.yes rfl<|kto (same _ _ (fun _ _ q=>q) (HX.refl _) (fun k h=>h)) ⟨rfl,trivial⟩
 | false =>
  refine WOL.mv rfl<|WOL.now (b:=false) rfl rfl<|WOL.ld rfl (load_row tp1128 A3 rfl (Nat.le_of_ble_eq_true rfl))<|WOL.now (b:=false) rfl rfl<|WOL.ld rfl (load_row tp1128 A2 rfl (Nat.le_of_ble_eq_true rfl))<|WOL.now (b:=false) rfl rfl<|WOL.lv1 [some h1.next] rfl rfl rfl fun ml hl=>((k1209 (h:=TH.withLock _ ml) (a:=((p:Nat):Int)) (b:=((q:Nat):Int)) H ((f.on Y6).heldO hl (fun b hb=>by simp at hb;omega))).mono ?_)
  rintro v2 h7 ⟨rfl,X7⟩
  replace X7:=X7.relock
  generalize h7.withLock h6.lock=h7 at *
  refine WOL.now (b:=false) rfl rfl<|WOL.eqr2 (p:=((r:Nat):Int)) (q:=((s:Nat):Int)) (r:=((q:Nat):Int)) (s:=((p:Nat):Int)) rat1128 rfl rfl<|WOL.pkf rfl rfl<|WOL.nil ?_
  cases hw:cond (((r:Nat):Int) == ((q:Nat):Int)) (((s:Nat):Int) == ((p:Nat):Int)) false with
  | true =>
   obtain ⟨rfl,rfl⟩:=key hw
   exact WL.yes rfl<|kto (same _ _ (fun _ _ q=>q) X7 (fun k h=>by rw [blind_swap];exact h)) ⟨rfl,trivial⟩
  | false=>exact WL.no rfl<|WL.skip<|kto (other _ X7) ⟨rfl,rfl,trivial⟩
end
end Go.Tidy
namespace Go.Tidy
open Go Go.Proofs Tab
variable {tp:TProg}
section
variable {h h0:TH} {a b c d e e2 e3:Int} {v9 v11 v19 v20:Value} {w l9 l11:List Int} {l:List (Int × Int)} {cs ds:List Value} {c3 c4 c7 c18:Nat} {sb:Bool}
theorem u4w:Tryz.prog.underlying 4=some .bool:=by kernel_rfl
def cd1237d:TCode:=.seq (.reg r1237_16) .ret
set_option maxHeartbeats 4000000 in
set_option maxRecDepth 10000 in
theorem k1237d (H:Has tp) (K:Awk tp) (A7:At h c7 (.cells cs true true 27)) (A18:At h c18 (.cells ds true true 27)) (z1:CzL cs l) (z2:CzL ds l) (hl:l.length=4) (i9:IsInts h v9 l9) (n9:l9.length≤1000000) (d9:(e≠0∧l9=[])∨(e=0∧IsInts h v19 l9)) (i11:SlL encI 1 h v11 l11) (n11:l11.length≤1000000) (d11:(e2≠0∧l11=[])∨(e2=0∧SlL encI 1 h v20 l11)) :
  ∀ r,Kn [(7,ptr c7),(8,zi e),(9,v9),(10,zi e),(11,v11),(12,zi e2),(13,.bool sb),(14,zi e3),(15,zi e),(16,zi e2),(17,zi e3),(18,ptr c18),(19,v19),(20,v20),(21,.bool sb)] r→W Tryz.prog tp false cd1237d r h (Fin Tryz.prog [.tmp 6] fun v _=>v=.bool true):=by
 unfold cd1237d
 have l7:cs.length=4:=by rw [z1.1,hl]
 have l8:ds.length=4:=by rw [z2.1,hl]
 refine WL.sr<|WOL.ld rfl (load_row tp1172 A7 (l:=cs) (by rw [List.drop_zero,← l7,List.take_length]) (by omega))<|WOL.ld rfl (load_row tp1172 A18 (l:=ds) (by rw [List.drop_zero,← l8,List.take_length]) (by omega))<|WOL.eq1172 z1 z2 hl rfl rfl<|WOL.mv rfl<|WOL.now (b:=true) rfl rfl<|WOL.mv rfl<|WOL.now (b:=true) rfl rfl<|WOL.mv rfl<|WOL.now (b:=true) rfl rfl<|WOL.bt rfl rfl rfl (beq_self_eq_true _)<|WOL.pkt rfl rfl<|WOL.mv rfl<|WOL.now (b:=true) rfl rfl<|WOL.mv rfl<|WOL.now (b:=true) rfl rfl<|WOL.mv rfl<|WOL.now (b:=true) rfl rfl<|WOL.mv rfl<|WOL.now (b:=true) rfl rfl<|WOL.mv rfl<|WOL.now (b:=true) rfl rfl<|WOL.cl4 rfl rfl rfl rfl rfl ((k1130 H i9 n9 d9).mono ?_)
 rintro u g1 ⟨rfl,rfl⟩
 refine WOL.pkt rfl rfl<|WOL.mv rfl<|WOL.now (b:=true) rfl rfl<|WOL.mv rfl<|WOL.now (b:=true) rfl rfl<|WOL.mv rfl<|WOL.now (b:=true) rfl rfl<|WOL.mv rfl<|WOL.now (b:=true) rfl rfl<|WOL.mv rfl<|WOL.now (b:=true) rfl rfl<|WOL.cl4 rfl rfl rfl rfl rfl ((k1130L H i11 n11 d11).mono ?_)
 rintro u g2 ⟨rfl,rfl⟩
 refine WOL.pkt rfl rfl<|WOL.mv rfl<|WOL.now (b:=true) rfl rfl<|WOL.mv rfl<|WOL.now (b:=true) rfl rfl<|WOL.mv rfl<|WOL.now (b:=true) rfl rfl<|WOL.eqbb u4w rfl rfl<|WOL.pkt rfl rfl<|WOL.mv rfl<|WOL.now (b:=true) rfl rfl<|WOL.mv rfl<|WOL.now (b:=true) rfl rfl<|WOL.mv rfl<|WOL.now (b:=true) rfl rfl<|WOL.bt rfl rfl rfl (beq_self_eq_true _)<|WOL.pkt rfl rfl<|WOL.mv rfl<|WOL.now (b:=true) rfl rfl<|WOL.cl0 rfl ((k11t K _).mono ?_)
 rintro u g3 ⟨rfl,rfl⟩
 exact WOL.pkt rfl rfl<|WOL.as rfl<|WOL.nil<|WL.ret (WL.end_ rfl rfl)
def cd1237c:TCode:=.seq (.seq (.reg r1237_14) (.cond (.tmp 77) (.reg r1237_15) .skip)) cd1237d
set_option maxHeartbeats 4000000 in
set_option maxRecDepth 10000 in
theorem k1237c (H:Has tp) (K:Awk tp) (f:Free0 h.next h) (A3:At h c3 (.cells [zi a,zi b] true true 23)) (A4:At h c4 (.cells [zi c,zi d] true true 23)) (he2:e2=firstNZ [chordE a b,chordE c d]) (A7:At h c7 (.cells cs true true 27)) (A18:At h c18 (.cells ds true true 27)) (z1:CzL cs l) (z2:CzL ds l) (hl:l.length=4) (i9:IsInts h v9 l9) (n9:l9.length≤1000000) (d9:(e≠0∧l9=[])∨(e=0∧IsInts h v19 l9)) (i11:SlL encI 1 h v11 (if e2≠0 then [] else boL a.toNat b.toNat c.toNat d.toNat 31)) :
  ∀ r,Kn [(3,ptr c3),(4,ptr c4),(7,ptr c7),(8,zi e),(9,v9),(10,zi e),(11,v11),(12,zi e2),(13,.bool sb),(14,zi e3),(15,zi e),(16,zi e2),(17,zi e3),(18,ptr c18),(19,v19),(20,.slice none 0 0),(21,.bool sb)] r→W Tryz.prog tp false cd1237c r h (Fin Tryz.prog [.tmp 6] fun v _=>v=.bool true):=by
 unfold cd1237c
 by_cases e0:e2=0
 ·subst e0
  have all:=firstNZ_zero he2.symm
  obtain ⟨p1,p2,p3,p4⟩:=chord_ok (all (chordE a b) (by simp))
  obtain ⟨r1,r2,r3,r4⟩:=chord_ok (all (chordE c d) (by simp))
  obtain ⟨p,rfl⟩:∃ p:Nat,a=p:=⟨a.toNat,by omega⟩
  obtain ⟨q,rfl⟩:∃ q:Nat,b=q:=⟨b.toNat,by omega⟩
  obtain ⟨r,rfl⟩:∃ r:Nat,c=r:=⟨c.toNat,by omega⟩
  obtain ⟨s,rfl⟩:∃ s:Nat,d=s:=⟨d.toNat,by omega⟩
  rw [if_neg (by decide),Int.toNat_natCast,Int.toNat_natCast,Int.toNat_natCast,Int.toNat_natCast] at i11
  have ll:=boL_len (p:=p) (q:=q) (r:=r) (s:=s) 31
  refine WL.seq<|WL.sr<|WOL.mv rfl<|WOL.bt rfl rfl rfl rfl<|WOL.nil<|WL.yes rfl<|WL.reg<|WOL.ld rfl (load_row tp1112 A3 rfl (Nat.le_of_ble_eq_true rfl))<|WOL.ld rfl (load_row tp1112 A4 rfl (Nat.le_of_ble_eq_true rfl))<|WOL.cl2 rfl rfl rfl ((k1241 (p:=p) (q:=q) (r:=r) (s:=s) H f).mono ?_)
  rintro u g ⟨X,O⟩
  refine WOL.as rfl<|WOL.nil ?_
  exact kto (k1237d H K (A7.hx X) (A18.hx X) z1 z2 hl (i9.hx X) n9 (d9.imp id fun q=>⟨q.1,q.2.hx X⟩) (i11.hx X) (by omega) (.inr ⟨rfl,O.sl eI⟩)) ⟨rfl,rfl,rfl,rfl,rfl,rfl,rfl,rfl,rfl,rfl,rfl,rfl,rfl,rfl,rfl,trivial⟩
 ·rw [if_pos e0] at i11
  refine WL.seq<|WL.sr<|WOL.mv rfl<|WOL.bf rfl rfl rfl (beq_eq_false_iff_ne.2 e0)<|WOL.nil<|WL.no rfl<|WL.skip ?_
  exact kto (k1237d H K A7 A18 z1 z2 hl i9 n9 d9 i11 (by decide) (.inl ⟨e0,rfl⟩)) ⟨rfl,rfl,rfl,rfl,rfl,rfl,rfl,rfl,rfl,rfl,rfl,rfl,rfl,rfl,rfl,trivial⟩
def cd1237b:TCode:=.seq (.seq (.reg r1237_12) (.cond (.tmp 69) (.reg r1237_13) .skip)) cd1237c
theorem trL_lim {p q:Nat} (hp:p≤32) (hq:q≤32):∀ x,x ∈ trL p q 4→x.1.natAbs < 9007199254740992∧x.2.natAbs < 9007199254740992:=by
 intro x hx
 unfold trL at hx
 obtain ⟨k,hk,rfl⟩:=List.mem_map.1 hx
 have hk:=List.mem_range.1 hk
 rw [if_pos hk]
 have t1:=t_lim (3*(k*p))
 have t2:=t_lim (k*q)
 have u1:=mulb (w:=((q:Nat):Int)) (x:=tRe (3*(k*p))) (a:=32) (b:=1) (by omega) (by omega)
 have u2:=mulb (w:=((q:Nat):Int)) (x:=tIm (3*(k*p))) (a:=32) (b:=1) (by omega) (by omega)
 have u3:=mulb (w:=((p:Nat):Int)) (x:=tRe (k*q)) (a:=32) (b:=1) (by omega) (by omega)
 have u4:=mulb (w:=((p:Nat):Int)) (x:=tIm (k*q)) (a:=32) (b:=1) (by omega) (by omega)
 show (trR p q k).natAbs < _∧(trI p q k).natAbs < _
 unfold trR trI
 omega
theorem bl_bo_same {p q:Nat}:blP p q 33=boL p q p q 31:=bl_same fun _ h=>h
set_option maxHeartbeats 8000000 in
set_option maxRecDepth 10000 in
theorem k1237b (H:Has tp) (K:Awk tp) (f:Free0 h.next h) (h18:h0.next≤c18) (f0:Free0 h0.next h) (A3:At h c3 (.cells [zi a,zi b] true true 23)) (A4:At h c4 (.cells [zi c,zi d] true true 23)) (n3:c3≠c18) (n4:c4≠c18) (n7:c7≠c18) (he:e=chordE a b) (he2:e2=firstNZ [chordE a b,chordE c d]) (A7:At h c7 (.cells cs true true 27)) (A18:At h c18 (.cells zc4 true true 27)) (z1:CzL cs (traL a b))
  (b9:∀ z,bl v9=some z→z≠c18) (i9:IsInts h v9 (if e≠0 then [] else blP a.toNat b.toNat 33)) (b11:∀ z,bl v11=some z→z≠c18) (i11:SlL encI 1 h v11 (if e2≠0 then [] else boL a.toNat b.toNat c.toNat d.toNat 31)) :
  ∀ r,Kn [(3,ptr c3),(4,ptr c4),(7,ptr c7),(8,zi e),(9,v9),(10,zi e),(11,v11),(12,zi e2),(13,.bool sb),(14,zi e3),(15,zi e),(16,zi e2),(17,zi e3),(18,ptr c18),(19,.slice none 0 0),(20,.slice none 0 0),(21,.bool sb)] r→W Tryz.prog tp false cd1237b r h (Fin Tryz.prog [.tmp 6] fun v _=>v=.bool true):=by
 unfold cd1237b
 by_cases e0:e=0
 ·subst e0
  obtain ⟨p1,p2,p3,p4⟩:=chord_ok he.symm
  obtain ⟨p,rfl⟩:∃ p:Nat,a=p:=⟨a.toNat,by omega⟩
  obtain ⟨q,rfl⟩:∃ q:Nat,b=q:=⟨b.toNat,by omega⟩
  have et:traL p q=trL p q 4:=by unfold traL;rw [if_neg (fun c=>c he.symm),Int.toNat_natCast,Int.toNat_natCast]
  rw [et] at z1
  rw [if_neg (by decide),Int.toNat_natCast,Int.toNat_natCast,bl_bo_same] at i9
  have ll:=boL_len (p:=p) (q:=q) (r:=p) (s:=q) 31
  have t3:=A3.lt
  refine WL.seq<|WL.sr<|WOL.mv rfl<|WOL.bt rfl rfl rfl rfl<|WOL.nil<|WL.yes rfl<|WL.reg<|WOL.ld rfl (load_row tp1112 A3 rfl (Nat.le_of_ble_eq_true rfl))<|WOL.ld rfl (load_row tp1112 A3 rfl (Nat.le_of_ble_eq_true rfl))<|WOL.ld rfl (load_row tp1112 A3 rfl (Nat.le_of_ble_eq_true rfl))<|WOL.lv1 [some c3,some c3] rfl rfl rfl fun ml hm=>((k1240 (h:=TH.withLock _ ml) (p:=p) (q:=q) H (by omega) (by omega) (f.heldO hm (fun b hb=>by simp at hb;omega))).mono ?_)
  rintro u g1 ⟨X1,rfl⟩
  replace X1:=X1.relock
  generalize g1.withLock h.lock=g1 at *
  have x1:=X1.next
  refine WOL.lv1 [some c3,some c3] rfl rfl rfl fun ml hm=>((k1164 (h:=TH.withLock _ ml) (l:=trL p q 4) H trL_len (trL_lim (by omega) (by omega)) ((f.on X1).heldO hm (fun b hb=>by simp at hb;omega))).mono ?_)
  rintro u g2 ⟨X2,ds,rfl,z2⟩
  replace X2:=X2.relock
  generalize g2.withLock g1.lock=g2 at *
  have Y2:=X1.trans X2
  refine WOL.cl2 rfl rfl rfl ((k1241 (p:=p) (q:=q) (r:=p) (s:=q) H (f.on Y2)).mono ?_)
  rintro u g3 ⟨X3,O⟩
  have Y:=Y2.trans X3
  have y2:=Y2.next
  have y3:=X3.next
  have l8:ds.length=4:=by rw [z2.1,trL_len]
  have t18:=A18.lt
  refine WOL.sto (vs:=ds) rfl rfl tp1172 (A18.hx Y) (by show ds.toArray.toList=ds;simp) l8 (Nat.le_of_ble_eq_true rfl) (czl_one z2) (f0.hx Y) h18 fun g4 P4=>WOL.as rfl<|WOL.nil ?_
  have B:=P4.at_
  rw [show splice zc4 0 ds=ds by
   unfold splice zc4
   rw [List.take_zero,List.nil_append,l8]
   simp] at B
  have lo:=fun z (hz:bl u=some z)=>(O.lt hz).1
  have i9':IsInts g4 v9 (boL p q p q 31):=(i9.hx Y).keep fun b x hb a=>P4.oth _ _ (b9 b hb) a
  have i19:IsInts g4 u (boL p q p q 31):=ownI_ints (O.keep fun b x hb a=>P4.oth _ _ (by have:=lo b hb;omega) a)
  obtain ⟨d1,d2,d3,e11⟩:∃ b m k,v11=.slice b m k:=by obtain ⟨bo,cap,h1,_⟩:=i11;exact ⟨_,_,_,h1⟩
  subst e11
  have i11':=slC_keep (i11.hx Y) fun b x hb a=>P4.oth _ _ (b11 b hb) a
  have f4:Free0 g4.next g4:=⟨by rw [P4.floor,P4.next];exact (f.on Y).floor,fun l hl=>by rw [P4.next];exact (f.on Y).lock l (by rw [← P4.lock];exact hl)⟩
  exact kto (k1237c H K f4 (P4.oth _ _ n3 (A3.hx Y)) (P4.oth _ _ n4 (A4.hx Y)) he2 (P4.oth _ _ n7 (A7.hx Y)) B z1 z2 trL_len i9' (by omega) (.inr ⟨rfl,i19⟩) i11') ⟨rfl,rfl,rfl,rfl,rfl,rfl,rfl,rfl,rfl,rfl,rfl,rfl,rfl,rfl,rfl,rfl,rfl,trivial⟩
 ·have et:traL a b=z4:=by unfold traL;rw [if_pos (by rw [← he];exact e0)]
  rw [et] at z1
  rw [if_pos e0] at i9
  refine WL.seq<|WL.sr<|WOL.mv rfl<|WOL.bf rfl rfl rfl (beq_eq_false_iff_ne.2 e0)<|WOL.nil<|WL.no rfl<|WL.skip ?_
  exact kto (k1237c H K f A3 A4 he2 A7 A18 z1 zc4_z4 rfl i9 (by decide) (.inl ⟨e0,rfl⟩) i11) ⟨rfl,rfl,rfl,rfl,rfl,rfl,rfl,rfl,rfl,rfl,rfl,rfl,rfl,rfl,rfl,rfl,rfl,trivial⟩
end
end Go.Tidy
namespace Go.Tidy
open Go Go.Proofs Tab
variable {tp:TProg}
section
variable {h:TH} {a b c d:Int} {v:Value} {w:List Int}
set_option maxHeartbeats 8000000 in
set_option maxRecDepth 10000 in
theorem k1237 (H:Has tp) (K:Awk tp) (G:Glob h) (s:SlL encI 1 h v w) (f:Free0 h.next h):CallW Tryz.prog tp (.func (.func 3) #[] #[]) #[.agg #[zi a,zi b],.agg #[zi c,zi d],v] h fun v _=>v=.bool true:=by
 refine CallW.fnL (H.fn 3 f1237 rfl rfl) ?_
 refine WL.sr<|WOL.box rfl fun h1 N1=>WOL.box rfl fun h2 N2=>WOL.as rfl<|WOL.nil<|keep [(2,_),(3,_),(4,_)] ⟨rfl,rfl,rfl,trivial⟩ ?_
 have q1:=N1.next
 have q2:=N2.next
 have A3:At h2 h.next (.cells [zi a,zi b] true true 23):=N1.at_.hx N2.hx
 have A4:At h2 h1.next (.cells [zi c,zi d] true true 23):=N2.at_
 have X2:=N1.hx.trans N2.hx
 by_cases lw:(w.length:Int) > 65
 ·refine WL.seq<|WL.sr<|WOL.mv rfl<|WOL.len rfl (s.hx X2) u29<|WOL.bt rfl rfl rfl (decide_eq_true lw)<|WOL.nil<|WL.yes rfl<|WL.sr<|WOL.cl0 rfl ((k11t K _).mono ?_)
  rintro v h4 ⟨rfl,rfl⟩
  exact WOL.as rfl<|WOL.nil<|WL.ret (WL.end_ rfl rfl)
 refine WL.seq<|WL.sr<|WOL.mv rfl<|WOL.len rfl (s.hx X2) u29<|WOL.bf rfl rfl rfl (decide_eq_false lw)<|WOL.nil<|WL.no rfl<|WL.skip<|keep [(2,_),(3,_),(4,_)] ⟨rfl,rfl,rfl,trivial⟩ ?_
 -- transfer
 refine WL.sr<|WOL.ld rfl (load_row tp1112 A3 rfl (Nat.le_of_ble_eq_true rfl))<|WOL.cl1 rfl rfl ((k1174 (a:=a) (b:=b) H (G.hx X2) (f.on X2)).mono ?_)
 rintro u h3 ⟨X3,cs,rfl,z1⟩
 have Y3:=X2.trans X3
 have q3:=X3.next
 have l7:cs.length=4:=by
  rw [z1.1];unfold traL
  by_cases e:chordE a b≠0
  ·rw [if_pos e];rfl
  ·rw [if_neg e];exact trL_len
 refine WOL.mv rfl<|WOL.ex rfl rfl<|WOL.ex rfl rfl<|WOL.al tp1172 fun h4 N4=>?_
 have q4:=N4.next
 have Y4:=Y3.trans N4.hx
 refine WOL.sto (vs:=cs) rfl rfl tp1172 N4.at_ (by show cs.toArray.toList=cs;simp) l7 (Nat.le_of_ble_eq_true rfl) (czl_one z1) (f.hx Y4) (by omega) fun h5 P5=>WOL.as rfl<|WOL.nil<|keep [(2,_),(3,_),(4,_),(7,_),(8,_)] ⟨rfl,rfl,rfl,rfl,rfl,trivial⟩ ?_
 have A7:At h5 h3.next (.cells (splice zc4 0 cs) true true 27):=P5.at_
 rw [show splice zc4 0 cs=cs by
  unfold splice zc4
  rw [List.take_zero,List.nil_append,l7]
  simp] at A7
 have Z5:HX h3 h5:=P5.hx _ N4.hx (Nat.le_refl _)
 have Y5:=Y3.trans Z5
 have q5:=P5.next
 replace A3:=A3.hx X3;replace A4:=A4.hx X3
 replace A3:=A3.hx Z5;replace A4:=A4.hx Z5
 -- blind
 refine WL.sr<|WOL.ld rfl (load_row tp1112 A3 rfl (Nat.le_of_ble_eq_true rfl))<|WOL.cl1 rfl rfl ((k1171 (a:=a) (b:=b) H (f.on Y5)).mono ?_)
 rintro u h6 ⟨X6,b9,m9,k9,rfl,i9,lo9⟩
 have Y6:=Y5.trans X6
 have q6:=X6.next
 replace A3:=A3.hx X6;replace A4:=A4.hx X6;replace A7:=A7.hx X6
 refine WOL.mv rfl<|WOL.ex rfl rfl<|WOL.ex rfl rfl<|WOL.as rfl<|WOL.as rfl<|WOL.nil<|keep [(2,_),(3,_),(4,_),(7,_),(8,_),(9,_),(10,_)] ⟨rfl,rfl,rfl,rfl,rfl,rfl,rfl,trivial⟩ ?_
 -- both
 refine WL.sr<|WOL.ld rfl (load_row tp1112 A3 rfl (Nat.le_of_ble_eq_true rfl))<|WOL.ld rfl (load_row tp1112 A4 rfl (Nat.le_of_ble_eq_true rfl))<|WOL.cl2 rfl rfl rfl ((k1172 (a:=a) (b:=b) (c:=c) (d:=d) H (f.on Y6)).mono ?_)
 rintro u h7 ⟨X7,b11,m11,k11,rfl,i11,lo11⟩
 have Y7:=Y6.trans X7
 have q7:=X7.next
 replace A3:=A3.hx X7;replace A4:=A4.hx X7;replace A7:=A7.hx X7;replace i9:=i9.hx X7
 refine WOL.mv rfl<|WOL.ex rfl rfl<|WOL.ex rfl rfl<|WOL.as rfl<|WOL.as rfl<|WOL.nil<|keep [(2,_),(3,_),(4,_),(7,_),(8,_),(9,_),(10,_),(11,_),(12,_)] ⟨rfl,rfl,rfl,rfl,rfl,rfl,rfl,rfl,rfl,trivial⟩ ?_
 -- sees
 refine WL.sr<|WOL.ld rfl (load_row tp1112 A3 rfl (Nat.le_of_ble_eq_true rfl))<|WOL.mv rfl<|WOL.lk1 rfl rfl fun M=>((k1136 H ((s.hx Y7).relock M) (by omega)).mono ?_)
 rintro u h8 ⟨X8,b6,m6,k6,rfl,s6,_⟩
 replace X8:=X8.relock
 replace s6:=s6.relock h7.lock
 generalize h8.withLock h7.lock=h8 at *
 have Y8:=Y7.trans X8
 have q8:=X8.next
 refine WOL.cl2 rfl rfl rfl ((k1173 (a:=a) (b:=b) H s6 (by omega) (f.on Y8)).mono ?_)
 rintro u h9 ⟨X9,rfl⟩
 have Y9:=Y8.trans X9
 have q9:=X9.next
 have Z9:=X8.trans X9
 replace A3:=A3.hx Z9;replace A4:=A4.hx Z9;replace A7:=A7.hx Z9;replace i9:=i9.hx Z9;replace i11:=i11.hx Z9
 generalize hsb:(decide (firstNZ [chordE a b,waveE w]=0) && seeB a.toNat b.toNat w)=sb
 refine WOL.mv rfl<|WOL.ex rfl rfl<|WOL.ex rfl rfl<|WOL.as rfl<|WOL.as rfl<|WOL.nil<|keep [(2,_),(3,_),(4,_),(7,_),(8,_),(9,_),(10,_),(11,_),(12,_),(13,_),(14,_)] ⟨rfl,rfl,rfl,rfl,rfl,rfl,rfl,rfl,rfl,rfl,rfl,trivial⟩ ?_
 -- errors
 refine WL.sr<|WOL.ld rfl (load_row tp1112 A3 rfl (Nat.le_of_ble_eq_true rfl))<|WOL.cl1 rfl rfl ((k1122 H a b _).mono ?_)
 rintro u h10 ⟨rfl,X10⟩
 have q10:=X10.next
 refine WOL.as rfl<|WOL.nil<|keep [(2,_),(3,_),(4,_),(7,_),(8,_),(9,_),(10,_),(11,_),(12,_),(13,_),(14,_),(15,_)] ⟨rfl,rfl,rfl,rfl,rfl,rfl,rfl,rfl,rfl,rfl,rfl,rfl,trivial⟩ ?_
 replace A3:=A3.hx X10;replace A4:=A4.hx X10;replace A7:=A7.hx X10;replace i9:=i9.hx X10;replace i11:=i11.hx X10
 refine WL.sr<|WOL.mv rfl<|WOL.ld rfl (load_row tp1112 A4 rfl (Nat.le_of_ble_eq_true rfl))<|WOL.cl1 rfl rfl ((k1122 H c d _).mono ?_)
 rintro u h11 ⟨rfl,X11⟩
 refine WOL.bsl rfl u29 tp3 (by decide) (by decide) (by decide) (filled_ints _ _) fun h12 N12=>WOL.cl1 rfl rfl ((k1118 H (l:=[_,_]) N12.at_ (by simp)).mono ?_)
 rintro u h12 ⟨rfl,rfl⟩
 have Y12:=((Y9.trans X10).trans X11).trans N12.hx
 refine WOL.mv rfl<|WOL.mv rfl<|WOL.cl1 rfl rfl ((k1160 H (s.hx Y12) (by omega)).mono ?_)
 rintro u h13 ⟨rfl,X13⟩
 refine WOL.bsl rfl u29 tp3 (by decide) (by decide) (by decide) (filled_ints _ _) fun h14 N14=>WOL.cl1 rfl rfl ((k1118 H (l:=[_,_]) N14.at_ (by simp)).mono ?_)
 rintro u h14 ⟨rfl,rfl⟩
 refine WOL.as rfl<|WOL.as rfl<|WOL.nil<|keep [(2,_),(3,_),(4,_),(7,_),(8,_),(9,_),(10,_),(11,_),(12,_),(13,_),(14,_),(15,_),(16,_),(17,_)] ⟨rfl,rfl,rfl,rfl,rfl,rfl,rfl,rfl,rfl,rfl,rfl,rfl,rfl,rfl,trivial⟩ ?_
 have Z14:=((X11.trans N12.hx).trans X13).trans N14.hx
 have q14:=Z14.next
 have Y14:=(Y9.trans X10).trans Z14
 replace A3:=A3.hx Z14;replace A4:=A4.hx Z14;replace A7:=A7.hx Z14;replace i9:=i9.hx Z14;replace i11:=i11.hx Z14
 refine WL.sr<|WOL.al tp1172 fun h15 N15=>WOL.nil<|keep [(2,_),(3,_),(4,_),(7,_),(8,_),(9,_),(10,_),(11,_),(12,_),(13,_),(14,_),(15,_),(16,_),(17,_),(18,_)] ⟨rfl,rfl,rfl,rfl,rfl,rfl,rfl,rfl,rfl,rfl,rfl,rfl,rfl,rfl,rfl,trivial⟩ ?_
 have q15:=N15.next
 have A18:=N15.at_
 have Y15:=Y14.trans N15.hx
 have t3:=A3.lt
 have t4:=A4.lt
 have t7:=A7.lt
 refine WL.sr<|WOL.as rfl<|WOL.as rfl<|WOL.nil<|keep [(2,_),(3,_),(4,_),(7,_),(8,_),(9,_),(10,_),(11,_),(12,_),(13,_),(14,_),(15,_),(16,_),(17,_),(18,_),(19,_),(20,_)] ⟨rfl,rfl,rfl,rfl,rfl,rfl,rfl,rfl,rfl,rfl,rfl,rfl,rfl,rfl,rfl,rfl,rfl,trivial⟩ ?_
 have n9:∀ z,bl (.slice b9 m9 k9)=some z→z < h14.next:=fun z hz=>by
  rcases i9 with ⟨e1,_⟩ | ⟨b,cp,fx,wr,el,e1,e2,_⟩
  ·rw [e1] at hz;cases hz
  ·rw [e1] at hz;cases hz;exact e2
 have n11:∀ z,bl (.slice b11 m11 k11)=some z→z < h14.next:=fun z hz=>by
  obtain ⟨bo,cap,e1,_,_,e2⟩:=i11
  cases e1
  rcases e2 with ⟨rfl,_⟩ | ⟨b,off,cc,fx,wr,el,rfl,e3,_⟩
  ·cases hz
  ·cases hz;exact e3.lt
 replace A3:=A3.hx N15.hx;replace A4:=A4.hx N15.hx;replace A7:=A7.hx N15.hx;replace i9:=i9.hx N15.hx;replace i11:=i11.hx N15.hx
 by_cases e3:firstNZ [chordE a b,waveE w]=0
 ·have all:=firstNZ_zero e3
  obtain ⟨p1,p2,p3,p4⟩:=chord_ok (all (chordE a b) (by simp))
  have w0:=all (waveE w) (by simp)
  obtain ⟨w1,w2⟩:=wave_len w0
  have lim:=wave_lim w0
  obtain ⟨p,rfl⟩:∃ p:Nat,a=p:=⟨a.toNat,by omega⟩
  obtain ⟨q,rfl⟩:∃ q:Nat,b=q:=⟨b.toNat,by omega⟩
  refine WL.sr<|WOL.mv rfl<|WOL.bt rfl rfl rfl (beq_iff_eq.2 e3)<|WOL.mv rfl<|WOL.now (b:=true) rfl rfl<|WOL.ld rfl (load_row tp1112 A3 rfl (Nat.le_of_ble_eq_true rfl))<|WOL.now (b:=true) rfl rfl<|WOL.mv rfl<|WOL.now (b:=true) rfl rfl<|WOL.cl2 rfl rfl rfl ((k1239 (p:=p) (q:=q) H (s.hx Y15) (by omega) (by omega) w1 w2 lim).mono ?_)
  rintro u h16 ⟨rfl,X16⟩
  have esb:seeB p q w=sb:=by rw [← hsb,decide_eq_true e3,Bool.true_and,Int.toNat_natCast,Int.toNat_natCast]
  rw [esb]
  have q16:=X16.next
  refine WOL.pkt rfl rfl<|WOL.as rfl<|WOL.nil ?_
  exact kto (k1237b (h0:=h14) H K (f.on (Y15.trans X16)) (Nat.le_refl _) ((f.on Y14).hx (N15.hx.trans X16)) (A3.hx X16) (A4.hx X16) (by omega) (by omega) (by omega) rfl rfl (A7.hx X16) (A18.hx X16) z1 (fun z hz=>by have:=n9 z hz;omega) (i9.hx X16) (fun z hz=>by have:=n11 z hz;omega) (i11.hx X16)) ⟨rfl,rfl,rfl,rfl,rfl,rfl,rfl,rfl,rfl,rfl,rfl,rfl,rfl,rfl,rfl,rfl,rfl,trivial⟩
 ·have esb:false=sb:=by rw [← hsb,decide_eq_false e3,Bool.false_and]
  subst esb
  refine WL.sr<|WOL.mv rfl<|WOL.bf rfl rfl rfl (beq_eq_false_iff_ne.2 e3)<|WOL.mv rfl<|WOL.skp (b:=false) rfl rfl<|WOL.skp (b:=false) rfl rfl<|WOL.skp (b:=false) rfl rfl<|WOL.pkf rfl rfl<|WOL.as rfl<|WOL.nil ?_
  exact kto (k1237b (h0:=h14) H K (f.on Y15) (Nat.le_refl _) ((f.on Y14).hx N15.hx) A3 A4 (by omega) (by omega) (by omega) rfl rfl A7 A18 z1 (fun z hz=>by have:=n9 z hz;omega) i9 (fun z hz=>by have:=n11 z hz;omega) i11) ⟨rfl,rfl,rfl,rfl,rfl,rfl,rfl,rfl,rfl,rfl,rfl,rfl,rfl,rfl,rfl,rfl,rfl,trivial⟩
end
set_option maxRecDepth 100000 in
theorem ty_chd {h:TH} {n:Nat} {ps:List Value} (y:Ty Tryz.prog h (n+2) 23 ps):∃ a b:Int,ps=[zi a,zi b]:=by
 have q0:=tyg_struct Tryz.underlying23 y
 obtain ⟨c0,d0,rfl,_,t0,c1,d1,rfl,_,t1,rfl⟩:=q0
 obtain ⟨a,rfl,_⟩:=ty_int t0
 obtain ⟨b,rfl,_⟩:=ty_int t1
 exact ⟨a,b,rfl⟩
set_option maxRecDepth 100000 in
theorem law1237:LawG tpE 3 5 [23,23,24]:=by
 intro h us f G ha
 obtain ⟨x0,x1,x2,rfl,⟨p0,y0,e0⟩,⟨p1,y1,e1⟩,⟨p2,y2,e2⟩⟩:=args3 ha
 rw [val_agg (.inl ⟨_,Tryz.underlying23⟩)] at e0
 rw [val_agg (.inl ⟨_,Tryz.underlying23⟩)] at e1
 obtain ⟨a,b,rfl⟩:=ty_chd (n:=3) y0
 obtain ⟨c,d,rfl⟩:=ty_chd (n:=3) y1
 obtain ⟨w9,w,rfl,s,_⟩:=tyg_slice eI u29 (fun p y=>by obtain ⟨b,e,_⟩:=ty_int y;exact ⟨b,e⟩) y2
 rw [val_ints] at e2
 subst e0 e1 e2
 exact k1237 hasE awkE G s f
end Go.Tidy
