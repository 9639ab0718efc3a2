/- A part of the proof. -/
import Derived.Test.YtejopkplhplpgaaGreatDoorPa7
set_option linter.all false
namespace Go.Tidy
open Go Go.Proofs Tab
section
variable {P:Program}
end
variable {tp:TProg}
section
variable {hp:TH} {K:Regs→TH→Prop} {rest:List TOper} {dd:Option Tmp} {ty:TypeId} {i:Nat} {x y:Operand} {u:TypeId} {L:Rg}
end
section
variable {h:TH} {v v1 v2 w1 w2:Value} {x y d:Int} {s:ByteArray} {M:List (Int × Int)} {A:List (Int × ByteArray)}
end
section
variable {P:Program} {h:TH} {K:Regs→TH→Prop} {rest:List TOper} {dd:Option Tmp} {ty:TypeId} {i:Nat} {x y:Operand} {v:Value} {e sT:TypeId} {n n0 b m:Nat} {z:List Value} {row:Bool} {L:Rg} {α:Type} {enc:α→List Value} {l:List α} {l0:Operand} {ls:List Operand} {wr:Bool}
theorem OwnF.relock (o:OwnF enc n0 h v e l) (M:List Nat):OwnF enc n0 (h.withLock M) v e l:=o.imp (fun o=>o.relock M) fun ⟨b,h1,h2,h3⟩=>⟨b,h1,h2,h3.relock M⟩
theorem OwnF.low (o:OwnF enc n0 h v e l) {n1:Nat} (hn:n1≤n0):OwnF enc n1 h v e l:=o.imp (fun o=>o.low hn) fun ⟨b,h1,h2,h3⟩=>⟨b,h1,by omega,h3⟩
theorem append_ownF (E:Enc enc n) (hu:P.underlying sT=some (.slice e)) (he:Tp P e n z row) (hg:At h b (.cells [] true true e)) (s:SlL enc n h v l) (hm2:l.length≤1000000000) (hb:n0≤b) :
  ∃ v' h',appendT P #[sT,sT] #[.slice (some ⟨b,0,none⟩) 0 0,v] h=some (v',h')∧HX h h'∧OwnF enc n0 h' v' e l:=by
 by_cases hm:l=[]
 ·subst hm
  exact ⟨_,_,append_none hu he s (Nat.le_refl _),HX.refl h,.inr ⟨b,rfl,hb,hg⟩⟩
 ·have hp:0 < l.length:=List.length_pos_iff.2 hm
  exact ⟨_,_,append_all hu he hg s hp hm2 (E.all _),HX.new _ _,.inl (.inr ⟨hm,_,rfl,by have:=hg.lt;omega,At.new _ _⟩)⟩
end
section
variable {h:TH} {v:Value} {M:List (Int × Int)} {n0:Nat}
end
section
variable {h:TH} {v:Value} {A:List (Int × ByteArray)} {n0:Nat}
end
section
variable {h:TH} {v v1 v2:Value} {s:ByteArray} {M:List (Int × Int)} {A:List (Int × ByteArray)} {n0:Nat}
end
end Go.Tidy
namespace Go.Tidy
open Go Go.Proofs Tab
variable {tp:TProg}
section
variable {P:Program} {h:TH} {K:Regs→TH→Prop} {rest:List TOper} {d:Option Tmp} {ty:TypeId} {i:Nat} {x lo hi:Operand} {L:Rg} {t:TypeId}
theorem WOL.slN2 (hx:getL L x=some (.slice none 0 0)) (hl:getL L lo=some (.int .i64 0)) (hh:getL L hi=some (.int .i64 0)) (hs:pv P (Instr.sliceAt t (.slice none 0 0) (some (.int .i64 0)) (some (.int .i64 0)) none)=some (.slice none 0 0)) (w:∀ a,Kn (putL L d (.slice none 0 0)) a→WO P tp rest a h K):∀ a,Kn L a→WO P tp (⟨d,.slice t x (some lo) (some hi) none,ty,none,[],i⟩::rest) a h K:=fun a k=>by
 have e1:=getO_eval (k.o hx)
 have e2:=getO_eval (k.o hh)
 have e3:=getO_eval (k.o hl)
 refine WO.plainly rfl rfl rfl rfl rfl (plainOp_of rfl (fun q hq=>?_) ?_ rfl) (w _ (k.put d _))
 ·simp only [Op.operands] at hq
  simp at hq
  rcases hq with rfl | rfl | rfl
  ·rw [e1];rfl
  ·rw [e3];rfl
  ·rw [e2];rfl
 ·simp [toOper,execOp,pv_map,e1,e2,e3,hs]
end
theorem nil2_1657:pv Tryz.prog (Instr.sliceAt 36 (.slice none 0 0) (some (.int .i64 0)) (some (.int .i64 0)) none)=some (.slice none 0 0):=by kernel_rfl
theorem nil2_1651:pv Tryz.prog (Instr.sliceAt 22 (.slice none 0 0) (some (.int .i64 0)) (some (.int .i64 0)) none)=some (.slice none 0 0):=by kernel_rfl
theorem perL_get {ds as_:List Int}:∀ {k j:Nat},j < k→(perL ds as_ k)[j]?=some (((frm8 ds as_ j:Nat):Int),((frm8 ds as_ (j+1):Nat):Int))
  | 0,j,h=>absurd h (by omega)
  | k+1,j,h=>by
    unfold perL
    by_cases c:j < k
    · rw [List.getElem?_append_left (by rw [perL_len];exact c)]
      exact perL_get c
    · obtain rfl:j=k:=by omega
      rw [List.getElem?_append_right (by rw [perL_len];exact Nat.le_refl _),perL_len,Nat.sub_self]
      rfl
def toP (ds as_:List Int) (k:Nat):Nat:=cond (decide (k < as_.length)) (frm8 ds as_ (k+1)) ds.length
theorem perS_get {ds as_:List Int} {k:Nat} (h:k≤as_.length):(perS ds as_)[k]?=some (((frm8 ds as_ k:Nat):Int),((toP ds as_ k:Nat):Int)):=by
 unfold perS toP
 by_cases c:k < as_.length
 ·rw [List.getElem?_append_left (by rw [perL_len];exact c),perL_get c,decide_eq_true c];rfl
 ·obtain rfl:k=as_.length:=by omega
  rw [List.getElem?_append_right (by rw [perL_len];exact Nat.le_refl _),perL_len,Nat.sub_self,decide_eq_false c]
  rfl
theorem bef_mono {ds:List Int} {d d':Int} (h:d≤d'):∀ j,bef ds d j≤bef ds d' j
  | 0=>Nat.le_refl _
  | j+1=>by
    have:=bef_mono (ds:=ds) h j
    unfold bef
    by_cases c:ds.getD j 0 < d
    · rw [decide_eq_true c,decide_eq_true (by omega)];simp only [cond_true];omega
    · rw [decide_eq_false c]
      cases decide (ds.getD j 0 < d') <;> simp only [cond_true,cond_false] <;> omega
structure OkP (M:List (Int × Int)) (A:List (Int × ByteArray)):Prop where
 m:OkM M
 a:A.length≤16
 o:∀ j,j+1 < A.length→(A.map Prod.fst).getD j 0 < (A.map Prod.fst).getD (j+1) 0
theorem ent_ok {most:Nat} {ds es:List Int} (h:entE most ds es=0):ds.length≤most∧∀ j,j < ds.length→es.getD j 0=0∧(0 < j→ds.getD (j - 1) 0 < ds.getD j 0):=by
 unfold entE at h
 by_cases c:ds.length > most
 ·rw [decide_eq_true c] at h;cases h
 ·rw [decide_eq_false c] at h
  refine ⟨by omega,fun j hj=>?_⟩
  have e:=firstNZ_zero (show firstNZ (errL ds es)=0 from h) _ (List.mem_of_getElem? (errL_get (es:=es) hj))
  unfold elP at e
  have e1:=(firstNZ_zero e _ (List.mem_cons_self ..):es.getD j 0=0)
  have e2:=(firstNZ_zero e _ (List.mem_cons_of_mem _ (List.mem_cons_self ..)):cond (decide (ds.getD j 0≤lastD (ds.take j))) (11:Int) 0=0)
  refine ⟨e1,fun j0=>?_⟩
  rw [last_take j0 hj] at e2
  by_cases c2:ds.getD j 0≤ds.getD (j - 1) 0
  ·rw [decide_eq_true c2] at e2;cases e2
  ·omega
theorem sec_ok {s:ByteArray} {M:List (Int × Int)} {A:List (Int × ByteArray)} (h:secE s M A=0):OkP M A:=by
 unfold secE at h
 have m:=ent_ok (firstNZ_zero h _ (by simp):entE 32 (M.map Prod.fst) (M.map mesE)=0)
 have a:=ent_ok (firstNZ_zero h _ (by simp):entE 16 (A.map Prod.fst) (A.map actE)=0)
 rw [List.length_map] at m a
 have gm:∀ j,j < M.length→(M.map Prod.fst).getD j 0=(M.getD j (0,0)).1:=fun j hj=>by
  have hp:M[j]?=some (M.getD j (0,0)):=by rw [List.getD_eq_getElem?_getD,List.getElem?_eq_getElem hj];rfl
  exact map_getD0 hp
 have st:∀ j,j+1 < M.length→(M.getD j (0,0)).1 < (M.getD (j+1) (0,0)).1:=fun j hj=>by
  have:=(m.2 (j+1) hj).2 (by omega)
  rw [gm (j+1) hj,show j+1 - 1=j by omega,gm j (by omega)] at this
  exact this
 refine ⟨⟨m.1,fun j hj=>?_,fun i j hij hj=>?_⟩,a.1,fun j hj=>?_⟩
 ·have hp:M[j]?=some (M.getD j (0,0)):=by rw [List.getD_eq_getElem?_getD,List.getElem?_eq_getElem hj];rfl
  have e:(M.map mesE).getD j 0=mesE (M.getD j (0,0)):=map_getD0 hp
  have z:=(m.2 j hj).1
  rw [e] at z
  have z1:=outB_in (firstNZ_zero z _ (by simp):outB (M.getD j (0,0)).1 0 100000=0)
  have z2:=outB_in (firstNZ_zero z _ (by simp):outB (M.getD j (0,0)).2 0 100000=0)
  exact ⟨z1.1,z1.2,z2.1,z2.2⟩
 ·obtain ⟨k,rfl⟩:∃ k,j=i+1+k:=⟨j - i - 1,by omega⟩
  clear hij
  induction k with
  | zero=>exact st i hj
  | succ k ih =>
   have:=ih (by omega)
   have:=st (i+1+k) (by omega)
   rw [show i+1+(k+1)=i+1+k+1 by omega]
   omega
 ·have:=(a.2 (j+1) hj).2 (by omega)
  rw [show j+1 - 1=j by omega] at this
  exact this
def fromP (M:List (Int × Int)) (A:List (Int × ByteArray)) (k:Nat):Nat:=frm8 (M.map Prod.fst) (A.map Prod.fst) k
def untP (M:List (Int × Int)) (A:List (Int × ByteArray)) (k:Nat):Nat:=toP (M.map Prod.fst) (A.map Prod.fst) k
def perM (M:List (Int × Int)) (A:List (Int × ByteArray)) (k:Nat):List (Int × Int):=(M.drop (fromP M A k)).take (untP M A k - fromP M A k)
theorem per_lim {M:List (Int × Int)} {A:List (Int × ByteArray)} (o:OkP M A) {k:Nat} (hk:k≤A.length):fromP M A k≤untP M A k∧untP M A k≤M.length:=by
  unfold fromP untP toP
  rw [List.length_map,List.length_map]
  by_cases c:k < A.length
  · rw [decide_eq_true c]
    refine ⟨?_,?_⟩
    · cases k with
      | zero=>exact Nat.zero_le _
      | succ k =>
        show bef _ _ _≤bef _ _ _
        exact bef_mono (by have:=o.o k c;omega) _
    · have:=frm8_le (ds:=M.map Prod.fst) (as_:=A.map Prod.fst) (k+1)
      rw [List.length_map] at this
      exact this
  · rw [decide_eq_false c]
    have:=frm8_le (ds:=M.map Prod.fst) (as_:=A.map Prod.fst) k
    rw [List.length_map] at this
    exact ⟨this,Nat.le_refl _⟩
theorem perM_len {M:List (Int × Int)} {A:List (Int × ByteArray)} (o:OkP M A) {k:Nat} (hk:k≤A.length):(perM M A k).length=untP M A k - fromP M A k:=by
 have:=per_lim o hk
 unfold perM
 rw [List.length_take,List.length_drop]
 omega
theorem perM_get {M:List (Int × Int)} {A:List (Int × ByteArray)} (o:OkP M A) {k:Nat} (hk:k≤A.length) {j:Nat} (hj:j < (perM M A k).length):(perM M A k).getD j (0,0)=M.getD (fromP M A k+j) (0,0):=by
 rw [perM_len o hk] at hj
 unfold perM
 rw [List.getD_eq_getElem?_getD,List.getElem?_take_of_lt hj,List.getElem?_drop,← List.getD_eq_getElem?_getD]
theorem OkP.per {M:List (Int × Int)} {A:List (Int × ByteArray)} (o:OkP M A) {k:Nat} (hk:k≤A.length):OkM (perM M A k):=by
 have l:=per_lim o hk
 have pl:=perM_len o hk
 have mn:=o.m.n
 refine ⟨by omega,fun j hj=>?_,fun i j hij hj=>?_⟩
 ·rw [perM_get o hk hj]
  exact o.m.b _ (by omega)
 ·rw [perM_get o hk (by omega),perM_get o hk hj]
  exact o.m.o _ _ (by omega) (by omega)
section
variable {h:TH} {v v1 v2:Value} {s:ByteArray} {M:List (Int × Int)} {A:List (Int × ByteArray)} {n0 k:Nat}
set_option maxHeartbeats 4000000 in
set_option maxRecDepth 10000 in
theorem k1679 (H:Has tp) (o1:OwnL encS n0 h v1 120 M) (o2:OwnL encA n0 h v2 128 A) (ok:OkP M A) (hk:k≤A.length) (f:Free0 h.next h):CallW Tryz.prog tp (.func (.func 84) #[] #[]) #[secV s v1 v2,zi (k:Nat)] h fun u h'=>HX h h'∧SlL encS 2 h' u (perM M A k):=by
 have lim:=per_lim ok hk
 have mn:=ok.m.n
 have an:=ok.a
 refine CallW.fnL (H.fn 84 f1679 rfl rfl) ?_
 obtain ⟨b1,k1,e1⟩:=(o1.sl eS).form
 obtain ⟨b2,k2,e2⟩:=(o2.sl eA).form
 subst e1 e2
 refine WL.sr<|WOL.box rfl fun h1 N1=>WOL.as rfl<|WOL.nil<|keep [(1,_),(2,_)] ⟨rfl,rfl,trivial⟩ ?_
 have n1:=N1.next
 have A1:At h1 h.next (.cells [.string s,.slice b1 M.length k1,.slice b2 A.length k2] true true 39):=N1.at_
 refine WL.sr<|WOL.ld rfl (load_row tp1660 A1 rfl (Nat.le_of_ble_eq_true rfl))<|WOL.cl1 rfl rfl ((k1655 (s:=s) H (SecH.of (o1.hx N1.hx) (o2.hx N1.hx)) (by omega) (by omega) (f.on N1.hx)).mono ?_)
 rintro u h2 ⟨X2,O⟩
 have hp:=perS_get (ds:=M.map Prod.fst) (as_:=A.map Prod.fst) (k:=k) (by rw [List.length_map];exact hk)
 obtain ⟨_,_,_,_,_,_,g1,g2,g3,g4,g5⟩:=(O.sl eS).at eS u44 tp48 hp .i64
 have Y2:=N1.hx.trans X2
 refine WOL.mv rfl<|WOL.ix rfl rfl g1<|WOL.ld rfl (load_row tp48 g2 g4 g3)<|WOL.al tp48 fun h3 N3=>WOL.sto (vs:=[zi (fromP M A k:Nat),zi (untP M A k:Nat)]) rfl rfl tp48 N3.at_ rfl rfl (Nat.le_of_ble_eq_true rfl) rfl ((f.on Y2).hx N3.hx) (Nat.le_refl _) fun h4 P4=>WOL.nil<|keep [(2,_),(5,_)] ⟨rfl,rfl,trivial⟩ ?_
 have Z4:HX h2 h4:=P4.hx _ N3.hx (Nat.le_refl _)
 have A5:At h4 h2.next (.cells [zi (fromP M A k:Nat),zi (untP M A k:Nat)] true true 87):=P4.at_
 have Y4:=Y2.trans Z4
 have A1':=(A1.hx X2).hx Z4
 have o1':=o1.hx Y4
 refine WL.sr<|WOL.fa rfl (fa_of fo1660_1)<|WOL.ld rfl (load_one tp1657 A1' rfl)<|WOL.fa rfl (fa_of fo48_0)<|WOL.ld rfl (load_one tp3 A5 rfl)<|WOL.fa rfl (fa_of fo48_1)<|WOL.ld rfl (load_one tp3 A5 rfl) ?_
 rcases o1' with ⟨e,em⟩ | ⟨hne,b,e,_,AT⟩
 ·injection e with q1 q2 q3
  subst q1 q3
  have e0:M.length=0:=q2
  rw [show fromP M A k=0 by omega,show untP M A k=0 by omega,e0]
  refine WOL.slN2 rfl rfl rfl nil2_1657<|WOL.as rfl<|WOL.nil<|WL.ret (WL.end_ rfl ⟨Y4,?_⟩)
  have:perM M A k=[]:=List.eq_nil_of_length_eq_zero (by rw [perM_len ok hk];omega)
  rw [this]
  exact SlL.nil
 ·injection e with q1 q2 q3
  subst q1 q3
  have sl:SlL encS 2 h4 (.slice (some ⟨b,0,none⟩) M.length M.length) M:=SlL.own eS AT rfl
  have hv:=sliceT_at (P:=Tryz.prog) (t:=36) (k:=.i64) (k':=.i64) (off:=0) (m:=M.length) (cap:=M.length) (lo:=fromP M A k) (hi:=untP M A k) u1657 tp1671 (Nat.le_refl _) lim.1 lim.2 AT (.inr rfl)
  refine WOL.sl rfl rfl rfl hv<|WOL.as rfl<|WOL.nil<|WL.ret (WL.end_ rfl ⟨Y4,?_⟩)
  exact SlL.part eS sl lim.1 lim.2
set_option maxHeartbeats 4000000 in
set_option maxRecDepth 10000 in
theorem k1633 (H:Has tp) (r:SecR h v1 v2 M A) (ft:Fits h v1 77) (nv:v1=.slice none 0 0∨∃ q m c,v1=.slice (some q) m c) (ok:OkP M A) (hk:k≤A.length) (f:Free0 h.next h):CallW Tryz.prog tp (.func (.func 30) #[] #[]) #[secV s v1 v2,zi (k:Nat)] h fun u h'=>HX h h'∧SlL encS 2 h' u (perM M A k):=by
 have lim:=per_lim ok hk
 have mn:=ok.m.n
 have an:=ok.a
 refine CallW.fnL (H.fn 30 f1633 rfl rfl) ?_
 obtain ⟨b1,k1,rfl⟩:=r.m.form
 obtain ⟨b2,k2,rfl⟩:=r.a.form
 refine WL.sr<|WOL.box rfl fun h1 N1=>WOL.as rfl<|WOL.nil<|keep [(1,_),(2,_)] ⟨rfl,rfl,trivial⟩ ?_
 have n1:=N1.next
 have A1:At h1 h.next (.cells [.string s,.slice b1 M.length k1,.slice b2 A.length k2] true true 25):=N1.at_
 refine WL.sr<|WOL.ld rfl (load_row tp1654 A1 rfl (Nat.le_of_ble_eq_true rfl))<|WOL.cl1 rfl rfl ((k1608 (s:=s) H (r.hx N1.hx) (by omega) (by omega) (f.on N1.hx)).mono ?_)
 rintro u h2 ⟨X2,O⟩
 have hp:=perS_get (ds:=M.map Prod.fst) (as_:=A.map Prod.fst) (k:=k) (by rw [List.length_map];exact hk)
 obtain ⟨_,_,_,_,_,_,g1,g2,g3,g4,g5⟩:=(O.sl eS).at eS u44 tp48 hp .i64
 have Y2:=N1.hx.trans X2
 refine WOL.mv rfl<|WOL.ix rfl rfl g1<|WOL.ld rfl (load_row tp48 g2 g4 g3)<|WOL.al tp48 fun h3 N3=>WOL.sto (vs:=[zi (fromP M A k:Nat),zi (untP M A k:Nat)]) rfl rfl tp48 N3.at_ rfl rfl (Nat.le_of_ble_eq_true rfl) rfl ((f.on Y2).hx N3.hx) (Nat.le_refl _) fun h4 P4=>WOL.nil<|keep [(2,_),(5,_)] ⟨rfl,rfl,trivial⟩ ?_
 have Z4:HX h2 h4:=P4.hx _ N3.hx (Nat.le_refl _)
 have A5:At h4 h2.next (.cells [zi (fromP M A k:Nat),zi (untP M A k:Nat)] true true 87):=P4.at_
 have Y4:=Y2.trans Z4
 have A1':=(A1.hx X2).hx Z4
 refine WL.sr<|WOL.bs0 u1651 tp1666 (by decide) (by decide) fun h5 N5=>WOL.fa rfl (fa_of fo1654_1)<|WOL.ld rfl (load_one tp1651 (A1'.hx N5.hx) rfl)<|WOL.fa rfl (fa_of fo48_0)<|WOL.ld rfl (load_one tp3 (A5.hx N5.hx) rfl)<|WOL.fa rfl (fa_of fo48_1)<|WOL.ld rfl (load_one tp3 (A5.hx N5.hx) rfl) ?_
 have Y5:=Y4.trans N5.hx
 have sm:=r.m.hx Y5
 have ft5:=ft.hx Y5
 have fin:∀ {L:Rg} w,SlL encS 2 h5 w (perM M A k)→True:=fun _ _=>trivial
 rcases nv with e | ⟨q,m,c,e⟩
 ·injection e with e1 e2 e3
  subst e1 e3
  have e0:M.length=0:=e2
  rw [show fromP M A k=0 by omega,show untP M A k=0 by omega,e0]
  have en:perM M A k=[]:=List.eq_nil_of_length_eq_zero (by rw [perM_len ok hk];omega)
  rw [en]
  obtain ⟨v',h',ap,X6,O6⟩:=append_ownF (sT:=22) (n0:=h4.next) eS u1651 tp1666 N5.at_ (SlL.nil (enc:=encS) (n:=2) (h:=h5)) (by decide) (Nat.le_refl _)
  exact WOL.slN2 rfl rfl rfl nil2_1651<|WOL.ap rfl rfl ap<|WOL.as rfl<|WOL.nil<|WL.ret (WL.end_ rfl ⟨Y5.trans X6,O6.sl eS⟩)
 ·injection e with e1 e2 e3
  subst e1 e3
  obtain ⟨b,off,z⟩:=q
  have zn:z=none:=by
   rcases sm with ⟨bo',cap',e4,_,_,h3⟩
   cases e4
   rcases h3 with ⟨h3,_⟩ | ⟨b',off',_,_,_,_,e5,_⟩
   ·cases h3
   ·cases e5;rfl
  subst zn
  have cc:=sm
  obtain ⟨cc',fix',wr',el',AT,hf⟩:=ft5 b off M.length k1 rfl
  have hcap:M.length≤k1:=by
   rcases cc with ⟨bo',cap',e4,q1,_,h3⟩
   cases e4;exact q1
  have hv:=sliceT_at (P:=Tryz.prog) (t:=22) (k:=.i64) (k':=.i64) (off:=off) (m:=M.length) (cap:=k1) (lo:=fromP M A k) (hi:=untP M A k) u1651 tp1666 hcap lim.1 lim.2 AT hf
  have sp:=SlL.part eS sm lim.1 lim.2
  have pl:=perM_len ok hk
  obtain ⟨v',h',ap,X6,O6⟩:=append_ownF (sT:=22) (n0:=h4.next) eS u1651 tp1666 N5.at_ (show SlL encS 2 h5 _ (perM M A k) from sp) (by omega) (Nat.le_refl _)
  exact WOL.sl rfl rfl rfl hv<|WOL.ap rfl rfl ap<|WOL.as rfl<|WOL.nil<|WL.ret (WL.end_ rfl ⟨Y5.trans X6,O6.sl eS⟩)
end
end Go.Tidy
namespace Go.Tidy
open Go Go.Proofs Tab
variable {tp:TProg}
section
variable {P:Program} {h:TH} {K:Regs→TH→Prop} {rest:List TOper} {d:Option Tmp} {ty:TypeId} {i:Nat} {x y z:Operand} {t u s:TypeId} {L:Rg}
theorem WOL.iminQ {m n:Int} (hx:getL L x=some (zi m)) (hy:getL L y=some (zi n)) (w:∀ a,Kn (putL L d (zi (min m n))) a→WO P tp rest a h K):∀ a,Kn L a→WO P tp (⟨d,.call ⟨.builtin .min,#[x,y],#[t,u]⟩,ty,none,[],i⟩::rest) a h K:=by
 intro a k
 have ex:=getO_eval (k.o hx)
 have ey:=getO_eval (k.o hy)
 have q:(if n < m then n else m)=min m n:=by rw [Int.min_def];split <;> split <;> omega
 refine WO.plainly rfl rfl rfl rfl rfl (plainOp_of rfl (fun p hp=>?_) ?_ rfl) (w _ (k.put d _))
 ·simp only [Op.operands,Call.operands] at hp
  simp at hp
  rcases hp with rfl | rfl
  ·rw [ex];rfl
  ·rw [ey];rfl
 ·simp [toOper,execOp,resolve,invoke,builtin,Builtin.min_,Builtin.min2,pv_bind,pv_map,pv_pure,ex,ey,q]
end
def perE (s:ByteArray) (M:List (Int × Int)) (A:List (Int × ByteArray)) (k:Int):Int:=firstNZ [secE s M A,cond (decide (k < 0) || decide (k > (A.length:Int))) 10 0]
theorem perE_ok {s:ByteArray} {M:List (Int × Int)} {A:List (Int × ByteArray)} {k:Int} (h:perE s M A k=0):∃ n:Nat,k=(n:Nat)∧n≤A.length∧OkP M A:=by
 have h1:=(firstNZ_zero h _ (List.mem_cons_self ..):secE s M A=0)
 have h2:=(firstNZ_zero h _ (List.mem_cons_of_mem _ (List.mem_cons_self ..)):cond (decide (k < 0) || decide (k > (A.length:Int))) (10:Int) 0=0)
 have o:=sec_ok h1
 by_cases c1:k < 0
 ·rw [decide_eq_true c1] at h2;cases h2
 ·by_cases c2:k > (A.length:Int)
  ·rw [decide_eq_false c1,decide_eq_true c2] at h2;cases h2
  ·exact ⟨k.toNat,by omega,by omega,o⟩
def fewE (L:List (Int × Int)):Int:=cond (decide (L.length < 2)) 16 0
def lineV (e:Int) (L:List (Int × Int)):Value:=cond (e != 0) (strV 0 0 0 0) (strV (dM L) (lvM L) (slM L) (deM L))
theorem few_z {L:List (Int × Int)} (h:fewE L=0):2≤L.length:=by
 unfold fewE at h
 by_cases c:L.length < 2
 ·rw [decide_eq_true c] at h;cases h
 ·omega
theorem bd1683 {a b c d e:Int}:buildT Tryz.prog 32 [(0,zi a),(1,.agg #[zi b,zi c]),(2,.agg #[zi d,zi e])]=some (.agg #[zi a,zi b,zi c,zi d,zi e]):=by kernel_rfl
theorem bd1683z:buildT Tryz.prog 32 []=some (.agg #[zi 0,zi 0,zi 0,zi 0,zi 0]):=by kernel_rfl
theorem tp1683:Tp Tryz.prog 32 5 [.int .i64 0,.int .i64 0,.int .i64 0,.int .i64 0,.int .i64 0] true:=tp_of (by kernel_rfl) (by kernel_rfl) rfl
abbrev Five:=Int × Int × Int × Int × Int
def five (x:Five):Value:=.agg #[zi x.1,zi x.2.1,zi x.2.2.1,zi x.2.2.2.1,zi x.2.2.2.2]
def fitA8 (e:Int) (L:List (Int × Int)):Five:=cond (e != 0) (0,0,0,0,0) (dM L,rtN (lvM L) (deM L).toNat,rtD (lvM L) (deM L).toNat,rtN (slM L) (deM L).toNat,rtD (slM L) (deM L).toNat)
def preA (e:Int) (L:List (Int × Int)) (x:Int):Int × Int:=cond (e != 0) (0,0) (rtN (atS (dM L) (lvM L) (slM L) x) (deM L).toNat,rtD (atS (dM L) (lvM L) (slM L) x) (deM L).toNat)
def lastM (L:List (Int × Int)):Int:=lastD (L.map Prod.fst)
def reaZ (L:List (Int × Int)) (l:Int):Int:=reS (dM L) (lvM L) (slM L) (deM L) (lastM L) l
def reaA (e:Int) (L:List (Int × Int)) (l:Int):Int × Int:=cond (e != 0) (0,e) (cond (reaZ L l == 100001) 0 (reaZ L l),cond (reaZ L l == 100001) 7 0)
theorem lastM_in {L:List (Int × Int)} (o:OkM L) (h:0 < L.length):0≤lastM L∧lastM L≤100000∧lastM L=(L.getD (L.length - 1) (0,0)).1:=by
 have hp:L[L.length - 1]?=some (L.getD (L.length - 1) (0,0)):=by rw [List.getD_eq_getElem?_getD,List.getElem?_eq_getElem (by omega)];rfl
 have e:lastM L=(L.getD (L.length - 1) (0,0)).1:=lastD_map hp
 have b:=o.b (L.length - 1) (by omega)
 rw [e]
 exact ⟨b.1,b.2.1,rfl⟩
section
variable {h:TH} {v v1 v2:Value} {s:ByteArray} {M:List (Int × Int)} {A:List (Int × ByteArray)} {n0 k:Nat} {x l d n r e:Int}
set_option maxHeartbeats 4000000 in
set_option maxRecDepth 10000 in
theorem k1702 (H:Has tp) (o:OkS d n r e) (x0:0≤x) (x1:x≤100000) (l0:0≤l) (l1:l≤100000):CallW Tryz.prog tp (.func (.func 128) #[] #[]) #[strV d n r e,zi x,zi l] h fun u h'=>u=zi (reS d n r e x l)∧HX h h':=by
 have m:=lim_le l0 l1 o.e0 o.e1
 have ma:=o.at_ x0 x1
 have n1:=o.n1
 have r1:=o.r1
 refine CallW.fnL (H.fn 128 f1702 rfl rfl) ?_
 refine WL.sr<|WOL.box rfl fun h1 N1=>WOL.as rfl<|WOL.nil<|keep [(1,_),(2,_),(3,_)] ⟨rfl,rfl,rfl,trivial⟩ ?_
 have A1:At h1 h.next (.cells [zi d,zi n,zi r,zi e] true true 125):=N1.at_
 unfold reS
 refine WL.seq<|WL.block<|WL.sr<|WOL.ld rfl (load_row tp1732 A1 rfl (Nat.le_of_ble_eq_true rfl))<|WOL.mv rfl<|WOL.mv rfl<|WOL.cl3 rfl rfl rfl rfl ((k1689 (d:=d) (n:=n) (r:=r) (e:=e) H o x0 x1 l0 l1).mono ?_)
 rintro u h2 ⟨rfl,X2⟩
 have Y2:=N1.hx.trans X2
 replace A1:=A1.hx X2
 by_cases c1:atS d n r x ≥ l*e
 ·rw [decide_eq_true c1]
  exact WOL.as rfl<|WOL.nil<|WL.yes rfl<|WL.sr<|WOL.mv rfl<|WOL.as rfl<|WOL.nil<|WL.ret (WL.end_ rfl ⟨rfl,Y2⟩)
 rw [decide_eq_false c1]
 refine WOL.as rfl<|WOL.nil<|WL.no rfl<|keep [(1,_),(2,_),(3,_)] ⟨rfl,rfl,rfl,trivial⟩ ?_
 refine WL.sr<|WOL.fa rfl (fa_of fo1732_2)<|WOL.ld rfl (load_one tp3 A1 rfl) ?_
 by_cases c2:r≤0
 ·rw [decide_eq_true c2]
  exact WOL.bt rfl rfl rfl (decide_eq_true c2)<|WOL.as rfl<|WOL.nil<|WL.yes rfl<|WL.sr<|WOL.as rfl<|WOL.nil<|WL.ret (WL.end_ rfl ⟨rfl,Y2⟩)
 rw [decide_eq_false c2]
 refine WOL.bf rfl rfl rfl (decide_eq_false c2)<|WOL.as rfl<|WOL.nil<|WL.no rfl<|WL.skip<|keep [(1,_),(2,_),(3,_)] ⟨rfl,rfl,rfl,trivial⟩ ?_
 refine WL.sr<|WOL.mv rfl<|WOL.fa rfl (fa_of fo1732_3)<|WOL.ld rfl (load_one tp3 A1 rfl)<|WOL.mul rfl rfl (by omega) (by omega)<|WOL.ld rfl (load_row tp1732 A1 rfl (Nat.le_of_ble_eq_true rfl))<|WOL.mv rfl<|WOL.lk2 rfl rfl rfl fun L=>((k1704 (d:=d) (n:=n) (r:=r) (e:=e) H o x0 x1).mono ?_)
 rintro u h3 ⟨rfl,X3⟩
 replace X3:=X3.relock
 generalize h3.withLock h2.lock=h3 at *
 replace A1:=A1.hx X3
 have la:(atS d n r x).natAbs≤2200000000000000000:=by unfold atS;omega
 generalize atS d n r x=z at *
 refine WOL.sub rfl rfl (by omega) (by omega)<|WOL.as rfl<|WOL.nil<|keep [(1,_),(2,_),(3,_),(7,_)] ⟨rfl,rfl,rfl,rfl,trivial⟩ ?_
 have u0:0≤upS (l*e - z) r:=Int.ediv_nonneg (by omega) (by omega)
 have u1:upS (l*e - z) r≤l*e - z+r - 1:=Int.ediv_le_self _ (by omega)
 refine WL.sr<|WOL.mv rfl<|WOL.mv rfl<|WOL.fa rfl (fa_of fo1732_2)<|WOL.ld rfl (load_one tp3 A1 rfl)<|WOL.cl2 rfl rfl rfl ((k1497 H (by omega) (by omega) (by omega) (by omega)).mono ?_)
 rintro u h4 ⟨rfl,rfl⟩
 exact WOL.add rfl rfl (by omega) (by omega)<|WOL.iminQ rfl rfl<|WOL.as rfl<|WOL.nil<|WL.ret (WL.end_ rfl ⟨rfl,Y2.trans X3⟩)
set_option maxHeartbeats 4000000 in
set_option maxRecDepth 10000 in
theorem k1666 (H:Has tp) (o1:OwnL encS n0 h v1 120 M) (o2:OwnL encA n0 h v2 128 A) (ok:OkP M A) (hk:k≤A.length) (f:Free0 h.next h):CallW Tryz.prog tp (.func (.func 63) #[] #[]) #[secV s v1 v2,zi (k:Nat)] h fun u h'=>HX h h'∧u=.tuple #[lineV (fewE (perM M A k)) (perM M A k),zi (fewE (perM M A k))]:=by
 have pm:=ok.per hk
 have pn:=pm.n
 refine CallW.fnL (H.fn 63 f1666 rfl rfl) ?_
 obtain ⟨b1,k1,e1⟩:=(o1.sl eS).form
 obtain ⟨b2,k2,e2⟩:=(o2.sl eA).form
 subst e1 e2
 refine WL.sr<|WOL.box rfl fun h1 N1=>WOL.al tp1732 fun h2 N2=>WOL.as rfl<|WOL.nil<|keep [(1,_),(2,_),(4,_)] ⟨rfl,rfl,rfl,trivial⟩ ?_
 have n1:=N1.next
 have n2:=N2.next
 have A1:At h2 h.next (.cells [.string s,.slice b1 M.length k1,.slice b2 A.length k2] true true 39):=N1.at_.hx N2.hx
 have A4:=N2.at_
 have X2:=N1.hx.trans N2.hx
 refine WL.sr<|WOL.ld rfl (load_row tp1660 A1 rfl (Nat.le_of_ble_eq_true rfl))<|WOL.mv rfl<|WOL.cl2 rfl rfl rfl ((k1679 (s:=s) H (o1.hx X2) (o2.hx X2) ok hk (f.on X2)).mono ?_)
 rintro u h3 ⟨X3,sl⟩
 have Y3:=X2.trans X3
 refine WOL.as rfl<|WOL.nil<|keep [(4,_),(6,_)] ⟨rfl,rfl,trivial⟩ ?_
 generalize perM M A k=L at *
 unfold fewE lineV
 by_cases c:L.length < 2
 ·rw [decide_eq_true c]
  refine WL.seq<|WL.sr<|WOL.mv rfl<|WOL.len rfl sl u1657<|WOL.bt rfl rfl rfl (decide_eq_true (by omega))<|WOL.nil<|WL.yes rfl<|WL.sr<|WOL.bd rfl bd1732z<|WOL.sto (vs:=[zi 0,zi 0,zi 0,zi 0]) rfl rfl tp1732 (A4.hx X3) rfl rfl (Nat.le_of_ble_eq_true rfl) rfl (f.hx Y3) (by omega) fun h4 P4=>WOL.as rfl<|WOL.nil ?_
  exact WL.ret (WL.endC1 rfl rfl (load_row tp1732 P4.at_ rfl (Nat.le_of_ble_eq_true rfl)) ⟨P4.hx _ Y3 (by omega),rfl⟩)
 ·rw [decide_eq_false c]
  refine WL.seq<|WL.sr<|WOL.mv rfl<|WOL.len rfl sl u1657<|WOL.bf rfl rfl rfl (decide_eq_false (by omega))<|WOL.nil<|WL.no rfl<|WL.skip<|WL.sr<|WOL.mv rfl<|WOL.cl1 rfl rfl ((k1701 H sl pm (by omega) (f.on Y3)).mono ?_)
  rintro u h4 ⟨rfl,X4⟩
  refine WOL.sto (vs:=[zi (dM L),zi (lvM L),zi (slM L),zi (deM L)]) rfl rfl tp1732 ((A4.hx X3).hx X4) rfl rfl (Nat.le_of_ble_eq_true rfl) rfl (f.hx (Y3.trans X4)) (by omega) fun h5 P5=>WOL.as rfl<|WOL.nil ?_
  exact WL.ret (WL.endC1 rfl rfl (load_row tp1732 P5.at_ rfl (Nat.le_of_ble_eq_true rfl)) ⟨P5.hx _ (Y3.trans X4) (by omega),rfl⟩)
set_option maxHeartbeats 4000000 in
set_option maxRecDepth 10000 in
theorem k1665 (H:Has tp) {q:Int} (o1:OwnL encS n0 h v1 120 M) (o2:OwnL encA n0 h v2 128 A) (lM:M.length≤100000) (lA:A.length≤100000) (f:Free0 h.next h):CallW Tryz.prog tp (.func (.func 62) #[] #[]) #[secV s v1 v2,zi q] h fun u h'=>u=zi (perE s M A q)∧HX h h':=by
 refine CallW.fnL (H.fn 62 f1665 rfl rfl) ?_
 obtain ⟨b1,k1,e1⟩:=(o1.sl eS).form
 obtain ⟨b2,k2,e2⟩:=(o2.sl eA).form
 subst e1 e2
 refine WL.sr<|WOL.box rfl fun h1 N1=>WOL.as rfl<|WOL.nil<|keep [(1,_),(2,_)] ⟨rfl,rfl,trivial⟩ ?_
 have n1:=N1.next
 have A1:At h1 h.next (.cells [.string s,.slice b1 M.length k1,.slice b2 A.length k2] true true 39):=N1.at_
 refine WL.sr<|WOL.ld rfl (load_row tp1660 A1 rfl (Nat.le_of_ble_eq_true rfl))<|WOL.cl1 rfl rfl ((k1609 (s:=s) H (SecH.of (o1.hx N1.hx) (o2.hx N1.hx)) lM lA (f.on N1.hx)).mono ?_)
 rintro u h2 ⟨rfl,X2⟩
 have Y2:=N1.hx.trans X2
 have A1':=A1.hx X2
 have sa:=(o2.hx Y2).sl eA
 unfold perE
 by_cases c:q < 0
 ·rw [decide_eq_true c]
  refine WOL.mv rfl<|WOL.bt rfl rfl rfl (decide_eq_true c)<|WOL.mv rfl<|WOL.skp (b:=true) rfl rfl<|WOL.skp (b:=true) rfl rfl<|WOL.skp (b:=true) rfl rfl<|WOL.skp (b:=true) rfl rfl<|WOL.skp (b:=true) rfl rfl<|WOL.pkt rfl rfl<|WOL.cl2 rfl rfl rfl ((k77 H _ _ _).mono ?_)
  rintro u h3 ⟨rfl,rfl⟩
  refine WOL.bsl rfl u166 tp30 (by decide) (by decide) (by decide) (filled_ints _ _) fun h6 N6=>?_
  refine WOL.cl1 rfl rfl ((k71 H (l:=[_,_]) N6.at_.get (by simp)).mono ?_)
  rintro u h7 ⟨rfl,rfl⟩
  exact WOL.as rfl<|WOL.nil<|WL.ret (WL.end_ rfl ⟨rfl,Y2.trans N6.hx⟩)
 ·rw [decide_eq_false c]
  refine WOL.mv rfl<|WOL.bf rfl rfl rfl (decide_eq_false c)<|WOL.mv rfl<|WOL.now (b:=false) rfl rfl<|WOL.mv rfl<|WOL.now (b:=false) rfl rfl<|WOL.fa rfl (fa_of fo1660_2)<|WOL.now (b:=false) rfl rfl<|WOL.ld rfl (load_one tp1658 A1' rfl)<|WOL.now (b:=false) rfl rfl<|WOL.len rfl sa u1658<|WOL.now (b:=false) rfl rfl<|WOL.bi rfl rfl rfl<|WOL.pkf rfl rfl<|WOL.cl2 rfl rfl rfl ((k77 H _ _ _).mono ?_)
  rintro u h3 ⟨rfl,rfl⟩
  refine WOL.bsl rfl u166 tp30 (by decide) (by decide) (by decide) (filled_ints _ _) fun h6 N6=>?_
  refine WOL.cl1 rfl rfl ((k71 H (l:=[_,_]) N6.at_.get (by simp)).mono ?_)
  rintro u h7 ⟨rfl,rfl⟩
  exact WOL.as rfl<|WOL.nil<|WL.ret (WL.end_ rfl ⟨rfl,Y2.trans N6.hx⟩)
end
end Go.Tidy
namespace Go.Tidy
open Go Go.Proofs Tab
variable {tp:TProg}
def fitT (s:ByteArray) (M:List (Int × Int)) (A:List (Int × ByteArray)) (q:Int):Int:=cond (perE s M A q != 0) (perE s M A q) (fewE (perM M A q.toNat))
def preT (s:ByteArray) (M:List (Int × Int)) (A:List (Int × ByteArray)) (q x:Int):Int:=cond (firstNZ [perE s M A q,outB x 0 100000] != 0) (firstNZ [perE s M A q,outB x 0 100000]) (fewE (perM M A q.toNat))
section
variable {h:TH} {v v1 v2:Value} {s:ByteArray} {M:List (Int × Int)} {A:List (Int × ByteArray)} {n0 k:Nat} {x l q:Int}
set_option maxHeartbeats 4000000 in
set_option maxRecDepth 10000 in
theorem k1668 (H:Has tp) (o1:OwnL encS n0 h v1 120 M) (o2:OwnL encA n0 h v2 128 A) (ok:OkP M A) (hk:k≤A.length) (x0:0≤x) (x1:x≤100000) (f:Free0 h.next h):CallW Tryz.prog tp (.func (.func 67) #[] #[]) #[secV s v1 v2,zi (k:Nat),zi x] h fun u h'=>HX h h'∧u=.tuple #[.agg #[zi (preA (fewE (perM M A k)) (perM M A k) x).1,zi (preA (fewE (perM M A k)) (perM M A k) x).2],zi (fewE (perM M A k))]:=by
 have pm:=ok.per hk
 refine CallW.fnL (H.fn 67 f1668 rfl rfl) ?_
 obtain ⟨b1,k1,e1⟩:=(o1.sl eS).form
 obtain ⟨b2,k2,e2⟩:=(o2.sl eA).form
 subst e1 e2
 refine WL.sr<|WOL.box rfl fun h1 N1=>WOL.al tp24 fun h2 N2=>WOL.as rfl<|WOL.nil<|keep [(1,_),(2,_),(3,_),(6,_)] ⟨rfl,rfl,rfl,rfl,trivial⟩ ?_
 have n1:=N1.next
 have n2:=N2.next
 have A1:At h2 h.next (.cells [.string s,.slice b1 M.length k1,.slice b2 A.length k2] true true 39):=N1.at_.hx N2.hx
 have A6:=N2.at_
 have X2:=N1.hx.trans N2.hx
 refine WL.sr<|WOL.ld rfl (load_row tp1660 A1 rfl (Nat.le_of_ble_eq_true rfl))<|WOL.mv rfl<|WOL.cl2 rfl rfl rfl ((k1666 (s:=s) H (o1.hx X2) (o2.hx X2) ok hk (f.on X2)).mono ?_)
 rintro u h3 ⟨X3,rfl⟩
 have Y3:=X2.trans X3
 have x3:=X3.next
 generalize perM M A k=L at *
 by_cases e0:fewE L=0
 ·have l2:=few_z e0
  have os:=pm.s l2
  rw [e0]
  refine WOL.mv rfl<|WOL.ex rfl rfl<|WOL.ex rfl rfl<|WOL.al tp1732 fun h4 N4=>WOL.sto (vs:=[zi (dM L),zi (lvM L),zi (slM L),zi (deM L)]) rfl rfl tp1732 N4.at_ rfl rfl (Nat.le_of_ble_eq_true rfl) rfl ((f.on Y3).hx N4.hx) (Nat.le_refl _) fun h5 P5=>WOL.as rfl<|WOL.nil<|keep [(2,_),(6,_),(8,_),(9,_)] ⟨rfl,rfl,rfl,rfl,trivial⟩ ?_
  have Z5:HX h3 h5:=P5.hx _ N4.hx (Nat.le_refl _)
  have A8:At h5 h3.next (.cells [zi (dM L),zi (lvM L),zi (slM L),zi (deM L)] true true 125):=P5.at_
  have Y5:=Y3.trans Z5
  refine WL.seq<|WL.sr<|WOL.mv rfl<|WOL.bf rfl rfl rfl rfl<|WOL.nil<|WL.no rfl<|WL.skip<|WL.sr<|WOL.ld rfl (load_row tp1732 A8 rfl (Nat.le_of_ble_eq_true rfl))<|WOL.mv rfl<|WOL.cl2 rfl rfl rfl ((k1683 (d:=dM L) (n:=lvM L) (r:=slM L) (e:=deM L) H os x0 x1 (f.on Y5)).mono ?_)
  rintro u h6 ⟨rfl,X6⟩
  have x6:=X6.next
  refine WOL.sto (vs:=[zi (rtN (atS (dM L) (lvM L) (slM L) x) (deM L).toNat),zi (rtD (atS (dM L) (lvM L) (slM L) x) (deM L).toNat)]) rfl rfl tp24 (((A6.hx X3).hx Z5).hx X6) rfl rfl (Nat.le_of_ble_eq_true rfl) rfl (f.hx (Y5.trans X6)) (by omega) fun h7 P7=>WOL.as rfl<|WOL.nil ?_
  exact WL.ret (WL.endC1 rfl rfl (load_row tp24 P7.at_ rfl (Nat.le_of_ble_eq_true rfl)) ⟨P7.hx _ (Y5.trans X6) (by omega),rfl⟩)
 ·have eV:lineV (fewE L) L=strV 0 0 0 0:=by unfold lineV;rw [bne_iff_ne.2 e0];rfl
  have eP:preA (fewE L) L x=(0,0):=by unfold preA;rw [bne_iff_ne.2 e0];rfl
  rw [eV,eP]
  generalize fewE L=E at *
  refine WOL.mv rfl<|WOL.ex rfl rfl<|WOL.ex rfl rfl<|WOL.al tp1732 fun h4 N4=>WOL.sto (vs:=[zi 0,zi 0,zi 0,zi 0]) rfl rfl tp1732 N4.at_ rfl rfl (Nat.le_of_ble_eq_true rfl) rfl ((f.on Y3).hx N4.hx) (Nat.le_refl _) fun h5 P5=>WOL.as rfl<|WOL.nil<|keep [(2,_),(6,_),(8,_),(9,_)] ⟨rfl,rfl,rfl,rfl,trivial⟩ ?_
  have Z5:HX h3 h5:=P5.hx _ N4.hx (Nat.le_refl _)
  have Y5:=Y3.trans Z5
  refine WL.seq<|WL.sr<|WOL.mv rfl<|WOL.bt rfl rfl rfl (bne_iff_ne.2 e0)<|WOL.nil<|WL.yes rfl<|WL.sr<|WOL.bd rfl bd24z<|WOL.mv rfl<|WOL.sto (vs:=[zi 0,zi 0]) rfl rfl tp24 ((A6.hx X3).hx Z5) rfl rfl (Nat.le_of_ble_eq_true rfl) rfl (f.hx Y5) (by omega) fun h7 P7=>WOL.as rfl<|WOL.nil ?_
  exact WL.ret (WL.endC1 rfl rfl (load_row tp24 P7.at_ rfl (Nat.le_of_ble_eq_true rfl)) ⟨P7.hx _ Y5 (by omega),rfl⟩)
set_option maxHeartbeats 4000000 in
set_option maxRecDepth 10000 in
theorem k1670 (H:Has tp) (o1:OwnL encS n0 h v1 120 M) (o2:OwnL encA n0 h v2 128 A) (ok:OkP M A) (hk:k≤A.length) (x0:0≤l) (x1:l≤100000) (f:Free0 h.next h):CallW Tryz.prog tp (.func (.func 69) #[] #[]) #[secV s v1 v2,zi (k:Nat),zi l] h fun u h'=>HX h h'∧u=.tuple #[zi (cond (fewE (perM M A k) != 0) 0 (reaZ (perM M A k) l)),zi (fewE (perM M A k))]:=by
 have pm:=ok.per hk
 have pn:=pm.n
 refine CallW.fnL (H.fn 69 f1670 rfl rfl) ?_
 obtain ⟨b1,k1,e1⟩:=(o1.sl eS).form
 obtain ⟨b2,k2,e2⟩:=(o2.sl eA).form
 subst e1 e2
 refine WL.sr<|WOL.box rfl fun h1 N1=>WOL.as rfl<|WOL.as rfl<|WOL.nil<|keep [(1,_),(2,_),(3,_)] ⟨rfl,rfl,rfl,trivial⟩ ?_
 have n1:=N1.next
 have A1:At h1 h.next (.cells [.string s,.slice b1 M.length k1,.slice b2 A.length k2] true true 39):=N1.at_
 refine WL.sr<|WOL.ld rfl (load_row tp1660 A1 rfl (Nat.le_of_ble_eq_true rfl))<|WOL.mv rfl<|WOL.cl2 rfl rfl rfl ((k1666 (s:=s) H (o1.hx N1.hx) (o2.hx N1.hx) ok hk (f.on N1.hx)).mono ?_)
 rintro u h3 ⟨X3,rfl⟩
 have Y3:=N1.hx.trans X3
 have x3:=X3.next
 by_cases e0:fewE (perM M A k)=0
 ·have l2:=few_z e0
  have os:=pm.s l2
  have lm:=lastM_in pm (by omega)
  rw [e0]
  refine WOL.mv rfl<|WOL.ex rfl rfl<|WOL.ex rfl rfl<|WOL.al tp1732 fun h4 N4=>WOL.sto (vs:=[zi (dM (perM M A k)),zi (lvM (perM M A k)),zi (slM (perM M A k)),zi (deM (perM M A k))]) rfl rfl tp1732 N4.at_ rfl rfl (Nat.le_of_ble_eq_true rfl) rfl ((f.on Y3).hx N4.hx) (Nat.le_refl _) fun h5 P5=>WOL.as rfl<|WOL.nil<|keep [(1,_),(2,_),(3,_),(8,_),(9,_)] ⟨rfl,rfl,rfl,rfl,rfl,trivial⟩ ?_
  have n4:=N4.next
  have n5:=P5.next
  have Z5:HX h3 h5:=P5.hx _ N4.hx (Nat.le_refl _)
  have A8:At h5 h3.next (.cells [zi (dM (perM M A k)),zi (lvM (perM M A k)),zi (slM (perM M A k)),zi (deM (perM M A k))] true true 125):=P5.at_
  have Y5:=Y3.trans Z5
  refine WL.seq<|WL.sr<|WOL.mv rfl<|WOL.bf rfl rfl rfl rfl<|WOL.nil<|WL.no rfl<|WL.skip<|WL.sr<|WOL.ld rfl (load_row tp1732 A8 rfl (Nat.le_of_ble_eq_true rfl))<|WOL.ld rfl (load_row tp1660 ((A1.hx X3).hx Z5) rfl (Nat.le_of_ble_eq_true rfl))<|WOL.mv rfl<|WOL.mv rfl ?_
  refine WOL.lq2 [h3.next] rfl rfl rfl rfl fun L hL=>((k1679 (h:=h5.withLock L) (s:=s) H ((o1.hx Y5).relock L) ((o2.hx Y5).relock L) ok hk ((f.on Y5).held hL (fun b hb=>by simp at hb;omega))).mono ?_)
  rintro u h6 ⟨X6,sl⟩
  replace X6:=X6.relock
  replace sl:=sl.relock h5.lock
  generalize h6.withLock h5.lock=h6 at *
  refine WOL.lk1 rfl rfl fun L=>((k1664 H (sl.relock L) (by omega)).mono ?_)
  rintro u h7 ⟨rfl,X7⟩
  replace X7:=X7.relock
  generalize h7.withLock h6.lock=h7 at *
  refine WOL.cl3 rfl rfl rfl rfl ((k1702 (d:=dM (perM M A k)) (n:=lvM (perM M A k)) (r:=slM (perM M A k)) (e:=deM (perM M A k)) (x:=lastM (perM M A k)) H os lm.1 lm.2.1 x0 x1).mono ?_)
  rintro u h8 ⟨rfl,X8⟩
  exact WOL.as rfl<|WOL.as rfl<|WOL.nil<|WL.ret (WL.end_ rfl ⟨((Y5.trans X6).trans X7).trans X8,rfl⟩)
 ·have eV:lineV (fewE (perM M A k)) (perM M A k)=strV 0 0 0 0:=by unfold lineV;rw [bne_iff_ne.2 e0];rfl
  rw [eV,bne_iff_ne.2 e0]
  generalize fewE (perM M A k)=E at *
  refine WOL.mv rfl<|WOL.ex rfl rfl<|WOL.ex rfl rfl<|WOL.al tp1732 fun h4 N4=>WOL.sto (vs:=[zi 0,zi 0,zi 0,zi 0]) rfl rfl tp1732 N4.at_ rfl rfl (Nat.le_of_ble_eq_true rfl) rfl ((f.on Y3).hx N4.hx) (Nat.le_refl _) fun h5 P5=>WOL.as rfl<|WOL.nil<|keep [(2,_),(8,_),(9,_)] ⟨rfl,rfl,rfl,trivial⟩ ?_
  have Z5:HX h3 h5:=P5.hx _ N4.hx (Nat.le_refl _)
  exact WL.seq<|WL.sr<|WOL.mv rfl<|WOL.bt rfl rfl rfl (bne_iff_ne.2 e0)<|WOL.nil<|WL.yes rfl<|WL.sr<|WOL.mv rfl<|WOL.as rfl<|WOL.as rfl<|WOL.nil<|WL.ret (WL.end_ rfl ⟨Y3.trans Z5,rfl⟩)
set_option maxHeartbeats 4000000 in
set_option maxRecDepth 10000 in
theorem k1618 (H:Has tp) (o1:OwnL encS n0 h v1 120 M) (o2:OwnL encA n0 h v2 128 A) (lM:M.length≤100000) (lA:A.length≤100000) (f:Free0 h.next h):CallW Tryz.prog tp (.func (.func 11) #[] #[]) #[secV s v1 v2,zi q] h fun u h'=>HX h h'∧u=.tuple #[five (fitA8 (fitT s M A q) (perM M A q.toNat)),zi (fitT s M A q)]:=by
 refine CallW.fnL (H.fn 11 f1618 rfl rfl) ?_
 obtain ⟨b1,k1,e1⟩:=(o1.sl eS).form
 obtain ⟨b2,k2,e2⟩:=(o2.sl eA).form
 subst e1 e2
 refine WL.sr<|WOL.box rfl fun h1 N1=>WOL.al tp1683 fun h2 N2=>WOL.as rfl<|WOL.nil<|keep [(1,_),(2,_),(4,_)] ⟨rfl,rfl,rfl,trivial⟩ ?_
 have n1:=N1.next
 have n2:=N2.next
 have A1:At h2 h.next (.cells [.string s,.slice b1 M.length k1,.slice b2 A.length k2] true true 39):=N1.at_.hx N2.hx
 have A4:=N2.at_
 have X2:=N1.hx.trans N2.hx
 refine WL.seq<|WL.sr<|WOL.ld rfl (load_row tp1660 A1 rfl (Nat.le_of_ble_eq_true rfl))<|WOL.mv rfl<|WOL.cl2 rfl rfl rfl ((k1665 (s:=s) (q:=q) H (o1.hx X2) (o2.hx X2) lM lA (f.on X2)).mono ?_)
 rintro u h3 ⟨rfl,X3⟩
 have Y3:=X2.trans X3
 have x3:=X3.next
 replace A1:=A1.hx X3;replace A4:=A4.hx X3
 refine WOL.as rfl<|WOL.nil<|keep [(1,_),(2,_),(4,_),(6,_)] ⟨rfl,rfl,rfl,rfl,trivial⟩ ?_
 have eT:fitT s M A q=cond (perE s M A q != 0) (perE s M A q) (fewE (perM M A q.toNat)):=rfl
 by_cases e0:perE s M A q=0
 ·obtain ⟨k,rfl,hk,ok⟩:=perE_ok e0
  rw [e0] at eT
  replace eT:fitT s M A (k:Nat)=fewE (perM M A k):=eT
  rw [e0,eT,Int.toNat_natCast]
  have pm:=ok.per hk
  refine WL.sr<|WOL.mv rfl<|WOL.bf rfl rfl rfl rfl<|WOL.nil<|WL.no rfl<|WL.skip<|keep [(1,_),(2,_),(4,_)] ⟨rfl,rfl,rfl,trivial⟩ ?_
  refine WL.sr<|WOL.ld rfl (load_row tp1660 A1 rfl (Nat.le_of_ble_eq_true rfl))<|WOL.mv rfl<|WOL.cl2 rfl rfl rfl ((k1666 (s:=s) (k:=k) H (o1.hx Y3) (o2.hx Y3) ok hk (f.on Y3)).mono ?_)
  rintro u h4 ⟨X4,rfl⟩
  have Y4:=Y3.trans X4
  have x4:=X4.next
  generalize perM M A k=L at *
  by_cases f0:fewE L=0
  ·have l2:=few_z f0
   have os:=pm.s l2
   rw [f0]
   refine WOL.mv rfl<|WOL.ex rfl rfl<|WOL.ex rfl rfl<|WOL.al tp1732 fun h5 N5=>WOL.sto (vs:=[zi (dM L),zi (lvM L),zi (slM L),zi (deM L)]) rfl rfl tp1732 N5.at_ rfl rfl (Nat.le_of_ble_eq_true rfl) rfl ((f.on Y4).hx N5.hx) (Nat.le_refl _) fun h6 P6=>WOL.as rfl<|WOL.nil<|keep [(4,_),(7,_),(8,_)] ⟨rfl,rfl,rfl,trivial⟩ ?_
   have n5:=N5.next
   have n6:=P6.next
   have Z6:HX h4 h6:=P6.hx _ N5.hx (Nat.le_refl _)
   have A7:At h6 h4.next (.cells [zi (dM L),zi (lvM L),zi (slM L),zi (deM L)] true true 125):=P6.at_
   have Y6:=Y4.trans Z6
   have e0':=os.e0
   have e1':=os.e1
   have nn:=os.n1
   have rr:=os.r1
   unfold fitA8
   obtain ⟨w,hw⟩:∃ w:Nat,deM L=(w:Int):=⟨(deM L).toNat,by omega⟩
   rw [hw] at A7 e0' e1' ⊢
   rw [Int.toNat_natCast]
   refine WL.seq<|WL.sr<|WOL.mv rfl<|WOL.bf rfl rfl rfl rfl<|WOL.nil<|WL.no rfl<|WL.skip<|WL.sr<|WOL.fa rfl (fa_of fo1732_0)<|WOL.ld rfl (load_one tp3 A7 rfl)<|WOL.fa rfl (fa_of fo1732_1)<|WOL.ld rfl (load_one tp3 A7 rfl)<|WOL.fa rfl (fa_of fo1732_3)<|WOL.ld rfl (load_one tp3 A7 rfl)<|WOL.fa rfl (fa_of fo1732_2)<|WOL.ld rfl (load_one tp3 A7 rfl)<|WOL.fa rfl (fa_of fo1732_3)<|WOL.ld rfl (load_one tp3 A7 rfl) ?_
   refine WOL.lq2 [h4.next,h4.next,h4.next] rfl rfl rfl rfl fun L' hL=>((k91v (h:=h6.withLock L') (m:=lvM L) (n:=w) H (by omega) (by omega) (by omega) (by omega) ((f.on Y6).held hL (fun b hb=>by simp at hb;omega))).mono ?_)
   rintro u h7 ⟨rfl,X7⟩
   replace X7:=X7.relock
   generalize h7.withLock h6.lock=h7 at *
   have Y7:=Y6.trans X7
   have x7:=X7.next
   refine WOL.lq2 [h4.next] rfl rfl rfl rfl fun L' hL=>((k91v (h:=h7.withLock L') (m:=slM L) (n:=w) H (by omega) (by omega) (by omega) (by omega) ((f.on Y7).held hL (fun b hb=>by simp at hb;omega))).mono ?_)
   rintro u h8 ⟨rfl,X8⟩
   replace X8:=X8.relock
   generalize h8.withLock h7.lock=h8 at *
   have Y8:=Y7.trans X8
   have x8:=X8.next
   refine WOL.bd rfl bd1683<|WOL.sto (vs:=[zi (dM L),zi (rtN (lvM L) w),zi (rtD (lvM L) w),zi (rtN (slM L) w),zi (rtD (slM L) w)]) rfl rfl tp1683 ((((A4.hx X4).hx Z6).hx X7).hx X8) rfl rfl (Nat.le_of_ble_eq_true rfl) rfl (f.hx Y8) (by omega) fun h9 P9=>WOL.as rfl<|WOL.nil ?_
   exact WL.ret (WL.endC1 rfl rfl (load_row tp1683 P9.at_ rfl (Nat.le_of_ble_eq_true rfl)) ⟨P9.hx _ Y8 (by omega),rfl⟩)
  ·have eV:lineV (fewE L) L=strV 0 0 0 0:=by unfold lineV;rw [bne_iff_ne.2 f0];rfl
   have eP:fitA8 (fewE L) L=(0,0,0,0,0):=by unfold fitA8;rw [bne_iff_ne.2 f0];rfl
   rw [eV,eP]
   generalize fewE L=E at *
   refine WOL.mv rfl<|WOL.ex rfl rfl<|WOL.ex rfl rfl<|WOL.al tp1732 fun h5 N5=>WOL.sto (vs:=[zi 0,zi 0,zi 0,zi 0]) rfl rfl tp1732 N5.at_ rfl rfl (Nat.le_of_ble_eq_true rfl) rfl ((f.on Y4).hx N5.hx) (Nat.le_refl _) fun h6 P6=>WOL.as rfl<|WOL.nil<|keep [(4,_),(7,_),(8,_)] ⟨rfl,rfl,rfl,trivial⟩ ?_
   have Z6:HX h4 h6:=P6.hx _ N5.hx (Nat.le_refl _)
   have Y6:=Y4.trans Z6
   refine WL.seq<|WL.sr<|WOL.mv rfl<|WOL.bt rfl rfl rfl (bne_iff_ne.2 f0)<|WOL.nil<|WL.yes rfl<|WL.sr<|WOL.bd rfl bd1683z<|WOL.mv rfl<|WOL.sto (vs:=[zi 0,zi 0,zi 0,zi 0,zi 0]) rfl rfl tp1683 ((A4.hx X4).hx Z6) rfl rfl (Nat.le_of_ble_eq_true rfl) rfl (f.hx Y6) (by omega) fun h7 P7=>WOL.as rfl<|WOL.nil ?_
   exact WL.ret (WL.endC1 rfl rfl (load_row tp1683 P7.at_ rfl (Nat.le_of_ble_eq_true rfl)) ⟨P7.hx _ Y6 (by omega),rfl⟩)
 ·rw [bne_iff_ne.2 e0] at eT
  replace eT:fitT s M A q=perE s M A q:=eT
  rw [eT]
  have eP:fitA8 (perE s M A q) (perM M A q.toNat)=(0,0,0,0,0):=by unfold fitA8;rw [bne_iff_ne.2 e0];rfl
  rw [eP]
  generalize perE s M A q=E at *
  refine WL.sr<|WOL.mv rfl<|WOL.bt rfl rfl rfl (bne_iff_ne.2 e0)<|WOL.nil<|WL.yes rfl<|WL.sr<|WOL.bd rfl bd1683z<|WOL.mv rfl<|WOL.sto (vs:=[zi 0,zi 0,zi 0,zi 0,zi 0]) rfl rfl tp1683 A4 rfl rfl (Nat.le_of_ble_eq_true rfl) rfl (f.hx Y3) (by omega) fun h7 P7=>WOL.as rfl<|WOL.nil ?_
  exact WL.ret (WL.endC1 rfl rfl (load_row tp1683 P7.at_ rfl (Nat.le_of_ble_eq_true rfl)) ⟨P7.hx _ Y3 (by omega),rfl⟩)
theorem pre_ok {a x:Int} (h:firstNZ [a,outB x 0 100000]=0):a=0∧0≤x∧x≤100000:=by
 have h1:=(firstNZ_zero h _ (List.mem_cons_self ..):a=0)
 have h2:=(firstNZ_zero h _ (List.mem_cons_of_mem _ (List.mem_cons_self ..)):outB x 0 100000=0)
 exact ⟨h1,outB_in h2⟩
set_option maxHeartbeats 4000000 in
set_option maxRecDepth 10000 in
theorem k1619 (H:Has tp) (o1:OwnL encS n0 h v1 120 M) (o2:OwnL encA n0 h v2 128 A) (lM:M.length≤100000) (lA:A.length≤100000) (f:Free0 h.next h):CallW Tryz.prog tp (.func (.func 13) #[] #[]) #[secV s v1 v2,zi q,zi x] h fun u h'=>HX h h'∧u=.tuple #[.agg #[zi (preA (preT s M A q x) (perM M A q.toNat) x).1,zi (preA (preT s M A q x) (perM M A q.toNat) x).2],zi (preT s M A q x)]:=by
 refine CallW.fnL (H.fn 13 f1619 rfl rfl) ?_
 obtain ⟨b1,k1,e1⟩:=(o1.sl eS).form
 obtain ⟨b2,k2,e2⟩:=(o2.sl eA).form
 subst e1 e2
 refine WL.sr<|WOL.box rfl fun h1 N1=>WOL.al tp24 fun h2 N2=>WOL.as rfl<|WOL.nil<|keep [(1,_),(2,_),(3,_),(6,_)] ⟨rfl,rfl,rfl,rfl,trivial⟩ ?_
 have n1:=N1.next
 have n2:=N2.next
 have A1:At h2 h.next (.cells [.string s,.slice b1 M.length k1,.slice b2 A.length k2] true true 39):=N1.at_.hx N2.hx
 have A6:=N2.at_
 have X2:=N1.hx.trans N2.hx
 refine WL.seq<|WL.sr<|WOL.ld rfl (load_row tp1660 A1 rfl (Nat.le_of_ble_eq_true rfl))<|WOL.mv rfl<|WOL.cl2 rfl rfl rfl ((k1665 (s:=s) (q:=q) H (o1.hx X2) (o2.hx X2) lM lA (f.on X2)).mono ?_)
 rintro u h3 ⟨rfl,X3⟩
 refine WOL.mv rfl<|WOL.cl1 rfl rfl ((k1667 H).mono ?_)
 rintro u h4 ⟨rfl,rfl⟩
 refine WOL.bsl rfl u166 tp30 (by decide) (by decide) (by decide) (filled_ints _ _) fun h6 N6=>?_
 refine WOL.cl1 rfl rfl ((k71 H (l:=[_,_]) N6.at_.get (by simp)).mono ?_)
 rintro u h7 ⟨rfl,rfl⟩
 have Z3:=X3.trans N6.hx
 have Y3:=X2.trans Z3
 have x3:=Z3.next
 replace A1:=A1.hx Z3;replace A6:=A6.hx Z3
 refine WOL.as rfl<|WOL.nil<|keep [(1,_),(2,_),(3,_),(6,_),(8,_)] ⟨rfl,rfl,rfl,rfl,rfl,trivial⟩ ?_
 have eT:preT s M A q x=cond (firstNZ [perE s M A q,outB x 0 100000] != 0) (firstNZ [perE s M A q,outB x 0 100000]) (fewE (perM M A q.toNat)):=rfl
 by_cases e0:firstNZ [perE s M A q,outB x 0 100000]=0
 ·rw [e0] at eT ⊢
  obtain ⟨e1,x0,x1⟩:=pre_ok e0
  obtain ⟨k,rfl,hk,ok⟩:=perE_ok e1
  replace eT:preT s M A (k:Nat) x=fewE (perM M A k):=eT
  rw [eT,Int.toNat_natCast]
  refine WL.sr<|WOL.mv rfl<|WOL.bf rfl rfl rfl rfl<|WOL.nil<|WL.no rfl<|WL.skip<|keep [(1,_),(2,_),(3,_),(6,_)] ⟨rfl,rfl,rfl,rfl,trivial⟩ ?_
  refine WL.sr<|WOL.ld rfl (load_row tp1660 A1 rfl (Nat.le_of_ble_eq_true rfl))<|WOL.mv rfl<|WOL.mv rfl<|WOL.cl3 rfl rfl rfl rfl ((k1668 (s:=s) (k:=k) (x:=x) H (o1.hx Y3) (o2.hx Y3) ok hk x0 x1 (f.on Y3)).mono ?_)
  rintro u h8 ⟨X8,rfl⟩
  have Y8:=Y3.trans X8
  generalize preA (fewE (perM M A k)) (perM M A k) x=PP
  obtain ⟨r1,r2⟩:=PP
  refine WOL.ex rfl rfl<|WOL.ex rfl rfl<|WOL.sto (vs:=[zi r1,zi r2]) rfl rfl tp24 (A6.hx X8) rfl rfl (Nat.le_of_ble_eq_true rfl) rfl (f.hx Y8) (by omega) fun h9 P9=>WOL.as rfl<|WOL.nil ?_
  exact WL.ret (WL.endC1 rfl rfl (load_row tp24 P9.at_ rfl (Nat.le_of_ble_eq_true rfl)) ⟨P9.hx _ Y8 (by omega),rfl⟩)
 ·rw [bne_iff_ne.2 e0] at eT
  replace eT:preT s M A q x=firstNZ [perE s M A q,outB x 0 100000]:=eT
  rw [eT]
  generalize firstNZ [perE s M A q,outB x 0 100000]=E at *
  have eP:preA E (perM M A q.toNat) x=(0,0):=by unfold preA;rw [bne_iff_ne.2 e0];rfl
  rw [eP]
  refine WL.sr<|WOL.mv rfl<|WOL.bt rfl rfl rfl (bne_iff_ne.2 e0)<|WOL.nil<|WL.yes rfl<|WL.sr<|WOL.bd rfl bd24z<|WOL.mv rfl<|WOL.sto (vs:=[zi 0,zi 0]) rfl rfl tp24 A6 rfl rfl (Nat.le_of_ble_eq_true rfl) rfl (f.hx Y3) (by omega) fun h9 P9=>WOL.as rfl<|WOL.nil ?_
  exact WL.ret (WL.endC1 rfl rfl (load_row tp24 P9.at_ rfl (Nat.le_of_ble_eq_true rfl)) ⟨P9.hx _ Y3 (by omega),rfl⟩)
set_option maxHeartbeats 4000000 in
set_option maxRecDepth 10000 in
theorem k1620 (H:Has tp) (o1:OwnL encS n0 h v1 120 M) (o2:OwnL encA n0 h v2 128 A) (lM:M.length≤100000) (lA:A.length≤100000) (f:Free0 h.next h):CallW Tryz.prog tp (.func (.func 14) #[] #[]) #[secV s v1 v2,zi q,zi x] h fun u h'=>HX h h'∧u=.tuple #[zi (reaA (preT s M A q x) (perM M A q.toNat) x).1,zi (reaA (preT s M A q x) (perM M A q.toNat) x).2]:=by
 refine CallW.fnL (H.fn 14 f1620 rfl rfl) ?_
 obtain ⟨b1,k1,e1⟩:=(o1.sl eS).form
 obtain ⟨b2,k2,e2⟩:=(o2.sl eA).form
 subst e1 e2
 refine WL.sr<|WOL.box rfl fun h1 N1=>WOL.as rfl<|WOL.as rfl<|WOL.nil<|keep [(1,_),(2,_),(3,_)] ⟨rfl,rfl,rfl,trivial⟩ ?_
 have n1:=N1.next
 have A1:At h1 h.next (.cells [.string s,.slice b1 M.length k1,.slice b2 A.length k2] true true 39):=N1.at_
 refine WL.seq<|WL.sr<|WOL.ld rfl (load_row tp1660 A1 rfl (Nat.le_of_ble_eq_true rfl))<|WOL.mv rfl<|WOL.cl2 rfl rfl rfl ((k1665 (s:=s) (q:=q) H (o1.hx N1.hx) (o2.hx N1.hx) lM lA (f.on N1.hx)).mono ?_)
 rintro u h3 ⟨rfl,X3⟩
 refine WOL.mv rfl<|WOL.cl1 rfl rfl ((k1669 H).mono ?_)
 rintro u h4 ⟨rfl,rfl⟩
 refine WOL.bsl rfl u166 tp30 (by decide) (by decide) (by decide) (filled_ints _ _) fun h6 N6=>?_
 refine WOL.cl1 rfl rfl ((k71 H (l:=[_,_]) N6.at_.get (by simp)).mono ?_)
 rintro u h7 ⟨rfl,rfl⟩
 have Z3:=X3.trans N6.hx
 have Y3:=N1.hx.trans Z3
 replace A1:=A1.hx Z3
 refine WOL.as rfl<|WOL.nil<|keep [(1,_),(2,_),(3,_),(8,_)] ⟨rfl,rfl,rfl,rfl,trivial⟩ ?_
 have eT:preT s M A q x=cond (firstNZ [perE s M A q,outB x 0 100000] != 0) (firstNZ [perE s M A q,outB x 0 100000]) (fewE (perM M A q.toNat)):=rfl
 by_cases e0:firstNZ [perE s M A q,outB x 0 100000]=0
 ·rw [e0] at eT ⊢
  obtain ⟨e1,x0,x1⟩:=pre_ok e0
  obtain ⟨k,rfl,hk,ok⟩:=perE_ok e1
  replace eT:preT s M A (k:Nat) x=fewE (perM M A k):=eT
  rw [eT,Int.toNat_natCast]
  refine WL.sr<|WOL.mv rfl<|WOL.bf rfl rfl rfl rfl<|WOL.nil<|WL.no rfl<|WL.skip<|keep [(1,_),(2,_),(3,_)] ⟨rfl,rfl,rfl,trivial⟩ ?_
  refine WL.sr<|WOL.ld rfl (load_row tp1660 A1 rfl (Nat.le_of_ble_eq_true rfl))<|WOL.mv rfl<|WOL.mv rfl<|WOL.cl3 rfl rfl rfl rfl ((k1670 (s:=s) (k:=k) (l:=x) H (o1.hx Y3) (o2.hx Y3) ok hk x0 x1 (f.on Y3)).mono ?_)
  rintro u h8 ⟨X8,rfl⟩
  have Y8:=Y3.trans X8
  generalize perM M A k=L at *
  refine WOL.mv rfl<|WOL.ex rfl rfl<|WOL.ex rfl rfl<|WOL.as rfl<|WOL.as rfl<|WOL.nil<|keep [(9,_),(10,_)] ⟨rfl,rfl,trivial⟩ ?_
  unfold reaA
  by_cases f0:fewE L=0
  ·rw [f0]
   refine WL.seq<|WL.sr<|WOL.mv rfl<|WOL.bf rfl rfl rfl rfl<|WOL.nil<|WL.no rfl<|WL.skip<|WL.sr<|WOL.mv rfl<|WOL.cl1 rfl rfl ((k1671 (x:=reaZ L x) H).mono ?_)
   rintro u h9 ⟨rfl,rfl⟩
   exact WOL.ex rfl rfl<|WOL.ex rfl rfl<|WOL.as rfl<|WOL.as rfl<|WOL.nil<|WL.ret (WL.end_ rfl ⟨Y8,rfl⟩)
  ·rw [bne_iff_ne.2 f0]
   exact WL.seq<|WL.sr<|WOL.mv rfl<|WOL.bt rfl rfl rfl (bne_iff_ne.2 f0)<|WOL.nil<|WL.yes rfl<|WL.sr<|WOL.mv rfl<|WOL.as rfl<|WOL.as rfl<|WOL.nil<|WL.ret (WL.end_ rfl ⟨Y8,rfl⟩)
 ·rw [bne_iff_ne.2 e0] at eT
  replace eT:preT s M A q x=firstNZ [perE s M A q,outB x 0 100000]:=eT
  rw [eT]
  generalize firstNZ [perE s M A q,outB x 0 100000]=E at *
  have eP:reaA E (perM M A q.toNat) x=(0,E):=by unfold reaA;rw [bne_iff_ne.2 e0];rfl
  rw [eP]
  exact WL.sr<|WOL.mv rfl<|WOL.bt rfl rfl rfl (bne_iff_ne.2 e0)<|WOL.nil<|WL.yes rfl<|WL.sr<|WOL.mv rfl<|WOL.as rfl<|WOL.as rfl<|WOL.nil<|WL.ret (WL.end_ rfl ⟨Y3,rfl⟩)
end
end Go.Tidy
namespace Go.Tidy
open Go Go.Proofs Tab
variable {tp:TProg}
theorem ty_sl_nv {k n:Nat} {P:Program} {h:TH} {t e:TypeId} {v:Value} (hu:P.underlying t=some (.slice e)) (y:Ty P h (n+1) t [v]):v=.slice none 0 0∨∃ q m c,v=.slice (some q) m c:=by
 unfold Ty at y;rw [hu] at y
 obtain ⟨a,m,cap,e1,h1,h2,⟨rfl,rfl⟩ | ⟨b,c,el,rfl,_⟩⟩:=y
 ·obtain rfl:m=0:=by omega
  cases e1
  exact .inl rfl
 ·cases e1
  exact .inr ⟨_,_,_,rfl⟩
set_option maxRecDepth 100000 in
theorem ty_secG {h:TH} {n:Nat} {ps:List Value} (y:Ty Tryz.prog h (n+4) 25 ps):∃ s v1 v2 M A,ps=[.string s,v1,v2]∧SecR h v1 v2 M A∧A.length≤maxLen∧Fits h v1 77∧(v1=.slice none 0 0∨∃ q m c,v1=.slice (some q) m c):=by
 obtain ⟨p,q,rfl,_,y1,p',q',rfl,_,y2,p3,q3,rfl,_,y3,rfl⟩:=tyg_struct Tryz.underlying25 y
 obtain ⟨s,rfl,_⟩:=ty_str y1
 obtain ⟨v1,M,rfl,r1,ft⟩:=tyg_slice eS u1651 (fun p y=>ty_mes y) y2
 obtain ⟨v2,A,rfl,r2,_⟩:=tyg_slice eA u1652 (fun p y=>ty_act y) y3
 exact ⟨s,v1,v2,M,A,rfl,⟨r1,r2⟩,ty_sl_len u1652 y3 r2,ft _,ty_sl_nv (k:=0) u1651 y2⟩
theorem tp1689:Tp Tryz.prog 49 5 [.int .i64 0,.int .i64 0,.int .i64 0,.int .i64 0,.int .i64 0] true:=tp_of (by kernel_rfl) (by kernel_rfl) rfl
theorem bd1689 {a b c d e:Int}:buildT Tryz.prog 49 [(0,zi a),(1,.agg #[zi b,zi c]),(2,.agg #[zi d,zi e])]=some (.agg #[zi a,zi b,zi c,zi d,zi e]):=by kernel_rfl
theorem up_lim {a b:Int} (a1:a.natAbs≤4000000000000000000) (b0:0 < b) (b1:b≤4000000000000000000):(upS a b).natAbs≤4000000000000000001:=by
 rw [← up_neg b0]
 have h1:-(4000000000000000001:Int)≤(0 - a) / b:=by
  refine (Int.le_ediv_iff_mul_le b0).2 ?_
  have:=Int.mul_le_mul_of_nonneg_left (show (1:Int)≤b by omega) (show (0:Int)≤4000000000000000001 by decide)
  rw [Int.neg_mul]
  omega
 have h2:(0 - a) / b≤4000000000000000000:=Int.ediv_le_of_le_mul b0 (by
  have:=Int.mul_le_mul_of_nonneg_left (show (1:Int)≤b by omega) (show (0:Int)≤4000000000000000000 by decide)
  omega)
 omega
section
variable {h:TH} {v v1 v2:Value} {s:ByteArray} {M:List (Int × Int)} {A:List (Int × ByteArray)} {k:Nat} {x l q e w:Int}
set_option maxHeartbeats 4000000 in
set_option maxRecDepth 10000 in
theorem k1672 (H:Has tp) (r:SecR h v1 v2 M A):CallW Tryz.prog tp (.func (.func 71) #[] #[]) #[secV s v1 v2,zi q] h fun u h'=>u=zi (cond (decide (q < 0) || decide (q > (A.length:Int))) 10 0)∧HX h h':=by
 refine CallW.fnL (H.fn 71 f1672 rfl rfl) ?_
 obtain ⟨b1,k1,rfl⟩:=r.m.form
 obtain ⟨b2,k2,rfl⟩:=r.a.form
 refine WL.sr<|WOL.box rfl fun h1 N1=>WOL.as rfl<|WOL.nil<|keep [(1,_),(2,_)] ⟨rfl,rfl,trivial⟩ ?_
 have n1:=N1.next
 have A1:At h1 h.next (.cells [.string s,.slice b1 M.length k1,.slice b2 A.length k2] true true 25):=N1.at_
 have sa:=r.a.hx N1.hx
 by_cases c:q < 0
 ·rw [decide_eq_true c]
  refine WL.sr<|WOL.mv rfl<|WOL.bt rfl rfl rfl (decide_eq_true c)<|WOL.mv rfl<|WOL.skp (b:=true) rfl rfl<|WOL.skp (b:=true) rfl rfl<|WOL.skp (b:=true) rfl rfl<|WOL.skp (b:=true) rfl rfl<|WOL.skp (b:=true) rfl rfl<|WOL.pkt rfl rfl<|WOL.cl2 rfl rfl rfl ((k32 H _ _ _).mono ?_)
  rintro u h3 ⟨rfl,rfl⟩
  exact WOL.as rfl<|WOL.nil<|WL.ret (WL.end_ rfl ⟨rfl,N1.hx⟩)
 ·rw [decide_eq_false c]
  refine WL.sr<|WOL.mv rfl<|WOL.bf rfl rfl rfl (decide_eq_false c)<|WOL.mv rfl<|WOL.now (b:=false) rfl rfl<|WOL.mv rfl<|WOL.now (b:=false) rfl rfl<|WOL.fa rfl (fa_of fo1654_2)<|WOL.now (b:=false) rfl rfl<|WOL.ld rfl (load_one tp1652 A1 rfl)<|WOL.now (b:=false) rfl rfl<|WOL.len rfl sa u1652<|WOL.now (b:=false) rfl rfl<|WOL.bi rfl rfl rfl<|WOL.pkf rfl rfl<|WOL.cl2 rfl rfl rfl ((k32 H _ _ _).mono ?_)
  rintro u h3 ⟨rfl,rfl⟩
  exact WOL.as rfl<|WOL.nil<|WL.ret (WL.end_ rfl ⟨rfl,N1.hx⟩)
set_option maxHeartbeats 4000000 in
set_option maxRecDepth 10000 in
theorem k1621 (H:Has tp) (r:SecR h v1 v2 M A) (lM:M.length≤100000) (lA:A.length≤100000):CallW Tryz.prog tp (.func (.func 15) #[] #[]) #[secV s v1 v2,zi q] h fun u h'=>u=zi (perE s M A q)∧HX h h':=by
 refine CallW.fnL (H.fn 15 f1621 rfl rfl) ?_
 obtain ⟨b1,k1,e1⟩:=r.m.form
 obtain ⟨b2,k2,e2⟩:=r.a.form
 subst e1 e2
 refine WL.sr<|WOL.box rfl fun h1 N1=>WOL.as rfl<|WOL.nil<|keep [(1,_),(2,_)] ⟨rfl,rfl,trivial⟩ ?_
 have n1:=N1.next
 have A1:At h1 h.next (.cells [.string s,.slice b1 M.length k1,.slice b2 A.length k2] true true 25):=N1.at_
 refine WL.seq<|WL.sr<|WOL.ld rfl (load_row tp1654 A1 rfl (Nat.le_of_ble_eq_true rfl))<|WOL.cl1 rfl rfl ((k1607 (s:=s) H (r.hx N1.hx) lM lA).mono ?_)
 rintro u h2 ⟨rfl,X2⟩
 have Y2:=N1.hx.trans X2
 replace A1:=A1.hx X2
 refine WOL.as rfl<|WOL.nil<|keep [(1,_),(2,_),(5,_)] ⟨rfl,rfl,rfl,trivial⟩ ?_
 unfold perE
 by_cases c:secE s M A=0
 ·rw [c,fz_cons]
  refine WL.sr<|WOL.mv rfl<|WOL.bf rfl rfl rfl rfl<|WOL.nil<|WL.no rfl<|WL.skip<|WL.sr<|WOL.ld rfl (load_row tp1654 A1 rfl (Nat.le_of_ble_eq_true rfl))<|WOL.mv rfl<|WOL.cl2 rfl rfl rfl ((k1672 (s:=s) (q:=q) H (r.hx Y2)).mono ?_)
  rintro u h3 ⟨rfl,X3⟩
  refine WOL.as rfl<|WOL.nil<|WL.ret (WL.end_ rfl ⟨?_,Y2.trans X3⟩)
  cases decide (q < 0) || decide (q > (A.length:Int)) <;> rfl
 ·rw [fz_cons,bne_iff_ne.2 c]
  generalize secE s M A=E at *
  exact WL.sr<|WOL.mv rfl<|WOL.bt rfl rfl rfl (bne_iff_ne.2 c)<|WOL.nil<|WL.yes rfl<|WL.sr<|WOL.mv rfl<|WOL.as rfl<|WOL.nil<|WL.ret (WL.end_ rfl ⟨rfl,Y2⟩)
set_option maxHeartbeats 4000000 in
set_option maxRecDepth 10000 in
theorem k1622 (H:Has tp) (r:SecR h v1 v2 M A) (ft:Fits h v1 77) (nv:v1=.slice none 0 0∨∃ q m c,v1=.slice (some q) m c) (ok:OkP M A) (hk:k≤A.length) (f:Free0 h.next h):CallW Tryz.prog tp (.func (.func 16) #[] #[]) #[secV s v1 v2,zi (k:Nat)] h fun u h'=>u=zi (fewE (perM M A k))∧HX h h':=by
 refine CallW.fnL (H.fn 16 f1622 rfl rfl) ?_
 obtain ⟨b1,k1,e1⟩:=r.m.form
 obtain ⟨b2,k2,e2⟩:=r.a.form
 subst e1 e2
 refine WL.sr<|WOL.box rfl fun h1 N1=>WOL.as rfl<|WOL.nil<|keep [(1,_),(2,_)] ⟨rfl,rfl,trivial⟩ ?_
 have n1:=N1.next
 have A1:At h1 h.next (.cells [.string s,.slice b1 M.length k1,.slice b2 A.length k2] true true 25):=N1.at_
 refine WL.sr<|WOL.ld rfl (load_row tp1654 A1 rfl (Nat.le_of_ble_eq_true rfl))<|WOL.mv rfl<|WOL.cl2 rfl rfl rfl ((k1633 (s:=s) (k:=k) H (r.hx N1.hx) (ft.hx N1.hx) nv ok hk (f.on N1.hx)).mono ?_)
 rintro u h2 ⟨X2,sl⟩
 refine WOL.len rfl sl u1651 ?_
 unfold fewE
 by_cases c:(perM M A k).length < 2
 ·rw [decide_eq_true c]
  refine WOL.bt rfl rfl rfl (decide_eq_true (by omega))<|WOL.cl2 rfl rfl rfl ((k32 H _ _ _).mono ?_)
  rintro u h3 ⟨rfl,rfl⟩
  exact WOL.as rfl<|WOL.nil<|WL.ret (WL.end_ rfl ⟨rfl,N1.hx.trans X2⟩)
 ·rw [decide_eq_false c]
  refine WOL.bf rfl rfl rfl (decide_eq_false (by omega))<|WOL.cl2 rfl rfl rfl ((k32 H _ _ _).mono ?_)
  rintro u h3 ⟨rfl,rfl⟩
  exact WOL.as rfl<|WOL.nil<|WL.ret (WL.end_ rfl ⟨rfl,N1.hx.trans X2⟩)
set_option maxHeartbeats 4000000 in
set_option maxRecDepth 10000 in
theorem k1673 (H:Has tp) (s:SlL encS 2 h v M) (ok:OkM M) (h0:0 < M.length) (f:Free0 h.next h):CallW Tryz.prog tp (.func (.func 73) #[] #[]) #[v] h fun u h'=>u=.agg #[zi (lvM M),zi (slM M),zi (deM M)]∧HX h h':=by
 have hn:=ok.n
 have hp0:M[0]?=some (M.getD 0 (0,0)):=by rw [List.getD_eq_getElem?_getD,List.getElem?_eq_getElem h0];rfl
 refine CallW.fnL (H.fn 73 f1673 rfl rfl) ?_
 refine WL.sr<|WOL.al tp1739 fun h1 N1=>WOL.nil<|keep [(0,_),(2,_)] ⟨rfl,rfl,trivial⟩ ?_
 have n1:=N1.next
 have s1:=s.hx N1.hx
 obtain ⟨_,_,_,_,_,_,g1,g2,g3,g4,g5⟩:=s1.at eS u1651 tp1666 hp0 .i64
 refine WL.sr<|WOL.mv rfl<|WOL.len rfl s1 u1651<|WOL.as rfl<|WOL.as rfl<|WOL.as rfl<|WOL.as rfl<|WOL.as rfl<|WOL.nil<|keep [(0,_),(2,_),(3,_),(4,_),(5,_),(6,_),(7,_)] ⟨rfl,rfl,rfl,rfl,rfl,rfl,rfl,trivial⟩ ?_
 refine WL.seq<|WL.sr<|WOL.as rfl<|WOL.nil ?_
 refine WL.forz (α:=Unit) M.length (fun j _ g=>g=h1) (fun j _=>[(0,v),(2,ptr h.next),(3,zi (M.length:Nat)),(4,zi (sms (dM M) M j).1),(5,zi (sms (dM M) M j).2.1),(6,zi (sms (dM M) M j).2.2.1),(7,zi (sms (dM M) M j).2.2.2),(8,zi (j:Nat))]) (fun j _=>[(0,v),(2,ptr h.next),(3,zi (M.length:Nat)),(4,zi (sms (dM M) M (j+1)).1),(5,zi (sms (dM M) M (j+1)).2.1),(6,zi (sms (dM M) M (j+1)).2.2.1),(7,zi (sms (dM M) M (j+1)).2.2.2),(8,zi (j:Nat))]) () rfl ⟨rfl,rfl,rfl,rfl,rfl,rfl,rfl,rfl,trivial⟩ ?_ ?_ (fun _ _ _=>⟨rfl,rfl,rfl,rfl,rfl,rfl,rfl,rfl,trivial⟩) ?_ ?_
 ·rintro j _ g hj rfl
  exact WOL.mv rfl<|WOL.mv rfl<|WOL.len rfl s1 u1651<|WOL.bi rfl rfl rfl<|WOL.nil fun a q=>⟨rfl,q.sub ⟨rfl,rfl,rfl,rfl,rfl,rfl,rfl,rfl,rfl,trivial⟩⟩
 ·rintro j _ g hj rfl
  exact WOL.mv rfl<|WOL.add (m:=((j:Nat):Int)) (n:=1) rfl rfl (by omega) (by omega)<|WOL.as rfl<|WOL.nil fun a q=>⟨rfl,q.sub ⟨rfl,rfl,rfl,rfl,rfl,rfl,rfl,rfl,trivial⟩⟩
 ·rintro j _ g hj rfl
  have hp:M[j]?=some (M.getD j (0,0)):=by rw [List.getD_eq_getElem?_getD,List.getElem?_eq_getElem hj];rfl
  have l:=sms_lim ok j (by omega)
  have t:=ok.t hj
  have b:=ok.b j hj
  have q1:=mul_in (p:=100000) (q:=100000) t.1 (by omega) t.1 (by omega)
  have q2:=mul_in (p:=100000) (q:=100000) t.1 (by omega) b.2.2.1 (by omega)
  have b0:=ok.b 0 h0
  have e:sms (dM M) M (j+1)=((sms (dM M) M j).1+((M.getD j (0,0)).1 - dM M),(sms (dM M) M j).2.1+(M.getD j (0,0)).2,(sms (dM M) M j).2.2.1+((M.getD j (0,0)).1 - dM M)*((M.getD j (0,0)).1 - dM M),(sms (dM M) M j).2.2.2+((M.getD j (0,0)).1 - dM M)*(M.getD j (0,0)).2):=rfl
  obtain ⟨_,_,_,_,_,_,k1,k2,k3,k4,k5⟩:=s1.at eS u1651 tp1666 hp .i64
  refine WL.sr<|WOL.mv rfl<|WOL.mv rfl<|WOL.ix rfl rfl k1<|WOL.fa rfl (fa_of fo1666_0)<|WOL.ld rfl (load_one tp3 k2 (by have:=k5 0 (by decide);rwa [Nat.add_zero] at this))<|WOL.mv rfl<|WOL.ix rfl rfl g1<|WOL.fa rfl (fa_of fo1666_0)<|WOL.ld rfl (load_one tp3 g2 (by have:=g5 0 (by decide);rwa [Nat.add_zero] at this))<|WOL.sub (m:=(M.getD j (0,0)).1) (n:=(M.getD 0 (0,0)).1) rfl rfl (by omega) (by omega)<|WOL.as rfl<|WOL.nil<|keep [(0,_),(2,_),(3,_),(4,_),(5,_),(6,_),(7,_),(8,_),(9,_)] ⟨rfl,rfl,rfl,rfl,rfl,rfl,rfl,rfl,rfl,trivial⟩ ?_
  change ∀ a,Kn [(0,_),(2,_),(3,_),(4,_),(5,_),(6,_),(7,_),(8,_),(9,zi ((M.getD j (0,0)).1 - dM M))] a→_
  have e1:=k5 1 (by decide)
  replace e1:_=some (zi (M.getD j (0,0)).2):=e1
  generalize M.getD j (0,0)=p at *
  refine WL.sr<|WOL.mv rfl<|WOL.mv rfl<|WOL.add rfl rfl (by omega) (by omega)<|WOL.mv rfl<|WOL.mv rfl<|WOL.mv rfl<|WOL.ix rfl rfl k1<|WOL.fa rfl (fa_of fo1666_1)<|WOL.ld rfl (load_one tp3 k2 e1)<|WOL.add rfl rfl (by omega) (by omega)<|WOL.as rfl<|WOL.as rfl<|WOL.nil<|keep [(0,_),(2,_),(3,_),(4,_),(5,_),(6,_),(7,_),(8,_),(9,_)] ⟨rfl,rfl,rfl,rfl,rfl,rfl,rfl,rfl,rfl,trivial⟩ ?_
  refine WL.reg<|WOL.mv rfl<|WOL.mv rfl<|WOL.mv rfl<|WOL.mul rfl rfl (by omega) (by omega)<|WOL.add rfl rfl (by omega) (by omega)<|WOL.mv rfl<|WOL.mv rfl<|WOL.mv rfl<|WOL.mv rfl<|WOL.ix rfl rfl k1<|WOL.fa rfl (fa_of fo1666_1)<|WOL.ld rfl (load_one tp3 k2 e1)<|WOL.mul rfl rfl (by omega) (by omega)<|WOL.add rfl rfl (by omega) (by omega)<|WOL.as rfl<|WOL.as rfl<|WOL.nil fun a q=>⟨(),rfl,?_⟩
  rw [e]
  exact q.sub ⟨rfl,rfl,rfl,rfl,rfl,rfl,rfl,rfl,trivial⟩
 ·rintro _ g rfl
  have l:=sms_lim ok M.length (Nat.le_refl _)
  unfold lvM slM deM
  generalize sms (dM M) M M.length=z at *
  obtain ⟨x,y,xx,xy⟩:=z
  simp only at l ⊢
  have m1:=mul_in (p:=3200000) (q:=320000000000) l.2.2.1 (by omega) l.2.2.2.2.1 (by omega)
  have m2:=mul_in (p:=3200000) (q:=320000000000) l.1 (by omega) l.2.2.2.2.2.2.1 (by omega)
  have m3:=mul_in (p:=32) (q:=320000000000) (Int.natCast_nonneg M.length) (by omega) l.2.2.2.2.2.2.1 (by omega)
  have m4:=mul_in (p:=3200000) (q:=3200000) l.1 (by omega) l.2.2.1 (by omega)
  have m5:=mul_in (p:=32) (q:=320000000000) (Int.natCast_nonneg M.length) (by omega) l.2.2.2.2.1 (by omega)
  have m6:=mul_in (p:=3200000) (q:=3200000) l.1 (by omega) l.1 (by omega)
  refine WL.sr<|WOL.mv rfl<|WOL.mv rfl<|WOL.mul rfl rfl (by omega) (by omega)<|WOL.mv rfl<|WOL.mv rfl<|WOL.mul rfl rfl (by omega) (by omega)<|WOL.sub rfl rfl (by omega) (by omega)<|WOL.mv rfl<|WOL.mv rfl<|WOL.mul rfl rfl (by omega) (by omega)<|WOL.mv rfl<|WOL.mv rfl<|WOL.mul rfl rfl (by omega) (by omega)<|WOL.sub rfl rfl (by omega) (by omega)<|WOL.mv rfl<|WOL.mv rfl<|WOL.mul rfl rfl (by omega) (by omega)<|WOL.mv rfl<|WOL.mv rfl<|WOL.mul rfl rfl (by omega) (by omega)<|WOL.sub rfl rfl (by omega) (by omega)<|WOL.bd rfl bd1739 ?_
  refine WOL.sto (vs:=[zi (y*xx - x*xy),zi ((M.length:Int)*xy - x*y),zi ((M.length:Int)*xx - x*x)]) rfl rfl tp1739 N1.at_ rfl rfl (Nat.le_of_ble_eq_true rfl) rfl (f.hx N1.hx) (by omega) fun h5 P5=>WOL.nil ?_
  exact WL.ret (WL.endC rfl (load_row tp1739 P5.at_ rfl (Nat.le_of_ble_eq_true rfl)) ⟨rfl,P5.hx _ N1.hx (by omega)⟩)
end
end Go.Tidy
namespace Go.Tidy
open Go Go.Proofs Tab
variable {tp:TProg}
section
variable {h:TH} {v v1 v2:Value} {s:ByteArray} {M:List (Int × Int)} {A:List (Int × ByteArray)} {k:Nat} {x l q e w:Int}
set_option maxHeartbeats 4000000 in
set_option maxRecDepth 10000 in
theorem k1625 (H:Has tp) (r:SecR h v1 v2 M A) (ft:Fits h v1 77) (nv:v1=.slice none 0 0∨∃ q m c,v1=.slice (some q) m c) (ok:OkP M A) (hk:k≤A.length) (h2:2≤(perM M A k).length) (f:Free0 h.next h):CallW Tryz.prog tp (.func (.func 20) #[] #[]) #[secV s v1 v2,zi (k:Nat)] h fun u h'=>HX h h'∧u=five (fitA8 0 (perM M A k)):=by
 have pm:=ok.per hk
 have os:=pm.s h2
 refine CallW.fnL (H.fn 20 f1625 rfl rfl) ?_
 obtain ⟨b1,k1,e1⟩:=r.m.form
 obtain ⟨b2,k2,e2⟩:=r.a.form
 subst e1 e2
 refine WL.sr<|WOL.box rfl fun h1 N1=>WOL.al tp1689 fun h2 N2=>WOL.nil<|keep [(1,_),(2,_),(4,_)] ⟨rfl,rfl,rfl,trivial⟩ ?_
 have n1:=N1.next
 have n2:=N2.next
 have A1:At h2 h.next (.cells [.string s,.slice b1 M.length k1,.slice b2 A.length k2] true true 25):=N1.at_.hx N2.hx
 have A4:=N2.at_
 have X2:=N1.hx.trans N2.hx
 refine WL.sr<|WOL.ld rfl (load_row tp1654 A1 rfl (Nat.le_of_ble_eq_true rfl))<|WOL.mv rfl<|WOL.cl2 rfl rfl rfl ((k1633 (s:=s) (k:=k) H (r.hx X2) (ft.hx X2) nv ok hk (f.on X2)).mono ?_)
 rintro u h3 ⟨X3,sl⟩
 have Y3:=X2.trans X3
 have x3:=X3.next
 generalize perM M A k=L at *
 refine WOL.as rfl<|WOL.nil<|keep [(4,_),(5,_)] ⟨rfl,rfl,trivial⟩ ?_
 refine WL.sr<|WOL.mv rfl<|WOL.cl1 rfl rfl ((k1673 H sl pm (by omega) (f.on Y3)).mono ?_)
 rintro w h4 ⟨rfl,X4⟩
 have Y4:=Y3.trans X4
 have x4:=X4.next
 refine WOL.al tp1739 fun h5 N5=>WOL.sto (vs:=[zi (lvM L),zi (slM L),zi (deM L)]) rfl rfl tp1739 N5.at_ rfl rfl (Nat.le_of_ble_eq_true rfl) rfl ((f.on Y4).hx N5.hx) (Nat.le_refl _) fun h6 P6=>WOL.nil<|keep [(4,_),(5,_),(6,_)] ⟨rfl,rfl,rfl,trivial⟩ ?_
 have n6:=P6.next
 have Z6:HX h4 h6:=P6.hx _ N5.hx (Nat.le_refl _)
 have A6:At h6 h4.next (.cells [zi (lvM L),zi (slM L),zi (deM L)] true true 136):=P6.at_
 have Y6:=Y4.trans Z6
 have sl6:=(sl.hx X4).hx Z6
 have n5:=N5.next
 have hp0:L[0]?=some (L.getD 0 (0,0)):=by rw [List.getD_eq_getElem?_getD,List.getElem?_eq_getElem (by omega)];rfl
 have bd0:=sl6
 obtain ⟨cb,_,_,_,_,_,g1,g2,g3,g4,g5⟩:=sl6.at eS u1651 tp1666 hp0 .i64
 have lb:=g2.lt
 have e0:=os.e0
 have e1:=os.e1
 have nn:=os.n1
 have rr:=os.r1
 unfold five fitA8
 obtain ⟨w,hw⟩:∃ w:Nat,deM L=(w:Int):=⟨(deM L).toNat,by omega⟩
 rw [hw] at A6 e0 e1 ⊢
 rw [Int.toNat_natCast]
 refine WL.sr<|WOL.mv rfl<|WOL.ix rfl rfl g1<|WOL.fa rfl (fa_of fo1666_0)<|WOL.ld rfl (load_one tp3 g2 (by have:=g5 0 (by decide);rwa [Nat.add_zero] at this))<|WOL.fa rfl (fa_of fo1739_0)<|WOL.ld rfl (load_one tp3 A6 rfl)<|WOL.fa rfl (fa_of fo1739_2)<|WOL.ld rfl (load_one tp3 A6 rfl)<|WOL.fa rfl (fa_of fo1739_1)<|WOL.ld rfl (load_one tp3 A6 rfl)<|WOL.fa rfl (fa_of fo1739_2)<|WOL.ld rfl (load_one tp3 A6 rfl) ?_
 refine WOL.lq2 [h4.next,h4.next,cb] rfl rfl rfl rfl fun L' hL=>((k98v (h:=h6.withLock L') (m:=lvM L) (n:=w) H (by omega) (by omega) (by omega) (by omega) ((f.on Y6).held hL (fun b hb=>by simp at hb;omega))).mono ?_)
 rintro u7 h7 ⟨rfl,X7⟩
 replace X7:=X7.relock
 generalize h7.withLock h6.lock=h7 at *
 have Y7:=Y6.trans X7
 have x7:=X7.next
 refine WOL.lq2 [cb] rfl rfl rfl rfl fun L' hL=>((k98v (h:=h7.withLock L') (m:=slM L) (n:=w) H (by omega) (by omega) (by omega) (by omega) ((f.on Y7).held hL (fun b hb=>by simp at hb;omega))).mono ?_)
 rintro u8 h8 ⟨rfl,X8⟩
 replace X8:=X8.relock
 generalize h8.withLock h7.lock=h8 at *
 have Y8:=Y7.trans X8
 have x8:=X8.next
 refine WOL.bd rfl bd1689<|WOL.sto (vs:=[zi (L.getD 0 (0,0)).1,zi (rtN (lvM L) w),zi (rtD (lvM L) w),zi (rtN (slM L) w),zi (rtD (slM L) w)]) rfl rfl tp1689 (((((A4.hx X3).hx X4).hx Z6).hx X7).hx X8) rfl rfl (Nat.le_of_ble_eq_true rfl) rfl (f.hx Y8) (by omega) fun h9 P9=>WOL.nil ?_
 exact WL.ret (WL.endC rfl (load_row tp1689 P9.at_ rfl (Nat.le_of_ble_eq_true rfl)) ⟨P9.hx _ Y8 (by omega),rfl⟩)
set_option maxHeartbeats 4000000 in
set_option maxRecDepth 10000 in
theorem k1626 (H:Has tp) (r:SecR h v1 v2 M A) (ft:Fits h v1 77) (nv:v1=.slice none 0 0∨∃ q m c,v1=.slice (some q) m c) (ok:OkP M A) (hk:k≤A.length) (h2:2≤(perM M A k).length) (x0:0≤x) (x1:x≤100000) (f:Free0 h.next h):CallW Tryz.prog tp (.func (.func 21) #[] #[]) #[secV s v1 v2,zi (k:Nat),zi x] h fun u h'=>HX h h'∧u=.agg #[zi (preA 0 (perM M A k) x).1,zi (preA 0 (perM M A k) x).2]:=by
 have pm:=ok.per hk
 have os:=pm.s h2
 refine CallW.fnL (H.fn 21 f1626 rfl rfl) ?_
 obtain ⟨b1,k1,e1⟩:=r.m.form
 obtain ⟨b2,k2,e2⟩:=r.a.form
 subst e1 e2
 refine WL.sr<|WOL.box rfl fun h1 N1=>WOL.al tp24 fun h2 N2=>WOL.nil<|keep [(1,_),(2,_),(3,_),(6,_)] ⟨rfl,rfl,rfl,rfl,trivial⟩ ?_
 have n1:=N1.next
 have n2:=N2.next
 have A1:At h2 h.next (.cells [.string s,.slice b1 M.length k1,.slice b2 A.length k2] true true 25):=N1.at_.hx N2.hx
 have A4:=N2.at_
 have X2:=N1.hx.trans N2.hx
 refine WL.sr<|WOL.ld rfl (load_row tp1654 A1 rfl (Nat.le_of_ble_eq_true rfl))<|WOL.mv rfl<|WOL.cl2 rfl rfl rfl ((k1633 (s:=s) (k:=k) H (r.hx X2) (ft.hx X2) nv ok hk (f.on X2)).mono ?_)
 rintro u h3 ⟨X3,sl⟩
 have Y3:=X2.trans X3
 have x3:=X3.next
 generalize perM M A k=L at *
 refine WOL.as rfl<|WOL.nil<|keep [(2,_),(6,_),(7,_)] ⟨rfl,rfl,rfl,trivial⟩ ?_
 refine WL.sr<|WOL.mv rfl<|WOL.cl1 rfl rfl ((k1673 H sl pm (by omega) (f.on Y3)).mono ?_)
 rintro w h4 ⟨rfl,X4⟩
 have Y4:=Y3.trans X4
 have x4:=X4.next
 refine WOL.al tp1739 fun h5 N5=>WOL.sto (vs:=[zi (lvM L),zi (slM L),zi (deM L)]) rfl rfl tp1739 N5.at_ rfl rfl (Nat.le_of_ble_eq_true rfl) rfl ((f.on Y4).hx N5.hx) (Nat.le_refl _) fun h6 P6=>WOL.nil<|keep [(2,_),(6,_),(7,_),(8,_)] ⟨rfl,rfl,rfl,rfl,trivial⟩ ?_
 have n6:=P6.next
 have Z6:HX h4 h6:=P6.hx _ N5.hx (Nat.le_refl _)
 have A6:At h6 h4.next (.cells [zi (lvM L),zi (slM L),zi (deM L)] true true 136):=P6.at_
 have Y6:=Y4.trans Z6
 have sl6:=(sl.hx X4).hx Z6
 have n5:=N5.next
 have hp0:L[0]?=some (L.getD 0 (0,0)):=by rw [List.getD_eq_getElem?_getD,List.getElem?_eq_getElem (by omega)];rfl
 obtain ⟨cb,_,_,_,_,_,g1,g2,g3,g4,g5⟩:=sl6.at eS u1651 tp1666 hp0 .i64
 have e0:=os.e0
 have e1:=os.e1
 have nn:=os.n1
 have rr:=os.r1
 have d0:=os.d0
 have d1:=os.d1
 have ma:=os.at_ x0 x1
 unfold dM at d0 d1 ma
 unfold preA atS dM
 generalize L.getD 0 (0,0)=p at *
 obtain ⟨w,hw⟩:∃ w:Nat,deM L=(w:Int):=⟨(deM L).toNat,by omega⟩
 rw [hw] at A6 e0 e1 ⊢
 rw [Int.toNat_natCast]
 refine WL.sr<|WOL.fa rfl (fa_of fo1739_0)<|WOL.ld rfl (load_one tp3 A6 rfl)<|WOL.fa rfl (fa_of fo1739_1)<|WOL.ld rfl (load_one tp3 A6 rfl)<|WOL.mv rfl<|WOL.mv rfl<|WOL.ix rfl rfl g1<|WOL.fa rfl (fa_of fo1666_0)<|WOL.ld rfl (load_one tp3 g2 (by have:=g5 0 (by decide);rwa [Nat.add_zero] at this))<|WOL.sub (m:=x) (n:=p.1) rfl rfl (by omega) (by omega)<|WOL.mul rfl rfl (by omega) (by omega)<|WOL.add rfl rfl (by omega) (by omega)<|WOL.fa rfl (fa_of fo1739_2)<|WOL.ld rfl (load_one tp3 A6 rfl) ?_
 refine WOL.cl2 rfl rfl rfl ((k98v (m:=lvM L+slM L*(x - p.1)) (n:=w) H (by omega) (by omega) (by omega) (by omega) (f.on Y6)).mono ?_)
 rintro u7 h7 ⟨rfl,X7⟩
 have Y7:=Y6.trans X7
 have x7:=X7.next
 generalize lvM L+slM L*(x - p.1)=z at *
 refine WOL.sto (vs:=[zi (rtN z w),zi (rtD z w)]) rfl rfl tp24 ((((A4.hx X3).hx X4).hx Z6).hx X7) rfl rfl (Nat.le_of_ble_eq_true rfl) rfl (f.hx Y7) (by omega) fun h9 P9=>WOL.nil ?_
 exact WL.ret (WL.endC rfl (load_row tp24 P9.at_ rfl (Nat.le_of_ble_eq_true rfl)) ⟨P9.hx _ Y7 (by omega),rfl⟩)
set_option maxHeartbeats 4000000 in
set_option maxRecDepth 10000 in
theorem k1627 (H:Has tp) (r:SecR h v1 v2 M A) (ft:Fits h v1 77) (nv:v1=.slice none 0 0∨∃ q m c,v1=.slice (some q) m c) (ok:OkP M A) (hk:k≤A.length) (h2:2≤(perM M A k).length) (l0:0≤l) (l1:l≤100000) (f:Free0 h.next h):CallW Tryz.prog tp (.func (.func 22) #[] #[]) #[secV s v1 v2,zi (k:Nat),zi l] h fun u h'=>HX h h'∧u=.tuple #[zi (reaA 0 (perM M A k) l).1,zi (reaA 0 (perM M A k) l).2]:=by
 have pm:=ok.per hk
 have os:=pm.s h2
 have lm:=lastM_in pm (by omega)
 refine CallW.fnL (H.fn 22 f1627 rfl rfl) ?_
 obtain ⟨b1,k1,e1⟩:=r.m.form
 obtain ⟨b2,k2,e2⟩:=r.a.form
 subst e1 e2
 refine WL.sr<|WOL.box rfl fun h1 N1=>WOL.as rfl<|WOL.as rfl<|WOL.nil<|keep [(1,_),(2,_),(3,_)] ⟨rfl,rfl,rfl,trivial⟩ ?_
 have n1:=N1.next
 have A1:At h1 h.next (.cells [.string s,.slice b1 M.length k1,.slice b2 A.length k2] true true 25):=N1.at_
 refine WL.sr<|WOL.ld rfl (load_row tp1654 A1 rfl (Nat.le_of_ble_eq_true rfl))<|WOL.mv rfl<|WOL.cl2 rfl rfl rfl ((k1633 (s:=s) (k:=k) H (r.hx N1.hx) (ft.hx N1.hx) nv ok hk (f.on N1.hx)).mono ?_)
 rintro u h3 ⟨X3,sl⟩
 have Y3:=N1.hx.trans X3
 have x3:=X3.next
 generalize perM M A k=L at *
 refine WOL.as rfl<|WOL.nil<|keep [(2,_),(8,_)] ⟨rfl,rfl,trivial⟩ ?_
 refine WL.sr<|WOL.mv rfl<|WOL.cl1 rfl rfl ((k1673 H sl pm (by omega) (f.on Y3)).mono ?_)
 rintro w h4 ⟨rfl,X4⟩
 have Y4:=Y3.trans X4
 have x4:=X4.next
 refine WOL.al tp1739 fun h5 N5=>WOL.sto (vs:=[zi (lvM L),zi (slM L),zi (deM L)]) rfl rfl tp1739 N5.at_ rfl rfl (Nat.le_of_ble_eq_true rfl) rfl ((f.on Y4).hx N5.hx) (Nat.le_refl _) fun h6 P6=>WOL.nil<|keep [(2,_),(8,_),(9,_)] ⟨rfl,rfl,rfl,trivial⟩ ?_
 have n6:=P6.next
 have Z6:HX h4 h6:=P6.hx _ N5.hx (Nat.le_refl _)
 have A9:At h6 h4.next (.cells [zi (lvM L),zi (slM L),zi (deM L)] true true 136):=P6.at_
 have Y6:=Y4.trans Z6
 have sl6:=(sl.hx X4).hx Z6
 have hp0:L[0]?=some (L.getD 0 (0,0)):=by rw [List.getD_eq_getElem?_getD,List.getElem?_eq_getElem (by omega)];rfl
 obtain ⟨cb,_,_,_,_,_,g1,g2,g3,g4,g5⟩:=sl6.at eS u1651 tp1666 hp0 .i64
 have e0:=os.e0
 have e1:=os.e1
 have nn:=os.n1
 have rr:=os.r1
 have d0:=os.d0
 have d1:=os.d1
 have ma:=os.at_ lm.1 lm.2.1
 have ml:=lim_le l0 l1 e0 e1
 have lN:=pm.n
 have eZ:reaZ L l=cond (decide (lvM L+slM L*(lastM L - (L.getD 0 (0,0)).1) ≥ l*deM L)) (lastM L) (cond (decide (slM L≤0)) 100001 (min (lastM L+upS (l*deM L - (lvM L+slM L*(lastM L - (L.getD 0 (0,0)).1))) (slM L)) 100001)):=rfl
 unfold dM at d0 d1 ma
 unfold reaA
 rw [eZ]
 have k4:=fun (hh:TH) (X:SlL encS 2 hh u L)=>k1674 (M:=L) H X (by omega) (by omega)
 have q3:=lm.2.2
 generalize L.getD (L.length - 1) (0,0)=last at *
 rw [← q3] at k4
 generalize lastM L=t at *
 generalize lvM L=n at *
 generalize slM L=rr' at *
 generalize deM L=de at *
 have p1:=g5 0 (by decide)
 rw [Nat.add_zero] at p1
 replace p1:_=some (zi (L.getD 0 (0,0)).1):=p1
 generalize L.getD 0 (0,0)=p at *
 refine WL.seq<|WL.sr<|WOL.fa rfl (fa_of fo1739_0)<|WOL.ld rfl (load_one tp3 A9 rfl)<|WOL.fa rfl (fa_of fo1739_1)<|WOL.ld rfl (load_one tp3 A9 rfl)<|WOL.mv rfl<|WOL.mv rfl<|WOL.ix rfl rfl g1<|WOL.fa rfl (fa_of fo1666_0)<|WOL.ld rfl (load_one tp3 g2 p1)<|WOL.mv rfl<|WOL.fa rfl (fa_of fo1739_2)<|WOL.ld rfl (load_one tp3 A9 rfl)<|WOL.mul rfl rfl (by omega) (by omega)<|WOL.lk1 rfl rfl fun L'=>((k4 _ (sl6.relock L')).mono ?_)
 rintro u7 h7 ⟨rfl,rfl⟩
 rw [TH.relock]
 refine WOL.sub rfl rfl (by omega) (by omega)<|WOL.mul rfl rfl (by omega) (by omega)<|WOL.add rfl rfl (by omega) (by omega) ?_
 by_cases c1:n+rr'*(t - p.1) ≥ l*de
 ·rw [decide_eq_true c1]
  refine WOL.bt rfl rfl rfl (decide_eq_true c1)<|WOL.nil<|WL.yes rfl<|WL.sr<|WOL.mv rfl<|WOL.cl1 rfl rfl ((k4 _ sl6).mono ?_)
  rintro u8 h8 ⟨rfl,rfl⟩
  have eA:(t == 100001)=false:=beq_eq_false_iff_ne.2 (by omega)
  simp only [cond_true,eA]
  exact WOL.as rfl<|WOL.as rfl<|WOL.nil<|WL.ret (WL.end_ rfl ⟨Y6,rfl⟩)
 rw [decide_eq_false c1]
 refine WOL.bf rfl rfl rfl (decide_eq_false c1)<|WOL.nil<|WL.no rfl<|WL.skip<|keep [(2,_),(8,_),(9,_)] ⟨rfl,rfl,rfl,trivial⟩ ?_
 by_cases c2:rr'≤0
 ·rw [decide_eq_true c2]
  exact WL.seq<|WL.sr<|WOL.fa rfl (fa_of fo1739_1)<|WOL.ld rfl (load_one tp3 A9 rfl)<|WOL.bt rfl rfl rfl (decide_eq_true c2)<|WOL.nil<|WL.yes rfl<|WL.sr<|WOL.as rfl<|WOL.as rfl<|WOL.nil<|WL.ret (WL.end_ rfl ⟨Y6,rfl⟩)
 rw [decide_eq_false c2]
 refine WL.seq<|WL.sr<|WOL.fa rfl (fa_of fo1739_1)<|WOL.ld rfl (load_one tp3 A9 rfl)<|WOL.bf rfl rfl rfl (decide_eq_false c2)<|WOL.nil<|WL.no rfl<|WL.skip<|keep [(2,_),(8,_),(9,_)] ⟨rfl,rfl,rfl,trivial⟩ ?_
 have ul:=up_lim (a:=l*de - n) (b:=rr') (by omega) (by omega) (by omega)
 have eU:t+upS (l*de - (n+rr'*(t - p.1))) rr'=p.1+upS (l*de - n) rr':=by
  have:=up_shift (a:=l*de - n) (r:=rr') (k:=t - p.1) (by omega)
  rw [show l*de - (n+rr'*(t - p.1))=l*de - n - rr'*(t - p.1) by omega,this]
  omega
 rw [eU]
 refine WL.sr<|WOL.mv rfl<|WOL.ix rfl rfl g1<|WOL.fa rfl (fa_of fo1666_0)<|WOL.ld rfl (load_one tp3 g2 p1)<|WOL.mv rfl<|WOL.fa rfl (fa_of fo1739_2)<|WOL.ld rfl (load_one tp3 A9 rfl)<|WOL.mul rfl rfl (by omega) (by omega)<|WOL.fa rfl (fa_of fo1739_0)<|WOL.ld rfl (load_one tp3 A9 rfl)<|WOL.sub rfl rfl (by omega) (by omega)<|WOL.fa rfl (fa_of fo1739_1)<|WOL.ld rfl (load_one tp3 A9 rfl)<|WOL.lk2 rfl rfl rfl fun L'=>((k1675 (h:=h6.withLock L') (a:=l*de - n) (b:=rr') H (by omega) (by omega) (by omega)).mono ?_)
 rintro u8 h8 ⟨rfl,rfl⟩
 rw [TH.relock]
 generalize upS (l*de - n) rr'=up at *
 refine WOL.add rfl rfl (by omega) (by omega)<|WOL.as rfl<|WOL.nil<|keep [(10,_)] ⟨rfl,trivial⟩ ?_
 by_cases c3:p.1+up > 100000
 ·have eM:min (p.1+up) 100001=100001:=by omega
  rw [eM]
  exact WL.seq<|WL.sr<|WOL.mv rfl<|WOL.bt rfl rfl rfl (decide_eq_true c3)<|WOL.nil<|WL.yes rfl<|WL.sr<|WOL.as rfl<|WOL.as rfl<|WOL.nil<|WL.ret (WL.end_ rfl ⟨Y6,rfl⟩)
 ·have eM:min (p.1+up) 100001=p.1+up:=by omega
  have eA:(p.1+up == 100001)=false:=beq_eq_false_iff_ne.2 (by omega)
  rw [eM]
  simp only [cond_false,eA]
  exact WL.seq<|WL.sr<|WOL.mv rfl<|WOL.bf rfl rfl rfl (decide_eq_false c3)<|WOL.nil<|WL.no rfl<|WL.skip<|WL.sr<|WOL.mv rfl<|WOL.as rfl<|WOL.as rfl<|WOL.nil<|WL.ret (WL.end_ rfl ⟨Y6,rfl⟩)
theorem k1628 (H:Has tp) {v E:Int} (he:E≠0→v=0):CallW Tryz.prog tp (.func (.func 23) #[] #[]) #[zi v,zi E,zi E,zi v] h fun u h'=>u=.bool true∧h'=h:=by
 refine CallW.fnL (H.fn 23 f1628 rfl rfl) ?_
 refine WL.sr<|WOL.as rfl<|WOL.nil ?_
 refine WL.sr<|WOL.mv rfl<|WOL.mv rfl<|WOL.bt rfl rfl rfl (beq_self_eq_true _)<|WOL.mv rfl<|WOL.now (b:=true) rfl rfl<|WOL.mv rfl<|WOL.now (b:=true) rfl rfl ?_
 by_cases e0:E≠0
 ·have:=he e0
  subst this
  refine WOL.bt rfl rfl rfl (bne_iff_ne.2 e0)<|WOL.now (b:=true) rfl rfl<|WOL.mv rfl<|WOL.now (b:=true) rfl rfl<|WOL.mv rfl<|WOL.now (b:=true) rfl rfl<|WOL.bt rfl rfl rfl rfl<|WOL.now (b:=true) rfl rfl<|WOL.pkt rfl rfl<|WOL.now (b:=true) rfl rfl<|WOL.mv rfl ?_
  refine WOL.skp (b:=true) rfl rfl<|WOL.skp (b:=true) rfl rfl<|WOL.skp (b:=true) rfl rfl<|WOL.gu rfl rfl<|WOL.gu rfl rfl<|WOL.gu rfl rfl<|WOL.skp (b:=true) rfl rfl<|WOL.now (b:=true) rfl rfl<|WOL.pkt rfl rfl<|WOL.pkt rfl rfl<|WOL.as rfl<|WOL.nil ?_
  exact WL.ret (WL.end_ rfl ⟨rfl,rfl⟩)
 ·have e0:E=0:=Classical.not_not.1 e0
  subst e0
  refine WOL.bf rfl rfl rfl rfl<|WOL.now (b:=true) rfl rfl<|WOL.mv rfl<|WOL.skp (b:=false) rfl rfl<|WOL.skp (b:=false) rfl rfl<|WOL.now (b:=true) rfl rfl<|WOL.pkf rfl rfl<|WOL.now (b:=true) rfl rfl<|WOL.mv rfl ?_
  refine WOL.now (b:=false) rfl rfl<|WOL.mv rfl<|WOL.now (b:=false) rfl rfl<|WOL.bt rfl rfl rfl rfl<|WOL.now (b:=false) rfl rfl<|WOL.mv rfl<|WOL.now (b:=true) rfl rfl<|WOL.mv rfl<|WOL.now (b:=true) rfl rfl<|WOL.mv rfl<|WOL.now (b:=true) rfl rfl<|WOL.bt rfl rfl rfl (beq_self_eq_true _) ?_
  refine WOL.now (b:=false) rfl rfl<|WOL.pkt rfl rfl<|WOL.now (b:=true) rfl rfl<|WOL.pkf rfl rfl<|WOL.pkt rfl rfl<|WOL.as rfl<|WOL.nil ?_
  exact WL.ret (WL.end_ rfl ⟨rfl,rfl⟩)
end
end Go.Tidy
namespace Go.Tidy
open Go Go.Proofs Tab
variable {tp:TProg}
theorem ix83Q_0 {c:Nat}:indexAddrT Tryz.prog 26 (.pointer (some ⟨c,0,none⟩)) (.int .i64 0)=some (.pointer (some ⟨c,0,none⟩)):=by kernel_rfl
theorem ix83Q_1 {c:Nat}:indexAddrT Tryz.prog 26 (.pointer (some ⟨c,0,none⟩)) (.int .i64 1)=some (.pointer (some ⟨c,1,none⟩)):=by kernel_rfl
theorem ix83Q_2 {c:Nat}:indexAddrT Tryz.prog 26 (.pointer (some ⟨c,0,none⟩)) (.int .i64 2)=some (.pointer (some ⟨c,2,none⟩)):=by kernel_rfl
theorem pt24_1 {a b c d e:Int}:pv Tryz.prog (Go.part 30 #[zi a,zi b,zi c,zi d,zi e] 1)=some (.agg #[zi b,zi c]):=by kernel_rfl
theorem pt24_3 {a b c d e:Int}:pv Tryz.prog (Go.part 30 #[zi a,zi b,zi c,zi d,zi e] 3)=some (.agg #[zi d,zi e]):=by kernel_rfl
theorem pt3_0 {a b c d e:Int}:pv Tryz.prog (Go.part 3 #[zi a,zi b,zi c,zi d,zi e] 0)=some (zi a):=by kernel_rfl
theorem so1689:Tryz.prog.stoodInHeld 49=false:=by kernel_rfl
theorem eg1689:Tryz.prog.eqGuardType Tryz.prog.depth 49=false:=by kernel_rfl
theorem pv_eq1689 {a b c d e:Int}:pv Tryz.prog (Op.equal 49 (.agg #[zi a,zi b,zi c,zi d,zi e]) (.agg #[zi a,zi b,zi c,zi d,zi e]))=some true:=by
 show pv Tryz.prog (Op.equalIn (9997+1+1+1) 49 _ _)=_
 obtain ⟨f1,f2,e1,e2,e3,e4,e5,e6,e7⟩:=rat24'.u
 have q0:=pv_eqJ (P:=Tryz.prog) (d:=9997+1) (a:=a) (b:=a) Tryz.underlying3
 have q1:=pv_eqr2d (n:=9997) (a:=b) (b:=c) (c:=b) (d:=c) e1 rat24'.s e2 e3 e4 e5 e6 e7
 have q2:=pv_eqr2d (n:=9997) (a:=d) (b:=e) (c:=d) (d:=e) e1 rat24'.s e2 e3 e4 e5 e6 e7
 rw [Op.equalIn,pv_bind,pv_underlying Tryz.underlying49]
 simp only [Option.bind_some]
 rw [pv_bind,pv_program]
 simp only [Option.bind_some,so1689]
 simp [pv_bind,pv_pure,q0,q1,q2,pt24_1,pt24_3,pt3_0]
section
variable {hp:TH} {K:Regs→TH→Prop} {rest:List TOper} {dd:Option Tmp} {ty:TypeId} {i:Nat} {x y:Operand} {u:TypeId} {L:Rg}
theorem WOL.eq1689 {a b c d e:Int} (hx:getL L x=some (.agg #[zi a,zi b,zi c,zi d,zi e])) (hy:getL L y=some (.agg #[zi a,zi b,zi c,zi d,zi e])) (w:∀ r,Kn (putL L dd (.bool true)) r→WO Tryz.prog tp rest r hp K):∀ r,Kn L r→WO Tryz.prog tp (⟨dd,.binOp .eql 49 x y u,ty,none,[],i⟩::rest) r hp K:=by
  intro r k
  have ex:=getO_eval (k.o hx)
  have ey:=getO_eval (k.o hy)
  refine WO.plainly rfl rfl rfl (by simp [fastOp,fastBin,ex,ey]) (by simp [valueOp,ex,ey,eqT_aggs]) (plainOp_of (by rfl) (fun q hq=>?_) ?_ rfl) (w _ (k.put dd _))
  · simp only [Op.operands] at hq
    simp at hq
    rcases hq with rfl | rfl
    · rw [ex];rfl
    · rw [ey];rfl
  · show pv Tryz.prog (execOp r.eval ⟨dd, .binOp .eql 49 x y u, ty, "", #[], none⟩) = _
    simp [execOp,pv_bind,pv_map,pv_pure,pv_program,ex,ey,eqGuard,binOp,eg1689,pv_eq1689]
end
theorem SecR.relock {h:TH} {v1 v2:Value} {M:List (Int × Int)} {A:List (Int × ByteArray)} (r:SecR h v1 v2 M A) (L:List Nat):SecR (h.withLock L) v1 v2 M A:=⟨r.m.relock L,r.a.relock L⟩
theorem fz_2n {a b c:Int} (h:firstNZ [a,b]≠0):firstNZ [a,b,c]=firstNZ [a,b]:=by
 rw [fz_cons] at h ⊢
 rw [fz_cons (x:=a) (l:=[b])]
 cases ha:(a != 0) with
 | true=>rfl
 | false =>
  rw [ha] at h
  simp only [cond_false] at h ⊢
  rw [fz_cons] at h ⊢
  rw [fz_cons (x:=b) (l:=[])]
  cases hb:(b != 0) with
  | true=>rfl
  | false=>rw [hb] at h;exact absurd rfl h
def fewR (s:ByteArray) (M:List (Int × Int)) (A:List (Int × ByteArray)) (q:Int):Int:=cond (perE s M A q == 0) (fewE (perM M A q.toNat)) 0
theorem fitT_eq {s:ByteArray} {M:List (Int × Int)} {A:List (Int × ByteArray)} {q:Int}:firstNZ [perE s M A q,fewR s M A q]=fitT s M A q:=by
 unfold fewR fitT
 by_cases c:perE s M A q=0
 ·rw [c]
  show firstNZ [0,fewE (perM M A q.toNat)]=fewE (perM M A q.toNat)
  generalize fewE (perM M A q.toNat)=e
  rw [fz_cons,fz_cons]
  by_cases d:e=0
  ·rw [d];rfl
  ·rw [bne_iff_ne.2 d];rfl
 ·rw [fz_cons,bne_iff_ne.2 c];rfl
theorem preT_eq {s:ByteArray} {M:List (Int × Int)} {A:List (Int × ByteArray)} {q x:Int}:firstNZ [perE s M A q,outB x 0 100000,fewR s M A q]=preT s M A q x:=by
 unfold preT
 by_cases c:firstNZ [perE s M A q,outB x 0 100000]=0
 ·have h:=pre_ok c
  have h2:=(firstNZ_zero c _ (List.mem_cons_of_mem _ (List.mem_cons_self ..)):outB x 0 100000=0)
  unfold fewR
  rw [c,h.1,h2]
  exact fz3_l rfl
 ·rw [fz_2n c,bne_iff_ne.2 c];rfl
theorem rea_z {e:Int} {L:List (Int × Int)} {l:Int} (h:(reaA e L l).2≠0):(reaA e L l).1=0:=by
 unfold reaA at h ⊢
 cases c:(e != 0) with
 | true=>rfl
 | false =>
  rw [c] at h
  cases c2:(reaZ L l == 100001) with
  | true=>rfl
  | false=>rw [c2] at h;exact absurd rfl h
theorem fit_ok {s:ByteArray} {M:List (Int × Int)} {A:List (Int × ByteArray)} {q:Int} (h:fitT s M A q=0):∃ k:Nat,q=(k:Nat)∧k≤A.length∧OkP M A∧2≤(perM M A k).length:=by
 unfold fitT at h
 by_cases c:perE s M A q=0
 ·obtain ⟨k,rfl,hk,ok⟩:=perE_ok c
  rw [c] at h
  exact ⟨k,rfl,hk,ok,few_z h⟩
 ·rw [bne_iff_ne.2 c] at h
  exact absurd h c
theorem preT_ok {s:ByteArray} {M:List (Int × Int)} {A:List (Int × ByteArray)} {q x:Int} (h:preT s M A q x=0):0≤x∧x≤100000∧∃ k:Nat,q=(k:Nat)∧k≤A.length∧OkP M A∧2≤(perM M A k).length:=by
 unfold preT at h
 by_cases c:firstNZ [perE s M A q,outB x 0 100000]=0
 ·obtain ⟨c1,x0,x1⟩:=pre_ok c
  obtain ⟨k,rfl,hk,ok⟩:=perE_ok c1
  rw [c] at h
  exact ⟨x0,x1,k,rfl,hk,ok,few_z h⟩
 ·rw [bne_iff_ne.2 c] at h
  exact absurd h c
theorem args2Q {P:Program} {h:TH} {m:Nat} {t0 t1:TypeId} {us:List Value} (ha:Args P h m [t0,t1] us):∃ x0 x1,us=[x0,x1]∧(∃ ps,Ty P h m t0 ps∧x0=valOf P t0 ps)∧∃ ps,Ty P h m t1 ps∧x1=valOf P t1 ps:=by
 match us,ha with
 | [x0,x1],⟨a0,a1,_⟩=>exact ⟨x0,x1,rfl,a0,a1⟩
section
variable {h:TH} {v1 v2:Value} {s:ByteArray} {M:List (Int × Int)} {A:List (Int × ByteArray)} {q x l:Int}
set_option maxHeartbeats 16000000 in
set_option maxRecDepth 10000 in
theorem k1581 (H:Has tp) (K:Awk tp) (r:SecR h v1 v2 M A) (lA0:A.length≤9223372036854775807) (ft:Fits h v1 77) (nv:v1=.slice none 0 0∨∃ q m c,v1=.slice (some q) m c) (f:Free0 h.next h) :
    CallW Tryz.prog tp (.func (.func 3) #[] #[]) #[secV s v1 v2,.agg #[zi q,zi x,zi l]] h fun v _=>v=.bool true:=by
  obtain ⟨b1,k1,e1⟩:=r.m.form
  obtain ⟨b2,k2,e2⟩:=r.a.form
  subst e1 e2
  refine CallW.fnL (H.fn 3 f1581 rfl rfl) ?_
  refine WL.sr<|WOL.box rfl fun h1 N1=>WOL.box rfl fun h2 N2=>WOL.as rfl<|WOL.nil<|keep [(2,_),(3,_)] ⟨rfl,rfl,trivial⟩ ?_
  have n1:=N1.next
  have n2:=N2.next
  have A2:At h2 h.next (.cells [.string s,.slice b1 M.length k1,.slice b2 A.length k2] true true 25):=N1.at_.hx N2.hx
  have A3:At h2 h1.next (.cells [zi q,zi x,zi l] true true 26):=N2.at_
  have X2:=N1.hx.trans N2.hx
  refine WL.seq<|WL.sr<|WOL.cl0 rfl ((k11t K _).mono ?_)
  rintro v h3 ⟨rfl,rfl⟩
  refine WOL.nt rfl<|WOL.mv rfl<|WOL.now (b:=false) rfl rfl<|WOL.ld rfl (load_row tp1654 A2 rfl (Nat.le_of_ble_eq_true rfl))<|WOL.now (b:=false) rfl rfl<|WOL.cl1 rfl rfl ((k1604 (s:=s) H (r.hx X2) lA0).mono ?_)
  rintro v h4 ⟨X4,b,rfl,hb⟩
  have x4:=X4.next
  have Y4:=X2.trans X4
  replace A2:=A2.hx X4;replace A3:=A3.hx X4
  cases b with
  | false =>
    refine WOL.now (b:=false) rfl rfl<|WOL.nt rfl<|WOL.pkf rfl rfl<|WOL.nil<|WL.yes rfl<|WL.sr<|WOL.cl0 rfl ((k11t K _).mono ?_)
    rintro v h5 ⟨rfl,rfl⟩
    exact WOL.as rfl<|WOL.nil<|WL.ret (WL.end_ rfl rfl)
  | true =>
    obtain ⟨lM',lA'⟩:=hb rfl
    have lM:M.length≤100000:=by omega
    have lA:A.length≤100000:=by omega
    clear hb lM' lA'
    refine WOL.now (b:=false) rfl rfl<|WOL.nt rfl<|WOL.pkf rfl rfl<|WOL.nil<|WL.no rfl<|WL.skip<|keep [(2,_),(3,_)] ⟨rfl,rfl,trivial⟩ ?_
    -- Fitted
    refine WL.sr<|WOL.ld rfl (load_row tp1654 A2 rfl (Nat.le_of_ble_eq_true rfl))<|WOL.ix rfl rfl ix83Q_0<|WOL.ld rfl (load_one tp3 A3 rfl)<|WOL.al tp1683 fun h5 N5=>?_
    have n5:=N5.next
    have Y5:=Y4.trans N5.hx
    have l3:=A3.lt
    refine WOL.lq1 [h4.next,h1.next] rfl rfl rfl fun L hL=>((k1606 (h:=h5.withLock L) (s:=s) H ((r.hx Y5).relock L) lM lA ((f.on Y5).held hL (fun b hb=>by simp at hb;omega))).mono ?_)
    rintro u h6 ⟨X6,w1,w2,rfl,o1,o2⟩
    replace X6:=X6.relock
    replace o1:=o1.relock h5.lock
    replace o2:=o2.relock h5.lock
    generalize h6.withLock h5.lock=h6 at *
    have x6:=X6.next
    have Y6:=Y5.trans X6
    refine WOL.lq2 [h4.next] rfl rfl rfl rfl fun L hL=>((k1618 (h:=h6.withLock L) (s:=s) (q:=q) H (o1.relock L) (o2.relock L) lM lA ((f.on Y6).held hL (fun b hb=>by simp at hb;omega))).mono ?_)
    rintro u h7 ⟨X7,rfl⟩
    replace X7:=X7.relock
    generalize h7.withLock h6.lock=h7 at *
    have x7:=X7.next
    have Y7:=Y6.trans X7
    have zF:fitT s M A q≠0→fitA8 (fitT s M A q) (perM M A q.toNat)=(0,0,0,0,0):=fun e=>by unfold fitA8;rw [bne_iff_ne.2 e];rfl
    have zF0:fitT s M A q=0→fitA8 (fitT s M A q) (perM M A q.toNat)=fitA8 0 (perM M A q.toNat):=fun e=>by rw [e]
    generalize hFF:fitA8 (fitT s M A q) (perM M A q.toNat)=FF at *
    clear hFF
    obtain ⟨g1,g2,g3,g4,g5⟩:=FF
    refine WOL.mv rfl<|WOL.ex rfl rfl<|WOL.ex rfl rfl<|WOL.sto (vs:=[zi g1,zi g2,zi g3,zi g4,zi g5]) rfl rfl tp1683 ((N5.at_.hx X6).hx X7) rfl rfl (Nat.le_of_ble_eq_true rfl) rfl (f.hx Y7) (by omega) fun h8 P8=>WOL.as rfl<|WOL.nil<|keep [(2,_),(3,_),(5,_),(6,_)] ⟨rfl,rfl,rfl,rfl,trivial⟩ ?_
    have p8:=P8.next
    have Z8:HX h4 h8:=P8.hx _ ((N5.hx.trans X6).trans X7) (Nat.le_refl _)
    have A5:At h8 h4.next (.cells [zi g1,zi g2,zi g3,zi g4,zi g5] true true 32):=P8.at_
    replace A2:=A2.hx Z8;replace A3:=A3.hx Z8
    replace Y4:=Y4.trans Z8
    clear P8 o1 o2 X6 X7 Y5 Y6 Y7 N5
    -- Predicted
    refine WL.sr<|WOL.ld rfl (load_row tp1654 A2 rfl (Nat.le_of_ble_eq_true rfl))<|WOL.ix rfl rfl ix83Q_0<|WOL.ld rfl (load_one tp3 A3 rfl)<|WOL.ix rfl rfl ix83Q_1<|WOL.ld rfl (load_one tp3 A3 rfl)<|WOL.al tp24 fun h5 N5=>?_
    have n5:=N5.next
    have Y5:=Y4.trans N5.hx
    replace l3:=A3.lt
    refine WOL.lq1 [h8.next,h1.next,h1.next] rfl rfl rfl fun L hL=>((k1606 (h:=h5.withLock L) (s:=s) H ((r.hx Y5).relock L) lM lA ((f.on Y5).held hL (fun b hb=>by simp at hb;omega))).mono ?_)
    rintro u h6 ⟨X6,w1,w2,rfl,o1,o2⟩
    replace X6:=X6.relock
    replace o1:=o1.relock h5.lock
    replace o2:=o2.relock h5.lock
    generalize h6.withLock h5.lock=h6 at *
    have x6:=X6.next
    have Y6:=Y5.trans X6
    refine WOL.lv3 (bs:=[h8.next]) rfl rfl rfl rfl rfl fun L hL=>((k1619 (h:=h6.withLock L) (s:=s) (q:=q) (x:=x) H (o1.relock L) (o2.relock L) lM lA ((f.on Y6).heldO hL (fun b hb=>by simp at hb;omega))).mono ?_)
    rintro u h7 ⟨X7,rfl⟩
    replace X7:=X7.relock
    generalize h7.withLock h6.lock=h7 at *
    have x7:=X7.next
    have Y7:=Y6.trans X7
    have zP:preT s M A q x≠0→preA (preT s M A q x) (perM M A q.toNat) x=(0,0):=fun e=>by unfold preA;rw [bne_iff_ne.2 e];rfl
    have zP0:preT s M A q x=0→preA (preT s M A q x) (perM M A q.toNat) x=preA 0 (perM M A q.toNat) x:=fun e=>by rw [e]
    generalize hFF:preA (preT s M A q x) (perM M A q.toNat) x=FF at *
    clear hFF
    obtain ⟨y1,y2⟩:=FF
    refine WOL.mv rfl<|WOL.ex rfl rfl<|WOL.ex rfl rfl<|WOL.sto (vs:=[zi y1,zi y2]) rfl rfl tp24 ((N5.at_.hx X6).hx X7) rfl rfl (Nat.le_of_ble_eq_true rfl) rfl (f.hx Y7) (by omega) fun h9 P9=>WOL.as rfl<|WOL.nil<|keep [(2,_),(3,_),(5,_),(6,_),(7,_),(8,_)] ⟨rfl,rfl,rfl,rfl,rfl,rfl,trivial⟩ ?_
    have p9:=P9.next
    have Z9:HX h8 h9:=P9.hx _ ((N5.hx.trans X6).trans X7) (Nat.le_refl _)
    have A7:At h9 h8.next (.cells [zi y1,zi y2] true true 30):=P9.at_
    replace A2:=A2.hx Z9;replace A3:=A3.hx Z9;replace A5:=A5.hx Z9
    replace Y4:=Y4.trans Z9
    clear P9 o1 o2 X6 X7 Y5 Y6 Y7 N5
    -- Reached
    refine WL.sr<|WOL.ld rfl (load_row tp1654 A2 rfl (Nat.le_of_ble_eq_true rfl))<|WOL.ix rfl rfl ix83Q_0<|WOL.ld rfl (load_one tp3 A3 rfl)<|WOL.ix rfl rfl ix83Q_2<|WOL.ld rfl (load_one tp3 A3 rfl) ?_
    replace l3:=A3.lt
    refine WOL.lq1 [h1.next,h1.next] rfl rfl rfl fun L hL=>((k1606 (h:=h9.withLock L) (s:=s) H ((r.hx Y4).relock L) lM lA ((f.on Y4).held hL (fun b hb=>by simp at hb;omega))).mono ?_)
    rintro u h6 ⟨X6,w1,w2,rfl,o1,o2⟩
    replace X6:=X6.relock
    replace o1:=o1.relock h9.lock
    replace o2:=o2.relock h9.lock
    generalize h6.withLock h9.lock=h6 at *
    have Y6:=Y4.trans X6
    refine WOL.cl3 rfl rfl rfl rfl ((k1620 (s:=s) (q:=q) (x:=l) H o1 o2 lM lA (f.on Y6)).mono ?_)
    rintro u h7 ⟨X7,rfl⟩
    have Z7:=X6.trans X7
    replace A2:=A2.hx Z7;replace A3:=A3.hx Z7;replace A5:=A5.hx Z7;replace A7:=A7.hx Z7
    replace Y4:=Y4.trans Z7
    have zR:preT s M A q l≠0→reaA (preT s M A q l) (perM M A q.toNat) l=(0,preT s M A q l):=fun e=>by unfold reaA;rw [bne_iff_ne.2 e];rfl
    have zR0:preT s M A q l=0→reaA (preT s M A q l) (perM M A q.toNat) l=reaA 0 (perM M A q.toNat) l:=fun e=>by rw [e]
    have zR1:(reaA (preT s M A q l) (perM M A q.toNat) l).2≠0→(reaA (preT s M A q l) (perM M A q.toNat) l).1=0:=rea_z
    generalize hFF:reaA (preT s M A q l) (perM M A q.toNat) l=FF at *
    clear hFF
    obtain ⟨z1,z2⟩:=FF
    simp only at zR1
    refine WOL.mv rfl<|WOL.ex rfl rfl<|WOL.ex rfl rfl<|WOL.as rfl<|WOL.as rfl<|WOL.nil<|keep [(2,_),(3,_),(5,_),(6,_),(7,_),(8,_),(9,_),(10,_)] ⟨rfl,rfl,rfl,rfl,rfl,rfl,rfl,rfl,trivial⟩ ?_
    clear o1 o2 X6 X7 Y6
    -- errors
    refine WL.sr<|WOL.ld rfl (load_row tp1654 A2 rfl (Nat.le_of_ble_eq_true rfl))<|WOL.ix rfl rfl ix83Q_0<|WOL.ld rfl (load_one tp3 A3 rfl)<|WOL.cl2 rfl rfl rfl ((k1621 (s:=s) (q:=q) H (r.hx Y4) lM lA).mono ?_)
    rintro u h10 ⟨rfl,X10⟩
    replace A2:=A2.hx X10;replace A3:=A3.hx X10;replace A5:=A5.hx X10;replace A7:=A7.hx X10
    replace Y4:=Y4.trans X10
    refine WOL.as rfl<|WOL.nil<|keep [(2,_),(3,_),(5,_),(6,_),(7,_),(8,_),(9,_),(10,_),(11,_)] ⟨rfl,rfl,rfl,rfl,rfl,rfl,rfl,rfl,rfl,trivial⟩ ?_
    refine WL.sr<|WOL.as rfl<|WOL.nil ?_
    have tl:∀ g,HX h10 g→∀ a,Kn [(2,ptr h.next),(3,ptr h1.next),(5,ptr h4.next),(6,zi (fitT s M A q)),(7,ptr h8.next),(8,zi (preT s M A q x)),(9,zi z1),(10,zi z2),(11,zi (perE s M A q)),(12,zi (fewR s M A q))] a →
        W Tryz.prog tp false (.seq (.reg r1581_10) (.seq (.reg r1581_11) (.seq (.reg r1581_12) (.seq (.reg r1581_13) (.seq (.reg r1581_14) (.seq (.reg r1581_15) (.seq (.seq (.reg r1581_16) (.cond (.tmp 84) (.reg r1581_17) .skip)) (.seq (.seq (.reg r1581_18) (.cond (.tmp 90) (.reg r1581_19) .skip)) (.seq (.seq (.reg r1581_20) (.cond (.tmp 98) (.reg r1581_21) .skip)) (.seq (.reg r1581_22) .ret)))))))))) a g (Fin Tryz.prog [.tmp 4] fun v _=>v=.bool true):=by
      intro h10 X10
      replace A2:=A2.hx X10;replace A3:=A3.hx X10;replace A5:=A5.hx X10;replace A7:=A7.hx X10
      replace Y4:=Y4.trans X10
      refine WL.sr<|WOL.mv rfl<|WOL.mv rfl<|WOL.bsl rfl u29 tp3 (by decide) (by decide) (by decide) (filled_ints _ _) fun h11 N11=>?_
      refine WOL.cl1 rfl rfl ((k13 H (l:=[_,_]) N11.at_.get (by simp)).mono ?_)
      rintro v h12 ⟨rfl,rfl⟩
      rw [fitT_eq]
      replace A2:=A2.hx N11.hx;replace A3:=A3.hx N11.hx;replace A5:=A5.hx N11.hx;replace A7:=A7.hx N11.hx
      replace Y4:=Y4.trans N11.hx
      refine WOL.as rfl<|WOL.nil<|keep [(2,_),(3,_),(5,_),(6,_),(7,_),(8,_),(9,_),(10,_),(11,_),(12,_),(13,_)] ⟨rfl,rfl,rfl,rfl,rfl,rfl,rfl,rfl,rfl,rfl,rfl,trivial⟩ ?_
      refine WL.sr<|WOL.mv rfl<|WOL.ix rfl rfl ix83Q_1<|WOL.ld rfl (load_one tp3 A3 rfl)<|WOL.cl1 rfl rfl ((k1623 H).mono ?_)
      rintro v h13 ⟨rfl,rfl⟩
      refine WOL.mv rfl<|WOL.bsl rfl u29 tp3 (by decide) (by decide) (by decide) (filled_ints3 _ _ _) fun h14 N14=>?_
      refine WOL.cl1 rfl rfl ((k13 H (l:=[_,_,_]) N14.at_.get (by simp)).mono ?_)
      rintro v h15 ⟨rfl,rfl⟩
      rw [preT_eq]
      replace A2:=A2.hx N14.hx;replace A3:=A3.hx N14.hx;replace A5:=A5.hx N14.hx;replace A7:=A7.hx N14.hx
      replace Y4:=Y4.trans N14.hx
      refine WOL.as rfl<|WOL.nil<|keep [(2,_),(3,_),(5,_),(6,_),(7,_),(8,_),(9,_),(10,_),(11,_),(12,_),(13,_),(14,_)] ⟨rfl,rfl,rfl,rfl,rfl,rfl,rfl,rfl,rfl,rfl,rfl,rfl,trivial⟩ ?_
      refine WL.sr<|WOL.mv rfl<|WOL.ix rfl rfl ix83Q_2<|WOL.ld rfl (load_one tp3 A3 rfl)<|WOL.cl1 rfl rfl ((k1624 H).mono ?_)
      rintro v h16 ⟨rfl,rfl⟩
      refine WOL.mv rfl<|WOL.bsl rfl u29 tp3 (by decide) (by decide) (by decide) (filled_ints3 _ _ _) fun h17 N17=>?_
      refine WOL.cl1 rfl rfl ((k13 H (l:=[_,_,_]) N17.at_.get (by simp)).mono ?_)
      rintro v h18 ⟨rfl,rfl⟩
      rw [preT_eq]
      replace A2:=A2.hx N17.hx;replace A3:=A3.hx N17.hx;replace A5:=A5.hx N17.hx;replace A7:=A7.hx N17.hx
      replace Y4:=Y4.trans N17.hx
      refine WOL.as rfl<|WOL.nil<|keep [(2,_),(3,_),(5,_),(6,_),(7,_),(8,_),(9,_),(10,_),(13,_),(14,_),(15,_)] ⟨rfl,rfl,rfl,rfl,rfl,rfl,rfl,rfl,rfl,rfl,rfl,trivial⟩ ?_
      have l2:=A2.lt
      have y4:=Y4.next
      refine WL.sr<|WOL.al tp1689 fun h19 N19=>WOL.nil ?_
      refine WL.sr<|WOL.al tp24 fun h20 N20=>WOL.nil ?_
      have n19:=N19.next
      have n20:=N20.next
      have Z20:=N19.hx.trans N20.hx
      have A16:=N19.at_.hx N20.hx
      have A17:=N20.at_
      refine WL.sr<|WOL.as rfl<|WOL.nil<|keep [(2,_),(3,_),(5,_),(6,_),(7,_),(8,_),(9,_),(10,_),(13,_),(14,_),(15,_),(16,_),(17,_),(18,_)] ⟨rfl,rfl,rfl,rfl,rfl,rfl,rfl,rfl,rfl,rfl,rfl,rfl,rfl,rfl,trivial⟩ ?_
      have t1:∀ g,HX h18 g→At g h18.next (.cells [zi g1,zi g2,zi g3,zi g4,zi g5] true true 49)→At g h19.next (.cells [zi y1,zi y2] true true 30)→∀ a,Kn [(5,ptr h4.next),(6,zi (fitT s M A q)),(7,ptr h8.next),(8,zi (preT s M A q x)),(9,zi z1),(10,zi z2),(13,zi (fitT s M A q)),(14,zi (preT s M A q x)),(15,zi z2),(16,ptr h18.next),(17,ptr h19.next),(18,zi z1)] a →
          W Tryz.prog tp false (.seq (.reg r1581_22) .ret) a g (Fin Tryz.prog [.tmp 4] fun v _=>v=.bool true):=by
        intro g Xg B16 B17
        refine WL.sr<|WOL.ld rfl (load_row tp1683 (A5.hx Xg) rfl (Nat.le_of_ble_eq_true rfl))<|WOL.ld rfl (load_row tp1689 B16 rfl (Nat.le_of_ble_eq_true rfl))<|WOL.eq1689 rfl rfl<|WOL.mv rfl<|WOL.now (b:=true) rfl rfl<|WOL.mv rfl<|WOL.now (b:=true) rfl rfl<|WOL.mv rfl<|WOL.now (b:=true) rfl rfl<|WOL.bt rfl rfl rfl (beq_self_eq_true _)<|WOL.pkt rfl rfl<|WOL.mv rfl<|WOL.now (b:=true) rfl rfl<|WOL.ld rfl (load_row tp24 (A7.hx Xg) rfl (Nat.le_of_ble_eq_true rfl))<|WOL.now (b:=true) rfl rfl<|WOL.ld rfl (load_row tp24 B17 rfl (Nat.le_of_ble_eq_true rfl))<|WOL.now (b:=true) rfl rfl<|WOL.eqr rat24' rfl rfl<|WOL.pkt rfl rfl<|WOL.mv rfl<|WOL.now (b:=true) rfl rfl<|WOL.mv rfl<|WOL.now (b:=true) rfl rfl<|WOL.mv rfl<|WOL.now (b:=true) rfl rfl<|WOL.bt rfl rfl rfl (beq_self_eq_true _)<|WOL.pkt rfl rfl<|WOL.mv rfl<|WOL.now (b:=true) rfl rfl<|WOL.mv rfl<|WOL.now (b:=true) rfl rfl<|WOL.mv rfl<|WOL.now (b:=true) rfl rfl<|WOL.mv rfl<|WOL.now (b:=true) rfl rfl<|WOL.mv rfl<|WOL.now (b:=true) rfl rfl<|WOL.cl4 rfl rfl rfl rfl rfl ((k1628 H zR1).mono ?_)
        rintro v g1 ⟨rfl,rfl⟩
        exact WOL.pkt rfl rfl<|WOL.as rfl<|WOL.nil<|WL.ret (WL.end_ rfl rfl)
      have t2:∀ g,HX h18 g→At g h18.next (.cells [zi g1,zi g2,zi g3,zi g4,zi g5] true true 49)→At g h19.next (.cells [zi y1,zi y2] true true 30)→∀ a,Kn [(2,ptr h.next),(3,ptr h1.next),(5,ptr h4.next),(6,zi (fitT s M A q)),(7,ptr h8.next),(8,zi (preT s M A q x)),(9,zi z1),(10,zi z2),(13,zi (fitT s M A q)),(14,zi (preT s M A q x)),(15,zi (preT s M A q l)),(16,ptr h18.next),(17,ptr h19.next),(18,zi 0)] a →
          W Tryz.prog tp false (.seq (.seq (.reg r1581_20) (.cond (.tmp 98) (.reg r1581_21) .skip)) (.seq (.reg r1581_22) .ret)) a g (Fin Tryz.prog [.tmp 4] fun v _=>v=.bool true):=by
        intro g Xg B16 B17
        by_cases c:preT s M A q l=0
        · obtain ⟨l0,l1,k,rfl,hk,ok,k2⟩:=preT_ok c
          have zq:=(zR0 c).symm
          rw [Int.toNat_natCast] at zq
          rw [c]
          refine WL.seq<|WL.sr<|WOL.mv rfl<|WOL.bt rfl rfl rfl rfl<|WOL.nil<|WL.yes rfl<|WL.reg<|WOL.ld rfl (load_row tp1654 (A2.hx Xg) rfl (Nat.le_of_ble_eq_true rfl))<|WOL.ix rfl rfl ix83Q_0<|WOL.ld rfl (load_one tp3 (A3.hx Xg) rfl)<|WOL.ix rfl rfl ix83Q_2<|WOL.ld rfl (load_one tp3 (A3.hx Xg) rfl)<|WOL.cl3 rfl rfl rfl rfl ((k1627 (s:=s) (l:=l) H (r.hx (Y4.trans Xg)) (ft.hx (Y4.trans Xg)) nv ok hk k2 l0 l1 (f.on (Y4.trans Xg))).mono ?_)
          rintro v g9 ⟨X9,rfl⟩
          rw [zq]
          refine WOL.mv rfl<|WOL.ex rfl rfl<|WOL.ex rfl rfl<|WOL.as rfl<|WOL.as rfl<|WOL.nil ?_
          exact kto (t1 g9 (Xg.trans X9) (B16.hx X9) (B17.hx X9)) ⟨rfl,rfl,rfl,rfl,rfl,rfl,rfl,rfl,rfl,rfl,rfl,rfl,trivial⟩
        · have zq:=zR c
          injection zq with zq1 zq2
          refine WL.seq<|WL.sr<|WOL.mv rfl<|WOL.bf rfl rfl rfl (beq_eq_false_iff_ne.2 c)<|WOL.nil<|WL.no rfl<|WL.skip ?_
          rw [← zq2,← zq1]
          exact kto (t1 g Xg B16 B17) ⟨rfl,rfl,rfl,rfl,rfl,rfl,rfl,rfl,rfl,rfl,rfl,rfl,trivial⟩
      have t3:∀ g,HX h18 g→At g h18.next (.cells [zi g1,zi g2,zi g3,zi g4,zi g5] true true 49)→At g h19.next (.cells [zi 0,zi 0] true true 30)→∀ a,Kn [(2,ptr h.next),(3,ptr h1.next),(5,ptr h4.next),(6,zi (fitT s M A q)),(7,ptr h8.next),(8,zi (preT s M A q x)),(9,zi z1),(10,zi z2),(13,zi (fitT s M A q)),(14,zi (preT s M A q x)),(15,zi (preT s M A q l)),(16,ptr h18.next),(17,ptr h19.next),(18,zi 0)] a →
          W Tryz.prog tp false (.seq (.seq (.reg r1581_18) (.cond (.tmp 90) (.reg r1581_19) .skip)) (.seq (.seq (.reg r1581_20) (.cond (.tmp 98) (.reg r1581_21) .skip)) (.seq (.reg r1581_22) .ret))) a g (Fin Tryz.prog [.tmp 4] fun v _=>v=.bool true):=by
        intro g Xg B16 B17
        by_cases c:preT s M A q x=0
        · obtain ⟨x0,x1,k,rfl,hk,ok,k2⟩:=preT_ok c
          have zq:=(zP0 c).symm
          rw [Int.toNat_natCast] at zq
          have t2c:=t2
          rw [c] at t2c ⊢
          refine WL.seq<|WL.sr<|WOL.mv rfl<|WOL.bt rfl rfl rfl rfl<|WOL.nil<|WL.yes rfl<|WL.reg<|WOL.ld rfl (load_row tp1654 (A2.hx Xg) rfl (Nat.le_of_ble_eq_true rfl))<|WOL.ix rfl rfl ix83Q_0<|WOL.ld rfl (load_one tp3 (A3.hx Xg) rfl)<|WOL.ix rfl rfl ix83Q_1<|WOL.ld rfl (load_one tp3 (A3.hx Xg) rfl)<|WOL.cl3 rfl rfl rfl rfl ((k1626 (s:=s) (x:=x) H (r.hx (Y4.trans Xg)) (ft.hx (Y4.trans Xg)) nv ok hk k2 x0 x1 (f.on (Y4.trans Xg))).mono ?_)
          rintro v g9 ⟨X9,rfl⟩
          rw [zq]
          refine WOL.sto (vs:=[zi y1,zi y2]) rfl rfl tp24 (B17.hx X9) rfl rfl (Nat.le_of_ble_eq_true rfl) rfl (f.hx ((Y4.trans Xg).trans X9)) (by omega) fun g10 P10=>WOL.nil ?_
          exact kto (t2c g10 (P10.hx _ (Xg.trans X9) (by omega)) (P10.oth _ _ (by omega) (B16.hx X9)) P10.at_) ⟨rfl,rfl,rfl,rfl,rfl,rfl,rfl,rfl,rfl,rfl,rfl,rfl,rfl,rfl,trivial⟩
        · have zq:=zP c
          injection zq with zq1 zq2
          subst zq1 zq2
          refine WL.seq<|WL.sr<|WOL.mv rfl<|WOL.bf rfl rfl rfl (beq_eq_false_iff_ne.2 c)<|WOL.nil<|WL.no rfl<|WL.skip ?_
          exact kto (t2 g Xg B16 B17) ⟨rfl,rfl,rfl,rfl,rfl,rfl,rfl,rfl,rfl,rfl,rfl,rfl,rfl,rfl,trivial⟩
      by_cases c:fitT s M A q=0
      · obtain ⟨k,rfl,hk,ok,k2⟩:=fit_ok c
        have zq:=(zF0 c).symm
        rw [Int.toNat_natCast] at zq
        have t3c:=t3
        rw [c] at t3c ⊢
        refine WL.seq<|WL.sr<|WOL.mv rfl<|WOL.bt rfl rfl rfl rfl<|WOL.nil<|WL.yes rfl<|WL.reg<|WOL.ld rfl (load_row tp1654 (A2.hx Z20) rfl (Nat.le_of_ble_eq_true rfl))<|WOL.ix rfl rfl ix83Q_0<|WOL.ld rfl (load_one tp3 (A3.hx Z20) rfl)<|WOL.cl2 rfl rfl rfl ((k1625 (s:=s) H (r.hx (Y4.trans Z20)) (ft.hx (Y4.trans Z20)) nv ok hk k2 (f.on (Y4.trans Z20))).mono ?_)
        rintro v g9 ⟨X9,rfl⟩
        rw [zq]
        refine WOL.sto (vs:=[zi g1,zi g2,zi g3,zi g4,zi g5]) rfl rfl tp1689 (A16.hx X9) rfl rfl (Nat.le_of_ble_eq_true rfl) rfl (f.hx ((Y4.trans Z20).trans X9)) (by omega) fun g10 P10=>WOL.nil ?_
        exact kto (t3c g10 (P10.hx _ (Z20.trans X9) (by omega)) P10.at_ (P10.oth _ _ (by omega) (A17.hx X9))) ⟨rfl,rfl,rfl,rfl,rfl,rfl,rfl,rfl,rfl,rfl,rfl,rfl,rfl,rfl,trivial⟩
      · have zq:=zF c
        injection zq with q1 q2
        injection q2 with q2 q3
        injection q3 with q3 q4
        injection q4 with q4 q5
        subst q1 q2 q3 q4 q5
        refine WL.seq<|WL.sr<|WOL.mv rfl<|WOL.bf rfl rfl rfl (beq_eq_false_iff_ne.2 c)<|WOL.nil<|WL.no rfl<|WL.skip ?_
        exact kto (t3 h20 Z20 A16 A17) ⟨rfl,rfl,rfl,rfl,rfl,rfl,rfl,rfl,rfl,rfl,rfl,rfl,rfl,rfl,trivial⟩
    by_cases c:perE s M A q=0
    · obtain ⟨k,rfl,hk,ok⟩:=perE_ok c
      have ew:fewR s M A (k:Nat)=fewE (perM M A k):=by unfold fewR;rw [c,Int.toNat_natCast];rfl
      refine WL.seq<|WL.sr<|WOL.mv rfl<|WOL.bt rfl rfl rfl (beq_iff_eq.2 c)<|WOL.nil<|WL.yes rfl<|WL.reg<|WOL.ld rfl (load_row tp1654 A2 rfl (Nat.le_of_ble_eq_true rfl))<|WOL.ix rfl rfl ix83Q_0<|WOL.ld rfl (load_one tp3 A3 rfl)<|WOL.cl2 rfl rfl rfl ((k1622 (s:=s) H (r.hx Y4) (ft.hx Y4) nv ok hk (f.on Y4)).mono ?_)
      rintro v g ⟨rfl,Xg⟩
      rw [← ew]
      refine WOL.as rfl<|WOL.nil ?_
      exact kto (tl g Xg) ⟨rfl,rfl,rfl,rfl,rfl,rfl,rfl,rfl,rfl,rfl,trivial⟩
    · have ew:fewR s M A q=0:=by unfold fewR;rw [beq_eq_false_iff_ne.2 c];rfl
      refine WL.seq<|WL.sr<|WOL.mv rfl<|WOL.bf rfl rfl rfl (beq_eq_false_iff_ne.2 c)<|WOL.nil<|WL.no rfl<|WL.skip ?_
      rw [ew] at tl
      exact kto (tl _ (HX.refl _)) ⟨rfl,rfl,rfl,rfl,rfl,rfl,rfl,rfl,rfl,rfl,trivial⟩
end
set_option maxRecDepth 100000 in
theorem law1581:Law tpE 3 5 [25,26]:=by
 intro h us f ha
 obtain ⟨x0,x1,rfl,⟨p0,y0,e0⟩,⟨p1,y1,e1⟩⟩:=args2Q ha
 rw [val_agg (.inl ⟨_,Tryz.underlying25⟩)] at e0
 obtain ⟨s,v1,v2,M,A,rfl,r,l,ft,nv⟩:=ty_secG (n:=1) y0
 have q1:=tyg_array Tryz.underlying26 y1
 rw [val_agg (.inr ⟨_,_,Tryz.underlying26⟩)] at e1
 obtain ⟨c0,d0,rfl,_,t0,c1,d1,rfl,_,t1,c2,d2,rfl,_,t2,rfl⟩:=q1
 obtain ⟨a,rfl,_⟩:=ty_int t0
 obtain ⟨b,rfl,_⟩:=ty_int t1
 obtain ⟨c,rfl,_⟩:=ty_int t2
 subst e0 e1
 exact k1581 (q:=a) (x:=b) (l:=c) hasE awkE r (Nat.le_trans l maxLen_le) ft nv f
end Go.Tidy
