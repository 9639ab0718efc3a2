/- A part of the proof. -/
import Derived.Test.YtejopkplhplpgaaGreatDoorPa7
set_option linter.all false
namespace Go.Tidy
open Go Go.Proofs Tab
variable {tp:TProg}
section
variable {P:Program} {h:TH} {K:Regs→TH→Prop} {rest:List TOper} {d:Option Tmp} {ty:TypeId} {i:Nat} {x lo hi:Operand} {L:Rg} {t:TypeId}
theorem WOL.slN2 (hx:getL L x=some (.slice none 0 0)) (hl:getL L lo=some (.int .i64 0)) (hh:getL L hi=some (.int .i64 0)) (hs:pv P (Instr.sliceAt t (.slice none 0 0) (some (.int .i64 0)) (some (.int .i64 0)) none)=some (.slice none 0 0)) (w:∀ a,Kn (putL L d (.slice none 0 0)) a→WO P tp rest a h K):∀ a,Kn L a→WO P tp (⟨d,.slice t x (some lo) (some hi) none,ty,none,[],i⟩::rest) a h K:=fun a k=>by
 have e1:=getO_eval (k.o hx)
 have e2:=getO_eval (k.o hh)
 have e3:=getO_eval (k.o hl)
 refine WO.plainly rfl rfl rfl rfl rfl (plainOp_of rfl (fun q hq=>?_) ?_ rfl) (w _ (k.put d _))
 ·simp only [Op.operands] at hq
  simp at hq
  rcases hq with rfl | rfl | rfl
  ·rw [e1];rfl
  ·rw [e3];rfl
  ·rw [e2];rfl
 ·simp [toOper,execOp,pv_map,e1,e2,e3,hs]
end
theorem nil2_1657:pv Tryz.prog (Instr.sliceAt 36 (.slice none 0 0) (some (.int .i64 0)) (some (.int .i64 0)) none)=some (.slice none 0 0):=by kernel_rfl
theorem nil2_1651:pv Tryz.prog (Instr.sliceAt 22 (.slice none 0 0) (some (.int .i64 0)) (some (.int .i64 0)) none)=some (.slice none 0 0):=by kernel_rfl
theorem perL_get {ds as_:List Int}:∀ {k j:Nat},j < k→(perL ds as_ k)[j]?=some (((frm8 ds as_ j:Nat):Int),((frm8 ds as_ (j+1):Nat):Int))
  | 0,j,h=>absurd h (by omega)
  | k+1,j,h=>by
    unfold perL
    by_cases c:j < k
    · rw [List.getElem?_append_left (by rw [perL_len];exact c)]
      exact perL_get c
    · obtain rfl:j=k:=by omega
      rw [List.getElem?_append_right (by rw [perL_len];exact Nat.le_refl _),perL_len,Nat.sub_self]
      rfl
def toP (ds as_:List Int) (k:Nat):Nat:=cond (decide (k < as_.length)) (frm8 ds as_ (k+1)) ds.length
theorem perS_get {ds as_:List Int} {k:Nat} (h:k≤as_.length):(perS ds as_)[k]?=some (((frm8 ds as_ k:Nat):Int),((toP ds as_ k:Nat):Int)):=by
 unfold perS toP
 by_cases c:k < as_.length
 ·rw [List.getElem?_append_left (by rw [perL_len];exact c),perL_get c,decide_eq_true c];rfl
 ·obtain rfl:k=as_.length:=by omega
  rw [List.getElem?_append_right (by rw [perL_len];exact Nat.le_refl _),perL_len,Nat.sub_self,decide_eq_false c]
  rfl
theorem bef_mono {ds:List Int} {d d':Int} (h:d≤d'):∀ j,bef ds d j≤bef ds d' j
  | 0=>Nat.le_refl _
  | j+1=>by
    have:=bef_mono (ds:=ds) h j
    unfold bef
    by_cases c:ds.getD j 0 < d
    · rw [decide_eq_true c,decide_eq_true (by omega)];simp only [cond_true];omega
    · rw [decide_eq_false c]
      cases decide (ds.getD j 0 < d') <;> simp only [cond_true,cond_false] <;> omega
structure OkP (M:List (Int × Int)) (A:List (Int × ByteArray)):Prop where
 m:OkM M
 a:A.length≤16
 o:∀ j,j+1 < A.length→(A.map Prod.fst).getD j 0 < (A.map Prod.fst).getD (j+1) 0
theorem ent_ok {most:Nat} {ds es:List Int} (h:entE most ds es=0):ds.length≤most∧∀ j,j < ds.length→es.getD j 0=0∧(0 < j→ds.getD (j - 1) 0 < ds.getD j 0):=by
 unfold entE at h
 by_cases c:ds.length > most
 ·rw [decide_eq_true c] at h;cases h
 ·rw [decide_eq_false c] at h
  refine ⟨by omega,fun j hj=>?_⟩
  have e:=firstNZ_zero (show firstNZ (errL ds es)=0 from h) _ (List.mem_of_getElem? (errL_get (es:=es) hj))
  unfold elP at e
  have e1:=(firstNZ_zero e _ (List.mem_cons_self ..):es.getD j 0=0)
  have e2:=(firstNZ_zero e _ (List.mem_cons_of_mem _ (List.mem_cons_self ..)):cond (decide (ds.getD j 0≤lastD (ds.take j))) (11:Int) 0=0)
  refine ⟨e1,fun j0=>?_⟩
  rw [last_take j0 hj] at e2
  by_cases c2:ds.getD j 0≤ds.getD (j - 1) 0
  ·rw [decide_eq_true c2] at e2;cases e2
  ·omega
theorem sec_ok {s:ByteArray} {M:List (Int × Int)} {A:List (Int × ByteArray)} (h:secE s M A=0):OkP M A:=by
 unfold secE at h
 have m:=ent_ok (firstNZ_zero h _ (by simp):entE 32 (M.map Prod.fst) (M.map mesE)=0)
 have a:=ent_ok (firstNZ_zero h _ (by simp):entE 16 (A.map Prod.fst) (A.map actE)=0)
 rw [List.length_map] at m a
 have gm:∀ j,j < M.length→(M.map Prod.fst).getD j 0=(M.getD j (0,0)).1:=fun j hj=>by
  have hp:M[j]?=some (M.getD j (0,0)):=by rw [List.getD_eq_getElem?_getD,List.getElem?_eq_getElem hj];rfl
  exact map_getD0 hp
 have st:∀ j,j+1 < M.length→(M.getD j (0,0)).1 < (M.getD (j+1) (0,0)).1:=fun j hj=>by
  have:=(m.2 (j+1) hj).2 (by omega)
  rw [gm (j+1) hj,show j+1 - 1=j by omega,gm j (by omega)] at this
  exact this
 refine ⟨⟨m.1,fun j hj=>?_,fun i j hij hj=>?_⟩,a.1,fun j hj=>?_⟩
 ·have hp:M[j]?=some (M.getD j (0,0)):=by rw [List.getD_eq_getElem?_getD,List.getElem?_eq_getElem hj];rfl
  have e:(M.map mesE).getD j 0=mesE (M.getD j (0,0)):=map_getD0 hp
  have z:=(m.2 j hj).1
  rw [e] at z
  have z1:=outB_in (firstNZ_zero z _ (by simp):outB (M.getD j (0,0)).1 0 100000=0)
  have z2:=outB_in (firstNZ_zero z _ (by simp):outB (M.getD j (0,0)).2 0 100000=0)
  exact ⟨z1.1,z1.2,z2.1,z2.2⟩
 ·obtain ⟨k,rfl⟩:∃ k,j=i+1+k:=⟨j - i - 1,by omega⟩
  clear hij
  induction k with
  | zero=>exact st i hj
  | succ k ih =>
   have:=ih (by omega)
   have:=st (i+1+k) (by omega)
   rw [show i+1+(k+1)=i+1+k+1 by omega]
   omega
 ·have:=(a.2 (j+1) hj).2 (by omega)
  rw [show j+1 - 1=j by omega] at this
  exact this
def fromP (M:List (Int × Int)) (A:List (Int × ByteArray)) (k:Nat):Nat:=frm8 (M.map Prod.fst) (A.map Prod.fst) k
def untP (M:List (Int × Int)) (A:List (Int × ByteArray)) (k:Nat):Nat:=toP (M.map Prod.fst) (A.map Prod.fst) k
def perM (M:List (Int × Int)) (A:List (Int × ByteArray)) (k:Nat):List (Int × Int):=(M.drop (fromP M A k)).take (untP M A k - fromP M A k)
theorem per_lim {M:List (Int × Int)} {A:List (Int × ByteArray)} (o:OkP M A) {k:Nat} (hk:k≤A.length):fromP M A k≤untP M A k∧untP M A k≤M.length:=by
  unfold fromP untP toP
  rw [List.length_map,List.length_map]
  by_cases c:k < A.length
  · rw [decide_eq_true c]
    refine ⟨?_,?_⟩
    · cases k with
      | zero=>exact Nat.zero_le _
      | succ k =>
        show bef _ _ _≤bef _ _ _
        exact bef_mono (by have:=o.o k c;omega) _
    · have:=frm8_le (ds:=M.map Prod.fst) (as_:=A.map Prod.fst) (k+1)
      rw [List.length_map] at this
      exact this
  · rw [decide_eq_false c]
    have:=frm8_le (ds:=M.map Prod.fst) (as_:=A.map Prod.fst) k
    rw [List.length_map] at this
    exact ⟨this,Nat.le_refl _⟩
theorem perM_len {M:List (Int × Int)} {A:List (Int × ByteArray)} (o:OkP M A) {k:Nat} (hk:k≤A.length):(perM M A k).length=untP M A k - fromP M A k:=by
 have:=per_lim o hk
 unfold perM
 rw [List.length_take,List.length_drop]
 omega
theorem perM_get {M:List (Int × Int)} {A:List (Int × ByteArray)} (o:OkP M A) {k:Nat} (hk:k≤A.length) {j:Nat} (hj:j < (perM M A k).length):(perM M A k).getD j (0,0)=M.getD (fromP M A k+j) (0,0):=by
 rw [perM_len o hk] at hj
 unfold perM
 rw [List.getD_eq_getElem?_getD,List.getElem?_take_of_lt hj,List.getElem?_drop,← List.getD_eq_getElem?_getD]
theorem OkP.per {M:List (Int × Int)} {A:List (Int × ByteArray)} (o:OkP M A) {k:Nat} (hk:k≤A.length):OkM (perM M A k):=by
 have l:=per_lim o hk
 have pl:=perM_len o hk
 have mn:=o.m.n
 refine ⟨by omega,fun j hj=>?_,fun i j hij hj=>?_⟩
 ·rw [perM_get o hk hj]
  exact o.m.b _ (by omega)
 ·rw [perM_get o hk (by omega),perM_get o hk hj]
  exact o.m.o _ _ (by omega) (by omega)
section
variable {h:TH} {v v1 v2:Value} {s:ByteArray} {M:List (Int × Int)} {A:List (Int × ByteArray)} {n0 k:Nat}
set_option maxHeartbeats 4000000 in
set_option maxRecDepth 10000 in
theorem k1679 (H:Has tp) (o1:OwnL encS n0 h v1 120 M) (o2:OwnL encA n0 h v2 128 A) (ok:OkP M A) (hk:k≤A.length) (f:Free0 h.next h):CallW Tryz.prog tp (.func (.func 84) #[] #[]) #[secV s v1 v2,zi (k:Nat)] h fun u h'=>HX h h'∧SlL encS 2 h' u (perM M A k):=by
 have lim:=per_lim ok hk
 have mn:=ok.m.n
 have an:=ok.a
 refine CallW.fnL (H.fn 84 f1679 rfl rfl) ?_
 obtain ⟨b1,k1,e1⟩:=(o1.sl eS).form
 obtain ⟨b2,k2,e2⟩:=(o2.sl eA).form
 subst e1 e2
 refine WL.sr<|WOL.box rfl fun h1 N1=>WOL.as rfl<|WOL.nil<|keep [(1,_),(2,_)] ⟨rfl,rfl,trivial⟩ ?_
 have n1:=N1.next
 have A1:At h1 h.next (.cells [.string s,.slice b1 M.length k1,.slice b2 A.length k2] true true 39):=N1.at_
 refine WL.sr<|WOL.ld rfl (load_row tp1660 A1 rfl (Nat.le_of_ble_eq_true rfl))<|WOL.cl1 rfl rfl ((k1655 (s:=s) H (SecH.of (o1.hx N1.hx) (o2.hx N1.hx)) (by omega) (by omega) (f.on N1.hx)).mono ?_)
 rintro u h2 ⟨X2,O⟩
 have hp:=perS_get (ds:=M.map Prod.fst) (as_:=A.map Prod.fst) (k:=k) (by rw [List.length_map];exact hk)
 obtain ⟨_,_,_,_,_,_,g1,g2,g3,g4,g5⟩:=(O.sl eS).at eS u44 tp48 hp .i64
 have Y2:=N1.hx.trans X2
 refine WOL.mv rfl<|WOL.ix rfl rfl g1<|WOL.ld rfl (load_row tp48 g2 g4 g3)<|WOL.al tp48 fun h3 N3=>WOL.sto (vs:=[zi (fromP M A k:Nat),zi (untP M A k:Nat)]) rfl rfl tp48 N3.at_ rfl rfl (Nat.le_of_ble_eq_true rfl) rfl ((f.on Y2).hx N3.hx) (Nat.le_refl _) fun h4 P4=>WOL.nil<|keep [(2,_),(5,_)] ⟨rfl,rfl,trivial⟩ ?_
 have Z4:HX h2 h4:=P4.hx _ N3.hx (Nat.le_refl _)
 have A5:At h4 h2.next (.cells [zi (fromP M A k:Nat),zi (untP M A k:Nat)] true true 87):=P4.at_
 have Y4:=Y2.trans Z4
 have A1':=(A1.hx X2).hx Z4
 have o1':=o1.hx Y4
 refine WL.sr<|WOL.fa rfl (fa_of fo1660_1)<|WOL.ld rfl (load_one tp1657 A1' rfl)<|WOL.fa rfl (fa_of fo48_0)<|WOL.ld rfl (load_one tp3 A5 rfl)<|WOL.fa rfl (fa_of fo48_1)<|WOL.ld rfl (load_one tp3 A5 rfl) ?_
 rcases o1' with ⟨e,em⟩ | ⟨hne,b,e,_,AT⟩
 ·injection e with q1 q2 q3
  subst q1 q3
  have e0:M.length=0:=q2
  rw [show fromP M A k=0 by omega,show untP M A k=0 by omega,e0]
  refine WOL.slN2 rfl rfl rfl nil2_1657<|WOL.as rfl<|WOL.nil<|WL.ret (WL.end_ rfl ⟨Y4,?_⟩)
  have:perM M A k=[]:=List.eq_nil_of_length_eq_zero (by rw [perM_len ok hk];omega)
  rw [this]
  exact SlL.nil
 ·injection e with q1 q2 q3
  subst q1 q3
  have sl:SlL encS 2 h4 (.slice (some ⟨b,0,none⟩) M.length M.length) M:=SlL.own eS AT rfl
  have hv:=sliceT_at (P:=Tryz.prog) (t:=36) (k:=.i64) (k':=.i64) (off:=0) (m:=M.length) (cap:=M.length) (lo:=fromP M A k) (hi:=untP M A k) u1657 tp1671 (Nat.le_refl _) lim.1 lim.2 AT (.inr rfl)
  refine WOL.sl rfl rfl rfl hv<|WOL.as rfl<|WOL.nil<|WL.ret (WL.end_ rfl ⟨Y4,?_⟩)
  exact SlL.part eS sl lim.1 lim.2
set_option maxHeartbeats 4000000 in
set_option maxRecDepth 10000 in
theorem k1633 (H:Has tp) (r:SecR h v1 v2 M A) (ft:Fits h v1 77) (nv:v1=.slice none 0 0∨∃ q m c,v1=.slice (some q) m c) (ok:OkP M A) (hk:k≤A.length) (f:Free0 h.next h):CallW Tryz.prog tp (.func (.func 30) #[] #[]) #[secV s v1 v2,zi (k:Nat)] h fun u h'=>HX h h'∧SlL encS 2 h' u (perM M A k):=by
 have lim:=per_lim ok hk
 have mn:=ok.m.n
 have an:=ok.a
 refine CallW.fnL (H.fn 30 f1633 rfl rfl) ?_
 obtain ⟨b1,k1,rfl⟩:=r.m.form
 obtain ⟨b2,k2,rfl⟩:=r.a.form
 refine WL.sr<|WOL.box rfl fun h1 N1=>WOL.as rfl<|WOL.nil<|keep [(1,_),(2,_)] ⟨rfl,rfl,trivial⟩ ?_
 have n1:=N1.next
 have A1:At h1 h.next (.cells [.string s,.slice b1 M.length k1,.slice b2 A.length k2] true true 25):=N1.at_
 refine WL.sr<|WOL.ld rfl (load_row tp1654 A1 rfl (Nat.le_of_ble_eq_true rfl))<|WOL.cl1 rfl rfl ((k1608 (s:=s) H (r.hx N1.hx) (by omega) (by omega) (f.on N1.hx)).mono ?_)
 rintro u h2 ⟨X2,O⟩
 have hp:=perS_get (ds:=M.map Prod.fst) (as_:=A.map Prod.fst) (k:=k) (by rw [List.length_map];exact hk)
 obtain ⟨_,_,_,_,_,_,g1,g2,g3,g4,g5⟩:=(O.sl eS).at eS u44 tp48 hp .i64
 have Y2:=N1.hx.trans X2
 refine WOL.mv rfl<|WOL.ix rfl rfl g1<|WOL.ld rfl (load_row tp48 g2 g4 g3)<|WOL.al tp48 fun h3 N3=>WOL.sto (vs:=[zi (fromP M A k:Nat),zi (untP M A k:Nat)]) rfl rfl tp48 N3.at_ rfl rfl (Nat.le_of_ble_eq_true rfl) rfl ((f.on Y2).hx N3.hx) (Nat.le_refl _) fun h4 P4=>WOL.nil<|keep [(2,_),(5,_)] ⟨rfl,rfl,trivial⟩ ?_
 have Z4:HX h2 h4:=P4.hx _ N3.hx (Nat.le_refl _)
 have A5:At h4 h2.next (.cells [zi (fromP M A k:Nat),zi (untP M A k:Nat)] true true 87):=P4.at_
 have Y4:=Y2.trans Z4
 have A1':=(A1.hx X2).hx Z4
 refine WL.sr<|WOL.bs0 u1651 tp1666 (by decide) (by decide) fun h5 N5=>WOL.fa rfl (fa_of fo1654_1)<|WOL.ld rfl (load_one tp1651 (A1'.hx N5.hx) rfl)<|WOL.fa rfl (fa_of fo48_0)<|WOL.ld rfl (load_one tp3 (A5.hx N5.hx) rfl)<|WOL.fa rfl (fa_of fo48_1)<|WOL.ld rfl (load_one tp3 (A5.hx N5.hx) rfl) ?_
 have Y5:=Y4.trans N5.hx
 have sm:=r.m.hx Y5
 have ft5:=ft.hx Y5
 have fin:∀ {L:Rg} w,SlL encS 2 h5 w (perM M A k)→True:=fun _ _=>trivial
 rcases nv with e | ⟨q,m,c,e⟩
 ·injection e with e1 e2 e3
  subst e1 e3
  have e0:M.length=0:=e2
  rw [show fromP M A k=0 by omega,show untP M A k=0 by omega,e0]
  have en:perM M A k=[]:=List.eq_nil_of_length_eq_zero (by rw [perM_len ok hk];omega)
  rw [en]
  obtain ⟨v',h',ap,X6,O6⟩:=append_ownF (sT:=22) (n0:=h4.next) eS u1651 tp1666 N5.at_ (SlL.nil (enc:=encS) (n:=2) (h:=h5)) (by decide) (Nat.le_refl _)
  exact WOL.slN2 rfl rfl rfl nil2_1651<|WOL.ap rfl rfl ap<|WOL.as rfl<|WOL.nil<|WL.ret (WL.end_ rfl ⟨Y5.trans X6,O6.sl eS⟩)
 ·injection e with e1 e2 e3
  subst e1 e3
  obtain ⟨b,off,z⟩:=q
  have zn:z=none:=by
   rcases sm with ⟨bo',cap',e4,_,_,h3⟩
   cases e4
   rcases h3 with ⟨h3,_⟩ | ⟨b',off',_,_,_,_,e5,_⟩
   ·cases h3
   ·cases e5;rfl
  subst zn
  have cc:=sm
  obtain ⟨cc',fix',wr',el',AT,hf⟩:=ft5 b off M.length k1 rfl
  have hcap:M.length≤k1:=by
   rcases cc with ⟨bo',cap',e4,q1,_,h3⟩
   cases e4;exact q1
  have hv:=sliceT_at (P:=Tryz.prog) (t:=22) (k:=.i64) (k':=.i64) (off:=off) (m:=M.length) (cap:=k1) (lo:=fromP M A k) (hi:=untP M A k) u1651 tp1666 hcap lim.1 lim.2 AT hf
  have sp:=SlL.part eS sm lim.1 lim.2
  have pl:=perM_len ok hk
  obtain ⟨v',h',ap,X6,O6⟩:=append_ownF (sT:=22) (n0:=h4.next) eS u1651 tp1666 N5.at_ (show SlL encS 2 h5 _ (perM M A k) from sp) (by omega) (Nat.le_refl _)
  exact WOL.sl rfl rfl rfl hv<|WOL.ap rfl rfl ap<|WOL.as rfl<|WOL.nil<|WL.ret (WL.end_ rfl ⟨Y5.trans X6,O6.sl eS⟩)
end
end Go.Tidy
namespace Go.Tidy
open Go Go.Proofs Tab
variable {tp:TProg}
section
variable {P:Program} {h:TH} {K:Regs→TH→Prop} {rest:List TOper} {d:Option Tmp} {ty:TypeId} {i:Nat} {x y z:Operand} {t u s:TypeId} {L:Rg}
end
def fewE (L:List (Int × Int)):Int:=cond (decide (L.length < 2)) 16 0
def lineV (e:Int) (L:List (Int × Int)):Value:=cond (e != 0) (strV 0 0 0 0) (strV (dM L) (lvM L) (slM L) (deM L))
theorem few_z {L:List (Int × Int)} (h:fewE L=0):2≤L.length:=by
 unfold fewE at h
 by_cases c:L.length < 2
 ·rw [decide_eq_true c] at h;cases h
 ·omega
def preA (e:Int) (L:List (Int × Int)) (x:Int):Int × Int:=cond (e != 0) (0,0) (rtN (atS (dM L) (lvM L) (slM L) x) (deM L).toNat,rtD (atS (dM L) (lvM L) (slM L) x) (deM L).toNat)
section
variable {h:TH} {v v1 v2:Value} {s:ByteArray} {M:List (Int × Int)} {A:List (Int × ByteArray)} {n0 k:Nat} {x l d n r e:Int}
set_option maxHeartbeats 4000000 in
set_option maxRecDepth 10000 in
theorem k1666 (H:Has tp) (o1:OwnL encS n0 h v1 120 M) (o2:OwnL encA n0 h v2 128 A) (ok:OkP M A) (hk:k≤A.length) (f:Free0 h.next h):CallW Tryz.prog tp (.func (.func 63) #[] #[]) #[secV s v1 v2,zi (k:Nat)] h fun u h'=>HX h h'∧u=.tuple #[lineV (fewE (perM M A k)) (perM M A k),zi (fewE (perM M A k))]:=by
 have pm:=ok.per hk
 have pn:=pm.n
 refine CallW.fnL (H.fn 63 f1666 rfl rfl) ?_
 obtain ⟨b1,k1,e1⟩:=(o1.sl eS).form
 obtain ⟨b2,k2,e2⟩:=(o2.sl eA).form
 subst e1 e2
 refine WL.sr<|WOL.box rfl fun h1 N1=>WOL.al tp1732 fun h2 N2=>WOL.as rfl<|WOL.nil<|keep [(1,_),(2,_),(4,_)] ⟨rfl,rfl,rfl,trivial⟩ ?_
 have n1:=N1.next
 have n2:=N2.next
 have A1:At h2 h.next (.cells [.string s,.slice b1 M.length k1,.slice b2 A.length k2] true true 39):=N1.at_.hx N2.hx
 have A4:=N2.at_
 have X2:=N1.hx.trans N2.hx
 refine WL.sr<|WOL.ld rfl (load_row tp1660 A1 rfl (Nat.le_of_ble_eq_true rfl))<|WOL.mv rfl<|WOL.cl2 rfl rfl rfl ((k1679 (s:=s) H (o1.hx X2) (o2.hx X2) ok hk (f.on X2)).mono ?_)
 rintro u h3 ⟨X3,sl⟩
 have Y3:=X2.trans X3
 refine WOL.as rfl<|WOL.nil<|keep [(4,_),(6,_)] ⟨rfl,rfl,trivial⟩ ?_
 generalize perM M A k=L at *
 unfold fewE lineV
 by_cases c:L.length < 2
 ·rw [decide_eq_true c]
  refine WL.seq<|WL.sr<|WOL.mv rfl<|WOL.len rfl sl u1657<|WOL.bt rfl rfl rfl (decide_eq_true (by omega))<|WOL.nil<|WL.yes rfl<|WL.sr<|WOL.bd rfl bd1732z<|WOL.sto (vs:=[zi 0,zi 0,zi 0,zi 0]) rfl rfl tp1732 (A4.hx X3) rfl rfl (Nat.le_of_ble_eq_true rfl) rfl (f.hx Y3) (by omega) fun h4 P4=>WOL.as rfl<|WOL.nil ?_
  exact WL.ret (WL.endC1 rfl rfl (load_row tp1732 P4.at_ rfl (Nat.le_of_ble_eq_true rfl)) ⟨P4.hx _ Y3 (by omega),rfl⟩)
 ·rw [decide_eq_false c]
  refine WL.seq<|WL.sr<|WOL.mv rfl<|WOL.len rfl sl u1657<|WOL.bf rfl rfl rfl (decide_eq_false (by omega))<|WOL.nil<|WL.no rfl<|WL.skip<|WL.sr<|WOL.mv rfl<|WOL.cl1 rfl rfl ((k1701 H sl pm (by omega) (f.on Y3)).mono ?_)
  rintro u h4 ⟨rfl,X4⟩
  refine WOL.sto (vs:=[zi (dM L),zi (lvM L),zi (slM L),zi (deM L)]) rfl rfl tp1732 ((A4.hx X3).hx X4) rfl rfl (Nat.le_of_ble_eq_true rfl) rfl (f.hx (Y3.trans X4)) (by omega) fun h5 P5=>WOL.as rfl<|WOL.nil ?_
  exact WL.ret (WL.endC1 rfl rfl (load_row tp1732 P5.at_ rfl (Nat.le_of_ble_eq_true rfl)) ⟨P5.hx _ (Y3.trans X4) (by omega),rfl⟩)
end
end Go.Tidy
namespace Go.Tidy
open Go Go.Proofs Tab
variable {tp:TProg}
section
variable {h:TH} {v v1 v2:Value} {s:ByteArray} {M:List (Int × Int)} {A:List (Int × ByteArray)} {n0 k:Nat} {x l q:Int}
set_option maxHeartbeats 4000000 in
set_option maxRecDepth 10000 in
theorem k1668 (H:Has tp) (o1:OwnL encS n0 h v1 120 M) (o2:OwnL encA n0 h v2 128 A) (ok:OkP M A) (hk:k≤A.length) (x0:0≤x) (x1:x≤100000) (f:Free0 h.next h):CallW Tryz.prog tp (.func (.func 67) #[] #[]) #[secV s v1 v2,zi (k:Nat),zi x] h fun u h'=>HX h h'∧u=.tuple #[.agg #[zi (preA (fewE (perM M A k)) (perM M A k) x).1,zi (preA (fewE (perM M A k)) (perM M A k) x).2],zi (fewE (perM M A k))]:=by
 have pm:=ok.per hk
 refine CallW.fnL (H.fn 67 f1668 rfl rfl) ?_
 obtain ⟨b1,k1,e1⟩:=(o1.sl eS).form
 obtain ⟨b2,k2,e2⟩:=(o2.sl eA).form
 subst e1 e2
 refine WL.sr<|WOL.box rfl fun h1 N1=>WOL.al tp24 fun h2 N2=>WOL.as rfl<|WOL.nil<|keep [(1,_),(2,_),(3,_),(6,_)] ⟨rfl,rfl,rfl,rfl,trivial⟩ ?_
 have n1:=N1.next
 have n2:=N2.next
 have A1:At h2 h.next (.cells [.string s,.slice b1 M.length k1,.slice b2 A.length k2] true true 39):=N1.at_.hx N2.hx
 have A6:=N2.at_
 have X2:=N1.hx.trans N2.hx
 refine WL.sr<|WOL.ld rfl (load_row tp1660 A1 rfl (Nat.le_of_ble_eq_true rfl))<|WOL.mv rfl<|WOL.cl2 rfl rfl rfl ((k1666 (s:=s) H (o1.hx X2) (o2.hx X2) ok hk (f.on X2)).mono ?_)
 rintro u h3 ⟨X3,rfl⟩
 have Y3:=X2.trans X3
 have x3:=X3.next
 generalize perM M A k=L at *
 by_cases e0:fewE L=0
 ·have l2:=few_z e0
  have os:=pm.s l2
  rw [e0]
  refine WOL.mv rfl<|WOL.ex rfl rfl<|WOL.ex rfl rfl<|WOL.al tp1732 fun h4 N4=>WOL.sto (vs:=[zi (dM L),zi (lvM L),zi (slM L),zi (deM L)]) rfl rfl tp1732 N4.at_ rfl rfl (Nat.le_of_ble_eq_true rfl) rfl ((f.on Y3).hx N4.hx) (Nat.le_refl _) fun h5 P5=>WOL.as rfl<|WOL.nil<|keep [(2,_),(6,_),(8,_),(9,_)] ⟨rfl,rfl,rfl,rfl,trivial⟩ ?_
  have Z5:HX h3 h5:=P5.hx _ N4.hx (Nat.le_refl _)
  have A8:At h5 h3.next (.cells [zi (dM L),zi (lvM L),zi (slM L),zi (deM L)] true true 125):=P5.at_
  have Y5:=Y3.trans Z5
  refine WL.seq<|WL.sr<|WOL.mv rfl<|WOL.bf rfl rfl rfl rfl<|WOL.nil<|WL.no rfl<|WL.skip<|WL.sr<|WOL.ld rfl (load_row tp1732 A8 rfl (Nat.le_of_ble_eq_true rfl))<|WOL.mv rfl<|WOL.cl2 rfl rfl rfl ((k1683 (d:=dM L) (n:=lvM L) (r:=slM L) (e:=deM L) H os x0 x1 (f.on Y5)).mono ?_)
  rintro u h6 ⟨rfl,X6⟩
  have x6:=X6.next
  refine WOL.sto (vs:=[zi (rtN (atS (dM L) (lvM L) (slM L) x) (deM L).toNat),zi (rtD (atS (dM L) (lvM L) (slM L) x) (deM L).toNat)]) rfl rfl tp24 (((A6.hx X3).hx Z5).hx X6) rfl rfl (Nat.le_of_ble_eq_true rfl) rfl (f.hx (Y5.trans X6)) (by omega) fun h7 P7=>WOL.as rfl<|WOL.nil ?_
  exact WL.ret (WL.endC1 rfl rfl (load_row tp24 P7.at_ rfl (Nat.le_of_ble_eq_true rfl)) ⟨P7.hx _ (Y5.trans X6) (by omega),rfl⟩)
 ·have eV:lineV (fewE L) L=strV 0 0 0 0:=by unfold lineV;rw [bne_iff_ne.2 e0];rfl
  have eP:preA (fewE L) L x=(0,0):=by unfold preA;rw [bne_iff_ne.2 e0];rfl
  rw [eV,eP]
  generalize fewE L=E at *
  refine WOL.mv rfl<|WOL.ex rfl rfl<|WOL.ex rfl rfl<|WOL.al tp1732 fun h4 N4=>WOL.sto (vs:=[zi 0,zi 0,zi 0,zi 0]) rfl rfl tp1732 N4.at_ rfl rfl (Nat.le_of_ble_eq_true rfl) rfl ((f.on Y3).hx N4.hx) (Nat.le_refl _) fun h5 P5=>WOL.as rfl<|WOL.nil<|keep [(2,_),(6,_),(8,_),(9,_)] ⟨rfl,rfl,rfl,rfl,trivial⟩ ?_
  have Z5:HX h3 h5:=P5.hx _ N4.hx (Nat.le_refl _)
  have Y5:=Y3.trans Z5
  refine WL.seq<|WL.sr<|WOL.mv rfl<|WOL.bt rfl rfl rfl (bne_iff_ne.2 e0)<|WOL.nil<|WL.yes rfl<|WL.sr<|WOL.bd rfl bd24z<|WOL.mv rfl<|WOL.sto (vs:=[zi 0,zi 0]) rfl rfl tp24 ((A6.hx X3).hx Z5) rfl rfl (Nat.le_of_ble_eq_true rfl) rfl (f.hx Y5) (by omega) fun h7 P7=>WOL.as rfl<|WOL.nil ?_
  exact WL.ret (WL.endC1 rfl rfl (load_row tp24 P7.at_ rfl (Nat.le_of_ble_eq_true rfl)) ⟨P7.hx _ Y5 (by omega),rfl⟩)
end
end Go.Tidy
namespace Go.Tidy
open Go Go.Proofs Tab
variable {tp:TProg}
theorem ty_sl_nv {k n:Nat} {P:Program} {h:TH} {t e:TypeId} {v:Value} (hu:P.underlying t=some (.slice e)) (y:Ty P h (n+1) t [v]):v=.slice none 0 0∨∃ q m c,v=.slice (some q) m c:=by
 unfold Ty at y;rw [hu] at y
 obtain ⟨a,m,cap,e1,h1,h2,⟨rfl,rfl⟩ | ⟨b,c,el,rfl,_⟩⟩:=y
 ·obtain rfl:m=0:=by omega
  cases e1
  exact .inl rfl
 ·cases e1
  exact .inr ⟨_,_,_,rfl⟩
set_option maxRecDepth 100000 in
theorem ty_secG {h:TH} {n:Nat} {ps:List Value} (y:Ty Tryz.prog h (n+4) 25 ps):∃ s v1 v2 M A,ps=[.string s,v1,v2]∧SecR h v1 v2 M A∧A.length≤maxLen∧Fits h v1 77∧(v1=.slice none 0 0∨∃ q m c,v1=.slice (some q) m c):=by
 obtain ⟨p,q,rfl,_,y1,p',q',rfl,_,y2,p3,q3,rfl,_,y3,rfl⟩:=tyg_struct Tryz.underlying25 y
 obtain ⟨s,rfl,_⟩:=ty_str y1
 obtain ⟨v1,M,rfl,r1,ft⟩:=tyg_slice eS u1651 (fun p y=>ty_mes y) y2
 obtain ⟨v2,A,rfl,r2,_⟩:=tyg_slice eA u1652 (fun p y=>ty_act y) y3
 exact ⟨s,v1,v2,M,A,rfl,⟨r1,r2⟩,ty_sl_len u1652 y3 r2,ft _,ty_sl_nv (k:=0) u1651 y2⟩
section
variable {h:TH} {v v1 v2:Value} {s:ByteArray} {M:List (Int × Int)} {A:List (Int × ByteArray)} {k:Nat} {x l q e w:Int}
set_option maxHeartbeats 4000000 in
set_option maxRecDepth 10000 in
theorem k1622 (H:Has tp) (r:SecR h v1 v2 M A) (ft:Fits h v1 77) (nv:v1=.slice none 0 0∨∃ q m c,v1=.slice (some q) m c) (ok:OkP M A) (hk:k≤A.length) (f:Free0 h.next h):CallW Tryz.prog tp (.func (.func 16) #[] #[]) #[secV s v1 v2,zi (k:Nat)] h fun u h'=>u=zi (fewE (perM M A k))∧HX h h':=by
 refine CallW.fnL (H.fn 16 f1622 rfl rfl) ?_
 obtain ⟨b1,k1,e1⟩:=r.m.form
 obtain ⟨b2,k2,e2⟩:=r.a.form
 subst e1 e2
 refine WL.sr<|WOL.box rfl fun h1 N1=>WOL.as rfl<|WOL.nil<|keep [(1,_),(2,_)] ⟨rfl,rfl,trivial⟩ ?_
 have n1:=N1.next
 have A1:At h1 h.next (.cells [.string s,.slice b1 M.length k1,.slice b2 A.length k2] true true 25):=N1.at_
 refine WL.sr<|WOL.ld rfl (load_row tp1654 A1 rfl (Nat.le_of_ble_eq_true rfl))<|WOL.mv rfl<|WOL.cl2 rfl rfl rfl ((k1633 (s:=s) (k:=k) H (r.hx N1.hx) (ft.hx N1.hx) nv ok hk (f.on N1.hx)).mono ?_)
 rintro u h2 ⟨X2,sl⟩
 refine WOL.len rfl sl u1651 ?_
 unfold fewE
 by_cases c:(perM M A k).length < 2
 ·rw [decide_eq_true c]
  refine WOL.bt rfl rfl rfl (decide_eq_true (by omega))<|WOL.cl2 rfl rfl rfl ((k32 H _ _ _).mono ?_)
  rintro u h3 ⟨rfl,rfl⟩
  exact WOL.as rfl<|WOL.nil<|WL.ret (WL.end_ rfl ⟨rfl,N1.hx.trans X2⟩)
 ·rw [decide_eq_false c]
  refine WOL.bf rfl rfl rfl (decide_eq_false (by omega))<|WOL.cl2 rfl rfl rfl ((k32 H _ _ _).mono ?_)
  rintro u h3 ⟨rfl,rfl⟩
  exact WOL.as rfl<|WOL.nil<|WL.ret (WL.end_ rfl ⟨rfl,N1.hx.trans X2⟩)
set_option maxHeartbeats 4000000 in
set_option maxRecDepth 10000 in
theorem k1673 (H:Has tp) (s:SlL encS 2 h v M) (ok:OkM M) (h0:0 < M.length) (f:Free0 h.next h):CallW Tryz.prog tp (.func (.func 73) #[] #[]) #[v] h fun u h'=>u=.agg #[zi (lvM M),zi (slM M),zi (deM M)]∧HX h h':=by
 have hn:=ok.n
 have hp0:M[0]?=some (M.getD 0 (0,0)):=by rw [List.getD_eq_getElem?_getD,List.getElem?_eq_getElem h0];rfl
 refine CallW.fnL (H.fn 73 f1673 rfl rfl) ?_
 refine WL.sr<|WOL.al tp1739 fun h1 N1=>WOL.nil<|keep [(0,_),(2,_)] ⟨rfl,rfl,trivial⟩ ?_
 have n1:=N1.next
 have s1:=s.hx N1.hx
 obtain ⟨_,_,_,_,_,_,g1,g2,g3,g4,g5⟩:=s1.at eS u1651 tp1666 hp0 .i64
 refine WL.sr<|WOL.mv rfl<|WOL.len rfl s1 u1651<|WOL.as rfl<|WOL.as rfl<|WOL.as rfl<|WOL.as rfl<|WOL.as rfl<|WOL.nil<|keep [(0,_),(2,_),(3,_),(4,_),(5,_),(6,_),(7,_)] ⟨rfl,rfl,rfl,rfl,rfl,rfl,rfl,trivial⟩ ?_
 refine WL.seq<|WL.sr<|WOL.as rfl<|WOL.nil ?_
 refine WL.forz (α:=Unit) M.length (fun j _ g=>g=h1) (fun j _=>[(0,v),(2,ptr h.next),(3,zi (M.length:Nat)),(4,zi (sms (dM M) M j).1),(5,zi (sms (dM M) M j).2.1),(6,zi (sms (dM M) M j).2.2.1),(7,zi (sms (dM M) M j).2.2.2),(8,zi (j:Nat))]) (fun j _=>[(0,v),(2,ptr h.next),(3,zi (M.length:Nat)),(4,zi (sms (dM M) M (j+1)).1),(5,zi (sms (dM M) M (j+1)).2.1),(6,zi (sms (dM M) M (j+1)).2.2.1),(7,zi (sms (dM M) M (j+1)).2.2.2),(8,zi (j:Nat))]) () rfl ⟨rfl,rfl,rfl,rfl,rfl,rfl,rfl,rfl,trivial⟩ ?_ ?_ (fun _ _ _=>⟨rfl,rfl,rfl,rfl,rfl,rfl,rfl,rfl,trivial⟩) ?_ ?_
 ·rintro j _ g hj rfl
  exact WOL.mv rfl<|WOL.mv rfl<|WOL.len rfl s1 u1651<|WOL.bi rfl rfl rfl<|WOL.nil fun a q=>⟨rfl,q.sub ⟨rfl,rfl,rfl,rfl,rfl,rfl,rfl,rfl,rfl,trivial⟩⟩
 ·rintro j _ g hj rfl
  exact WOL.mv rfl<|WOL.add (m:=((j:Nat):Int)) (n:=1) rfl rfl (by omega) (by omega)<|WOL.as rfl<|WOL.nil fun a q=>⟨rfl,q.sub ⟨rfl,rfl,rfl,rfl,rfl,rfl,rfl,rfl,trivial⟩⟩
 ·rintro j _ g hj rfl
  have hp:M[j]?=some (M.getD j (0,0)):=by rw [List.getD_eq_getElem?_getD,List.getElem?_eq_getElem hj];rfl
  have l:=sms_lim ok j (by omega)
  have t:=ok.t hj
  have b:=ok.b j hj
  have q1:=mul_in (p:=100000) (q:=100000) t.1 (by omega) t.1 (by omega)
  have q2:=mul_in (p:=100000) (q:=100000) t.1 (by omega) b.2.2.1 (by omega)
  have b0:=ok.b 0 h0
  have e:sms (dM M) M (j+1)=((sms (dM M) M j).1+((M.getD j (0,0)).1 - dM M),(sms (dM M) M j).2.1+(M.getD j (0,0)).2,(sms (dM M) M j).2.2.1+((M.getD j (0,0)).1 - dM M)*((M.getD j (0,0)).1 - dM M),(sms (dM M) M j).2.2.2+((M.getD j (0,0)).1 - dM M)*(M.getD j (0,0)).2):=rfl
  obtain ⟨_,_,_,_,_,_,k1,k2,k3,k4,k5⟩:=s1.at eS u1651 tp1666 hp .i64
  refine WL.sr<|WOL.mv rfl<|WOL.mv rfl<|WOL.ix rfl rfl k1<|WOL.fa rfl (fa_of fo1666_0)<|WOL.ld rfl (load_one tp3 k2 (by have:=k5 0 (by decide);rwa [Nat.add_zero] at this))<|WOL.mv rfl<|WOL.ix rfl rfl g1<|WOL.fa rfl (fa_of fo1666_0)<|WOL.ld rfl (load_one tp3 g2 (by have:=g5 0 (by decide);rwa [Nat.add_zero] at this))<|WOL.sub (m:=(M.getD j (0,0)).1) (n:=(M.getD 0 (0,0)).1) rfl rfl (by omega) (by omega)<|WOL.as rfl<|WOL.nil<|keep [(0,_),(2,_),(3,_),(4,_),(5,_),(6,_),(7,_),(8,_),(9,_)] ⟨rfl,rfl,rfl,rfl,rfl,rfl,rfl,rfl,rfl,trivial⟩ ?_
  change ∀ a,Kn [(0,_),(2,_),(3,_),(4,_),(5,_),(6,_),(7,_),(8,_),(9,zi ((M.getD j (0,0)).1 - dM M))] a→_
  have e1:=k5 1 (by decide)
  replace e1:_=some (zi (M.getD j (0,0)).2):=e1
  generalize M.getD j (0,0)=p at *
  refine WL.sr<|WOL.mv rfl<|WOL.mv rfl<|WOL.add rfl rfl (by omega) (by omega)<|WOL.mv rfl<|WOL.mv rfl<|WOL.mv rfl<|WOL.ix rfl rfl k1<|WOL.fa rfl (fa_of fo1666_1)<|WOL.ld rfl (load_one tp3 k2 e1)<|WOL.add rfl rfl (by omega) (by omega)<|WOL.as rfl<|WOL.as rfl<|WOL.nil<|keep [(0,_),(2,_),(3,_),(4,_),(5,_),(6,_),(7,_),(8,_),(9,_)] ⟨rfl,rfl,rfl,rfl,rfl,rfl,rfl,rfl,rfl,trivial⟩ ?_
  refine WL.reg<|WOL.mv rfl<|WOL.mv rfl<|WOL.mv rfl<|WOL.mul rfl rfl (by omega) (by omega)<|WOL.add rfl rfl (by omega) (by omega)<|WOL.mv rfl<|WOL.mv rfl<|WOL.mv rfl<|WOL.mv rfl<|WOL.ix rfl rfl k1<|WOL.fa rfl (fa_of fo1666_1)<|WOL.ld rfl (load_one tp3 k2 e1)<|WOL.mul rfl rfl (by omega) (by omega)<|WOL.add rfl rfl (by omega) (by omega)<|WOL.as rfl<|WOL.as rfl<|WOL.nil fun a q=>⟨(),rfl,?_⟩
  rw [e]
  exact q.sub ⟨rfl,rfl,rfl,rfl,rfl,rfl,rfl,rfl,trivial⟩
 ·rintro _ g rfl
  have l:=sms_lim ok M.length (Nat.le_refl _)
  unfold lvM slM deM
  generalize sms (dM M) M M.length=z at *
  obtain ⟨x,y,xx,xy⟩:=z
  simp only at l ⊢
  have m1:=mul_in (p:=3200000) (q:=320000000000) l.2.2.1 (by omega) l.2.2.2.2.1 (by omega)
  have m2:=mul_in (p:=3200000) (q:=320000000000) l.1 (by omega) l.2.2.2.2.2.2.1 (by omega)
  have m3:=mul_in (p:=32) (q:=320000000000) (Int.natCast_nonneg M.length) (by omega) l.2.2.2.2.2.2.1 (by omega)
  have m4:=mul_in (p:=3200000) (q:=3200000) l.1 (by omega) l.2.2.1 (by omega)
  have m5:=mul_in (p:=32) (q:=320000000000) (Int.natCast_nonneg M.length) (by omega) l.2.2.2.2.1 (by omega)
  have m6:=mul_in (p:=3200000) (q:=3200000) l.1 (by omega) l.1 (by omega)
  refine WL.sr<|WOL.mv rfl<|WOL.mv rfl<|WOL.mul rfl rfl (by omega) (by omega)<|WOL.mv rfl<|WOL.mv rfl<|WOL.mul rfl rfl (by omega) (by omega)<|WOL.sub rfl rfl (by omega) (by omega)<|WOL.mv rfl<|WOL.mv rfl<|WOL.mul rfl rfl (by omega) (by omega)<|WOL.mv rfl<|WOL.mv rfl<|WOL.mul rfl rfl (by omega) (by omega)<|WOL.sub rfl rfl (by omega) (by omega)<|WOL.mv rfl<|WOL.mv rfl<|WOL.mul rfl rfl (by omega) (by omega)<|WOL.mv rfl<|WOL.mv rfl<|WOL.mul rfl rfl (by omega) (by omega)<|WOL.sub rfl rfl (by omega) (by omega)<|WOL.bd rfl bd1739 ?_
  refine WOL.sto (vs:=[zi (y*xx - x*xy),zi ((M.length:Int)*xy - x*y),zi ((M.length:Int)*xx - x*x)]) rfl rfl tp1739 N1.at_ rfl rfl (Nat.le_of_ble_eq_true rfl) rfl (f.hx N1.hx) (by omega) fun h5 P5=>WOL.nil ?_
  exact WL.ret (WL.endC rfl (load_row tp1739 P5.at_ rfl (Nat.le_of_ble_eq_true rfl)) ⟨rfl,P5.hx _ N1.hx (by omega)⟩)
end
end Go.Tidy
namespace Go.Tidy
open Go Go.Proofs Tab
variable {tp:TProg}
section
variable {h:TH} {v v1 v2:Value} {s:ByteArray} {M:List (Int × Int)} {A:List (Int × ByteArray)} {k:Nat} {x l q e w:Int}
set_option maxHeartbeats 4000000 in
set_option maxRecDepth 10000 in
theorem k1626 (H:Has tp) (r:SecR h v1 v2 M A) (ft:Fits h v1 77) (nv:v1=.slice none 0 0∨∃ q m c,v1=.slice (some q) m c) (ok:OkP M A) (hk:k≤A.length) (h2:2≤(perM M A k).length) (x0:0≤x) (x1:x≤100000) (f:Free0 h.next h):CallW Tryz.prog tp (.func (.func 21) #[] #[]) #[secV s v1 v2,zi (k:Nat),zi x] h fun u h'=>HX h h'∧u=.agg #[zi (preA 0 (perM M A k) x).1,zi (preA 0 (perM M A k) x).2]:=by
 have pm:=ok.per hk
 have os:=pm.s h2
 refine CallW.fnL (H.fn 21 f1626 rfl rfl) ?_
 obtain ⟨b1,k1,e1⟩:=r.m.form
 obtain ⟨b2,k2,e2⟩:=r.a.form
 subst e1 e2
 refine WL.sr<|WOL.box rfl fun h1 N1=>WOL.al tp24 fun h2 N2=>WOL.nil<|keep [(1,_),(2,_),(3,_),(6,_)] ⟨rfl,rfl,rfl,rfl,trivial⟩ ?_
 have n1:=N1.next
 have n2:=N2.next
 have A1:At h2 h.next (.cells [.string s,.slice b1 M.length k1,.slice b2 A.length k2] true true 25):=N1.at_.hx N2.hx
 have A4:=N2.at_
 have X2:=N1.hx.trans N2.hx
 refine WL.sr<|WOL.ld rfl (load_row tp1654 A1 rfl (Nat.le_of_ble_eq_true rfl))<|WOL.mv rfl<|WOL.cl2 rfl rfl rfl ((k1633 (s:=s) (k:=k) H (r.hx X2) (ft.hx X2) nv ok hk (f.on X2)).mono ?_)
 rintro u h3 ⟨X3,sl⟩
 have Y3:=X2.trans X3
 have x3:=X3.next
 generalize perM M A k=L at *
 refine WOL.as rfl<|WOL.nil<|keep [(2,_),(6,_),(7,_)] ⟨rfl,rfl,rfl,trivial⟩ ?_
 refine WL.sr<|WOL.mv rfl<|WOL.cl1 rfl rfl ((k1673 H sl pm (by omega) (f.on Y3)).mono ?_)
 rintro w h4 ⟨rfl,X4⟩
 have Y4:=Y3.trans X4
 have x4:=X4.next
 refine WOL.al tp1739 fun h5 N5=>WOL.sto (vs:=[zi (lvM L),zi (slM L),zi (deM L)]) rfl rfl tp1739 N5.at_ rfl rfl (Nat.le_of_ble_eq_true rfl) rfl ((f.on Y4).hx N5.hx) (Nat.le_refl _) fun h6 P6=>WOL.nil<|keep [(2,_),(6,_),(7,_),(8,_)] ⟨rfl,rfl,rfl,rfl,trivial⟩ ?_
 have n6:=P6.next
 have Z6:HX h4 h6:=P6.hx _ N5.hx (Nat.le_refl _)
 have A6:At h6 h4.next (.cells [zi (lvM L),zi (slM L),zi (deM L)] true true 136):=P6.at_
 have Y6:=Y4.trans Z6
 have sl6:=(sl.hx X4).hx Z6
 have n5:=N5.next
 have hp0:L[0]?=some (L.getD 0 (0,0)):=by rw [List.getD_eq_getElem?_getD,List.getElem?_eq_getElem (by omega)];rfl
 obtain ⟨cb,_,_,_,_,_,g1,g2,g3,g4,g5⟩:=sl6.at eS u1651 tp1666 hp0 .i64
 have e0:=os.e0
 have e1:=os.e1
 have nn:=os.n1
 have rr:=os.r1
 have d0:=os.d0
 have d1:=os.d1
 have ma:=os.at_ x0 x1
 unfold dM at d0 d1 ma
 unfold preA atS dM
 generalize L.getD 0 (0,0)=p at *
 obtain ⟨w,hw⟩:∃ w:Nat,deM L=(w:Int):=⟨(deM L).toNat,by omega⟩
 rw [hw] at A6 e0 e1 ⊢
 rw [Int.toNat_natCast]
 refine WL.sr<|WOL.fa rfl (fa_of fo1739_0)<|WOL.ld rfl (load_one tp3 A6 rfl)<|WOL.fa rfl (fa_of fo1739_1)<|WOL.ld rfl (load_one tp3 A6 rfl)<|WOL.mv rfl<|WOL.mv rfl<|WOL.ix rfl rfl g1<|WOL.fa rfl (fa_of fo1666_0)<|WOL.ld rfl (load_one tp3 g2 (by have:=g5 0 (by decide);rwa [Nat.add_zero] at this))<|WOL.sub (m:=x) (n:=p.1) rfl rfl (by omega) (by omega)<|WOL.mul rfl rfl (by omega) (by omega)<|WOL.add rfl rfl (by omega) (by omega)<|WOL.fa rfl (fa_of fo1739_2)<|WOL.ld rfl (load_one tp3 A6 rfl) ?_
 refine WOL.cl2 rfl rfl rfl ((k98v (m:=lvM L+slM L*(x - p.1)) (n:=w) H (by omega) (by omega) (by omega) (by omega) (f.on Y6)).mono ?_)
 rintro u7 h7 ⟨rfl,X7⟩
 have Y7:=Y6.trans X7
 have x7:=X7.next
 generalize lvM L+slM L*(x - p.1)=z at *
 refine WOL.sto (vs:=[zi (rtN z w),zi (rtD z w)]) rfl rfl tp24 ((((A4.hx X3).hx X4).hx Z6).hx X7) rfl rfl (Nat.le_of_ble_eq_true rfl) rfl (f.hx Y7) (by omega) fun h9 P9=>WOL.nil ?_
 exact WL.ret (WL.endC rfl (load_row tp24 P9.at_ rfl (Nat.le_of_ble_eq_true rfl)) ⟨P9.hx _ Y7 (by omega),rfl⟩)
end
end Go.Tidy
namespace Go.Tidy
open Go Go.Proofs Tab
variable {tp:TProg}
section
variable {hp:TH} {K:Regs→TH→Prop} {rest:List TOper} {dd:Option Tmp} {ty:TypeId} {i:Nat} {x y:Operand} {u:TypeId} {L:Rg}
end
theorem SecR.relock {h:TH} {v1 v2:Value} {M:List (Int × Int)} {A:List (Int × ByteArray)} (r:SecR h v1 v2 M A) (L:List Nat):SecR (h.withLock L) v1 v2 M A:=⟨r.m.relock L,r.a.relock L⟩
theorem args2Q {P:Program} {h:TH} {m:Nat} {t0 t1:TypeId} {us:List Value} (ha:Args P h m [t0,t1] us):∃ x0 x1,us=[x0,x1]∧(∃ ps,Ty P h m t0 ps∧x0=valOf P t0 ps)∧∃ ps,Ty P h m t1 ps∧x1=valOf P t1 ps:=by
 match us,ha with
 | [x0,x1],⟨a0,a1,_⟩=>exact ⟨x0,x1,rfl,a0,a1⟩
section
variable {h:TH} {v1 v2:Value} {s:ByteArray} {M:List (Int × Int)} {A:List (Int × ByteArray)} {q x l:Int}
end
end Go.Tidy
namespace Go.Tidy
open Go Go.Proofs Tab
variable {tp:TProg}
theorem tp1695:Tp Tryz.prog 56 4 [.int .i64 0,.int .i64 0,.int .i64 0,.int .i64 0] true:=tp_of (by kernel_rfl) (by kernel_rfl) rfl
theorem bd1695 {a b c d:Int}:buildT Tryz.prog 56 [(0,.agg #[zi a,zi b]),(1,.agg #[zi c,zi d])]=some (.agg #[zi a,zi b,zi c,zi d]):=by kernel_rfl
theorem bd1695z:buildT Tryz.prog 56 []=some (.agg #[zi 0,zi 0,zi 0,zi 0]):=by kernel_rfl
theorem eg1695:Tryz.prog.eqGuardType Tryz.prog.depth 56=false:=by kernel_rfl
theorem sz24:pv Tryz.prog (sizeOf 30)=some 2:=by kernel_rfl
theorem pv_eq1695 {a b c d:Int}:pv Tryz.prog (Op.equal 56 (.agg #[zi a,zi b,zi c,zi d]) (.agg #[zi a,zi b,zi c,zi d]))=some true:=by
 show pv Tryz.prog (Op.equalIn (9997+1+1+1) 56 _ _)=_
 obtain ⟨f1,f2,e1,e2,e3,e4,e5,e6,e7⟩:=rat24'.u
 have q1:=pv_eqr2d (n:=9997) (a:=a) (b:=b) (c:=a) (d:=b) e1 rat24'.s e2 e3 e4 e5 e6 e7
 have q2:=pv_eqr2d (n:=9997) (a:=c) (b:=d) (c:=c) (d:=d) e1 rat24'.s e2 e3 e4 e5 e6 e7
 rw [Op.equalIn,pv_bind,pv_underlying Tryz.underlying56]
 simp only [Option.bind_some]
 simp only [Std.Legacy.Range.forIn_eq_forIn_range',Std.Legacy.Range.size,pv_bind,sz24,Option.bind_some]
 simp [List.range',pv_bind,pv_pure,q1,q2,pt24_0,pt24_2]
section
variable {hp:TH} {K:Regs→TH→Prop} {rest:List TOper} {dd:Option Tmp} {ty:TypeId} {i:Nat} {x y:Operand} {u:TypeId} {L:Rg}
theorem WOL.eq1695 {a b c d:Int} (hx:getL L x=some (.agg #[zi a,zi b,zi c,zi d])) (hy:getL L y=some (.agg #[zi a,zi b,zi c,zi d])) (w:∀ r,Kn (putL L dd (.bool true)) r→WO Tryz.prog tp rest r hp K):∀ r,Kn L r→WO Tryz.prog tp (⟨dd,.binOp .eql 56 x y u,ty,none,[],i⟩::rest) r hp K:=by
  intro r k
  have ex:=getO_eval (k.o hx)
  have ey:=getO_eval (k.o hy)
  refine WO.plainly rfl rfl rfl (by simp [fastOp,fastBin,ex,ey]) (by simp [valueOp,ex,ey,eqT_aggs]) (plainOp_of (by rfl) (fun q hq=>?_) ?_ rfl) (w _ (k.put dd _))
  · simp only [Op.operands] at hq
    simp at hq
    rcases hq with rfl | rfl
    · rw [ex];rfl
    · rw [ey];rfl
  · show pv Tryz.prog (execOp r.eval ⟨dd, .binOp .eql 56 x y u, ty, "", #[], none⟩) = _
    simp [execOp,pv_bind,pv_map,pv_pure,pv_program,ex,ey,eqGuard,binOp,eg1695,pv_eq1695]
end
def actN (s:ByteArray) (M:List (Int × Int)) (A:List (Int × ByteArray)) (q:Int):Int:=firstNZ [secE s M A,cond (decide (q < 0) || decide (q ≥ (A.length:Int))) 10 0]
def dayP (A:List (Int × ByteArray)) (k:Nat):Int:=(A.getD k (0,⟨#[]⟩)).1
def bothE (M:List (Int × Int)) (A:List (Int × ByteArray)) (k:Nat):Int:=firstNZ [fewE (perM M A k),fewE (perM M A (k+1))]
def lefT (s:ByteArray) (M:List (Int × Int)) (A:List (Int × ByteArray)) (q:Int):Int:=cond (actN s M A q != 0) (actN s M A q) (bothE M A q.toNat)
abbrev Four:=Int × Int × Int × Int
def lefA (e:Int) (M:List (Int × Int)) (A:List (Int × ByteArray)) (k:Nat):Four:=cond (e != 0) (0,0,0,0) ((preA 0 (perM M A k) (dayP A k)).1,(preA 0 (perM M A k) (dayP A k)).2,(preA 0 (perM M A (k+1)) (dayP A k)).1,(preA 0 (perM M A (k+1)) (dayP A k)).2)
theorem sec_days {s:ByteArray} {M:List (Int × Int)} {A:List (Int × ByteArray)} (h:secE s M A=0) {j:Nat} (hj:j < A.length):0≤dayP A j∧dayP A j≤100000:=by
 unfold secE at h
 have a:=ent_ok (firstNZ_zero h _ (by simp):entE 16 (A.map Prod.fst) (A.map actE)=0)
 rw [List.length_map] at a
 have hp:A[j]?=some (A.getD j (0,⟨#[]⟩)):=by rw [List.getD_eq_getElem?_getD,List.getElem?_eq_getElem hj];rfl
 have e:(A.map actE).getD j 0=actE (A.getD j (0,⟨#[]⟩)):=map_getD0 hp
 have z:=(a.2 j hj).1
 rw [e] at z
 have z1:=outB_in (firstNZ_zero z _ (by simp):outB (A.getD j (0,⟨#[]⟩)).1 0 100000=0)
 exact z1
theorem actN_ok {s:ByteArray} {M:List (Int × Int)} {A:List (Int × ByteArray)} {q:Int} (h:actN s M A q=0):∃ k:Nat,q=(k:Nat)∧k < A.length∧OkP M A∧0≤dayP A k∧dayP A k≤100000:=by
 have h1:=(firstNZ_zero h _ (List.mem_cons_self ..):secE s M A=0)
 have h2:=(firstNZ_zero h _ (List.mem_cons_of_mem _ (List.mem_cons_self ..)):cond (decide (q < 0) || decide (q ≥ (A.length:Int))) (10:Int) 0=0)
 have o:=sec_ok h1
 by_cases c1:q < 0
 ·rw [decide_eq_true c1] at h2;cases h2
 ·by_cases c2:q ≥ (A.length:Int)
  ·rw [decide_eq_false c1,decide_eq_true c2] at h2;cases h2
  ·exact ⟨q.toNat,by omega,by omega,o,sec_days h1 (by omega)⟩
section
variable {h:TH} {v v1 v2:Value} {s:ByteArray} {M:List (Int × Int)} {A:List (Int × ByteArray)} {n0 k:Nat} {x l q:Int}
def fourV (x:Four):Value:=.agg #[zi x.1,zi x.2.1,zi x.2.2.1,zi x.2.2.2]
set_option maxHeartbeats 4000000 in
set_option maxRecDepth 10000 in
theorem k1629 (H:Has tp) (o1:OwnL encS n0 h v1 120 M) (o2:OwnL encA n0 h v2 128 A) (lM:M.length≤100000) (lA:A.length≤100000) (f:Free0 h.next h):CallW Tryz.prog tp (.func (.func 24) #[] #[]) #[secV s v1 v2,zi q] h fun u h'=>HX h h'∧u=.tuple #[fourV (lefA (lefT s M A q) M A q.toNat),zi (lefT s M A q)]:=by
  refine CallW.fnL (H.fn 24 f1629 rfl rfl) ?_
  obtain ⟨b1,k1,e1⟩:=(o1.sl eS).form
  obtain ⟨b2,k2,e2⟩:=(o2.sl eA).form
  subst e1 e2
  refine WL.sr<|WOL.box rfl fun h1 N1=>WOL.al tp1695 fun h2 N2=>WOL.as rfl<|WOL.nil<|keep [(1,_),(2,_),(4,_)] ⟨rfl,rfl,rfl,trivial⟩ ?_
  have n1:=N1.next
  have n2:=N2.next
  have A1:At h2 h.next (.cells [.string s,.slice b1 M.length k1,.slice b2 A.length k2] true true 39):=N1.at_.hx N2.hx
  have A4:=N2.at_
  have X2:=N1.hx.trans N2.hx
  refine WL.seq<|WL.sr<|WOL.ld rfl (load_row tp1660 A1 rfl (Nat.le_of_ble_eq_true rfl))<|WOL.cl1 rfl rfl ((k1609 (s:=s) H (SecH.of (o1.hx X2) (o2.hx X2)) lM lA (f.on X2)).mono ?_)
  rintro u h3 ⟨rfl,X3⟩
  have Y3:=X2.trans X3
  have x3:=X3.next
  replace A1:=A1.hx X3;replace A4:=A4.hx X3
  have sa:=(o2.hx Y3).sl eA
  refine WOL.cut 9 [(1,zi q),(2,ptr h.next),(4,ptr h1.next),(12,zi (secE s M A)),(21,.bool (decide (q < 0) || decide (q ≥ (A.length:Int))))] ?_ ?_
  · by_cases c:q < 0
    · rw [decide_eq_true c]
      exact WOL.mv rfl<|WOL.bt rfl rfl rfl (decide_eq_true c)<|WOL.mv rfl<|WOL.skp (b:=true) rfl rfl<|WOL.skp (b:=true) rfl rfl<|WOL.skp (b:=true) rfl rfl<|WOL.skp (b:=true) rfl rfl<|WOL.skp (b:=true) rfl rfl<|WOL.pkt rfl rfl<|WOL.nil fun a q=>⟨rfl,q.sub ⟨rfl,rfl,rfl,rfl,rfl,trivial⟩⟩
    · rw [decide_eq_false c]
      exact WOL.mv rfl<|WOL.bf rfl rfl rfl (decide_eq_false c)<|WOL.mv rfl<|WOL.now (b:=false) rfl rfl<|WOL.mv rfl<|WOL.now (b:=false) rfl rfl<|WOL.fa rfl (fa_of fo1660_2)<|WOL.now (b:=false) rfl rfl<|WOL.ld rfl (load_one tp1658 A1 rfl)<|WOL.now (b:=false) rfl rfl<|WOL.len rfl sa u1658<|WOL.now (b:=false) rfl rfl<|WOL.bi rfl rfl rfl<|WOL.pkf rfl rfl<|WOL.nil fun a q=>⟨rfl,q.sub ⟨rfl,rfl,rfl,rfl,rfl,trivial⟩⟩
  refine WOL.cl2 rfl rfl rfl ((k77 H _ _ _).mono ?_)
  rintro u h4 ⟨rfl,rfl⟩
  refine WOL.bsl rfl u166 tp30 (by decide) (by decide) (by decide) (filled_ints _ _) fun h6 N6=>?_
  refine WOL.cl1 rfl rfl ((k71 H (l:=[_,_]) N6.at_.get (by simp)).mono ?_)
  rintro u g ⟨rfl,rfl⟩
  have Xg:=N6.hx
  have Yg:=Y3.trans Xg
  have xg:=Xg.next
  replace A1:=A1.hx Xg;replace A4:=A4.hx Xg
  refine WOL.as rfl<|WOL.nil<|keep [(1,_),(2,_),(4,_),(6,_)] ⟨rfl,rfl,rfl,rfl,trivial⟩ ?_
  change ∀ a,Kn [(1,_),(2,_),(4,_),(6,zi (actN s M A q))] a→_
  have eT:lefT s M A q=cond (actN s M A q != 0) (actN s M A q) (bothE M A q.toNat):=rfl
  by_cases e0:actN s M A q=0
  · rw [e0] at eT ⊢
    obtain ⟨k,rfl,hk,ok,d0,d1⟩:=actN_ok e0
    replace eT:lefT s M A (k:Nat)=bothE M A k:=eT
    rw [eT,Int.toNat_natCast]
    refine WL.sr<|WOL.mv rfl<|WOL.bf rfl rfl rfl rfl<|WOL.nil<|WL.no rfl<|WL.skip<|keep [(1,_),(2,_),(4,_)] ⟨rfl,rfl,rfl,trivial⟩ ?_
    have hp:A[k]?=some (A.getD k (0,⟨#[]⟩)):=by rw [List.getD_eq_getElem?_getD,List.getElem?_eq_getElem hk];rfl
    obtain ⟨_,_,_,_,_,_,g1,g2,g3,g4,g5⟩:=(sa.hx Xg).at eA u1658 tp1673 hp .i64
    refine WL.sr<|WOL.fa rfl (fa_of fo1660_2)<|WOL.ld rfl (load_one tp1658 A1 rfl)<|WOL.mv rfl<|WOL.ix rfl rfl g1<|WOL.fa rfl (fa_of fo1673_0)<|WOL.ld rfl (load_one tp3 g2 (by have:=g5 0 (by decide);rwa [Nat.add_zero] at this))<|WOL.as rfl<|WOL.nil<|keep [(1,_),(2,_),(4,_),(7,_)] ⟨rfl,rfl,rfl,rfl,trivial⟩ ?_
    change ∀ a,Kn [(1,_),(2,_),(4,_),(7,zi (dayP A k))] a→_
    refine WL.sr<|WOL.ld rfl (load_row tp1660 A1 rfl (Nat.le_of_ble_eq_true rfl))<|WOL.mv rfl<|WOL.mv rfl<|WOL.cl3 rfl rfl rfl rfl ((k1668 (s:=s) (k:=k) (x:=dayP A k) H (o1.hx Yg) (o2.hx Yg) ok (by omega) d0 d1 (f.on Yg)).mono ?_)
    rintro u h4 ⟨X4,rfl⟩
    have Y4:=Yg.trans X4
    have x4:=X4.next
    replace A1:=A1.hx X4;replace A4:=A4.hx X4
    unfold lefA bothE
    by_cases c1:fewE (perM M A k)=0
    · rw [c1]
      generalize hP1:preA 0 (perM M A k) (dayP A k)=P1
      obtain ⟨p1,p2⟩:=P1
      refine WOL.mv rfl<|WOL.ex rfl rfl<|WOL.ex rfl rfl<|WOL.al tp24 fun h5 N5=>WOL.sto (vs:=[zi p1,zi p2]) rfl rfl tp24 N5.at_ rfl rfl (Nat.le_of_ble_eq_true rfl) rfl ((f.on Y4).hx N5.hx) (Nat.le_refl _) fun h6 P6=>WOL.as rfl<|WOL.nil<|keep [(1,_),(2,_),(4,_),(7,_),(8,_),(9,_)] ⟨rfl,rfl,rfl,rfl,rfl,rfl,trivial⟩ ?_
      have n5:=N5.next
      have n6:=P6.next
      have Z6:HX h4 h6:=P6.hx _ N5.hx (Nat.le_refl _)
      have A8:At h6 h4.next (.cells [zi p1,zi p2] true true 30):=P6.at_
      have Y6:=Y4.trans Z6
      replace A1:=A1.hx Z6;replace A4:=A4.hx Z6
      refine WL.seq<|WL.sr<|WOL.mv rfl<|WOL.bf rfl rfl rfl rfl<|WOL.nil<|WL.no rfl<|WL.skip<|keep [(1,_),(2,_),(4,_),(7,_),(8,_)] ⟨rfl,rfl,rfl,rfl,rfl,trivial⟩ ?_
      refine WL.sr<|WOL.ld rfl (load_row tp1660 A1 rfl (Nat.le_of_ble_eq_true rfl))<|WOL.mv rfl<|WOL.add (m:=(k:Nat)) (n:=1) rfl rfl (by omega) (by omega) ?_
      rw [show ((k:Nat):Int)+1=((k+1:Nat):Int) by omega]
      refine WOL.mv rfl<|WOL.cl3 rfl rfl rfl rfl ((k1668 (s:=s) (k:=k+1) (x:=dayP A k) H (o1.hx Y6) (o2.hx Y6) ok (by omega) d0 d1 (f.on Y6)).mono ?_)
      rintro u h7 ⟨X7,rfl⟩
      have Y7:=Y6.trans X7
      have x7:=X7.next
      replace A1:=A1.hx X7;replace A4:=A4.hx X7;replace A8:=A8.hx X7
      by_cases c2:fewE (perM M A (k+1))=0
      · rw [c2]
        generalize hP2:preA 0 (perM M A (k+1)) (dayP A k)=P2
        obtain ⟨p3,p4⟩:=P2
        refine WOL.mv rfl<|WOL.ex rfl rfl<|WOL.ex rfl rfl<|WOL.al tp24 fun h8 N8=>WOL.sto (vs:=[zi p3,zi p4]) rfl rfl tp24 N8.at_ rfl rfl (Nat.le_of_ble_eq_true rfl) rfl ((f.on Y7).hx N8.hx) (Nat.le_refl _) fun h9 P9=>WOL.as rfl<|WOL.nil<|keep [(4,_),(8,_),(9,_),(10,_)] ⟨rfl,rfl,rfl,rfl,trivial⟩ ?_
        have n8:=N8.next
        have n9:=P9.next
        have Z9:HX h7 h9:=P9.hx _ N8.hx (Nat.le_refl _)
        have A10:At h9 h7.next (.cells [zi p3,zi p4] true true 30):=P9.at_
        have Y9:=Y7.trans Z9
        refine WL.seq<|WL.sr<|WOL.mv rfl<|WOL.bf rfl rfl rfl rfl<|WOL.nil<|WL.no rfl<|WL.skip<|keep [(4,_),(8,_),(10,_)] ⟨rfl,rfl,rfl,trivial⟩ ?_
        refine WL.sr<|WOL.ld rfl (load_row tp24 (A8.hx Z9) rfl (Nat.le_of_ble_eq_true rfl))<|WOL.ld rfl (load_row tp24 A10 rfl (Nat.le_of_ble_eq_true rfl))<|WOL.bd rfl bd1695<|WOL.sto (vs:=[zi p1,zi p2,zi p3,zi p4]) rfl rfl tp1695 (A4.hx Z9) rfl rfl (Nat.le_of_ble_eq_true rfl) rfl (f.hx Y9) (by omega) fun h11 P11=>WOL.as rfl<|WOL.nil ?_
        exact WL.ret (WL.endC1 rfl rfl (load_row tp1695 P11.at_ rfl (Nat.le_of_ble_eq_true rfl)) ⟨P11.hx _ Y9 (by omega),rfl⟩)
      · have eF:firstNZ [0,fewE (perM M A (k+1))]=fewE (perM M A (k+1)):=by rw [fz_cons,fz_cons,bne_iff_ne.2 c2];rfl
        rw [eF,bne_iff_ne.2 c2]
        generalize preA (fewE (perM M A (k+1))) (perM M A (k+1)) (dayP A k)=P2
        obtain ⟨p3,p4⟩:=P2
        generalize fewE (perM M A (k+1))=E at *
        refine WOL.mv rfl<|WOL.ex rfl rfl<|WOL.ex rfl rfl<|WOL.al tp24 fun h8 N8=>WOL.sto (vs:=[zi p3,zi p4]) rfl rfl tp24 N8.at_ rfl rfl (Nat.le_of_ble_eq_true rfl) rfl ((f.on Y7).hx N8.hx) (Nat.le_refl _) fun h9 P9=>WOL.as rfl<|WOL.nil<|keep [(4,_),(9,_)] ⟨rfl,rfl,trivial⟩ ?_
        have n8:=N8.next
        have n9:=P9.next
        have Z9:HX h7 h9:=P9.hx _ N8.hx (Nat.le_refl _)
        have Y9:=Y7.trans Z9
        refine WL.seq<|WL.sr<|WOL.mv rfl<|WOL.bt rfl rfl rfl (bne_iff_ne.2 c2)<|WOL.nil<|WL.yes rfl<|WL.sr<|WOL.bd rfl bd1695z<|WOL.mv rfl<|WOL.sto (vs:=[zi 0,zi 0,zi 0,zi 0]) rfl rfl tp1695 (A4.hx Z9) rfl rfl (Nat.le_of_ble_eq_true rfl) rfl (f.hx Y9) (by omega) fun h11 P11=>WOL.as rfl<|WOL.nil ?_
        exact WL.ret (WL.endC1 rfl rfl (load_row tp1695 P11.at_ rfl (Nat.le_of_ble_eq_true rfl)) ⟨P11.hx _ Y9 (by omega),rfl⟩)
    · have eF:firstNZ [fewE (perM M A k),fewE (perM M A (k+1))]=fewE (perM M A k):=by rw [fz_cons,bne_iff_ne.2 c1];rfl
      rw [eF,bne_iff_ne.2 c1]
      generalize preA (fewE (perM M A k)) (perM M A k) (dayP A k)=P1
      obtain ⟨p1,p2⟩:=P1
      generalize fewE (perM M A k)=E at *
      refine WOL.mv rfl<|WOL.ex rfl rfl<|WOL.ex rfl rfl<|WOL.al tp24 fun h5 N5=>WOL.sto (vs:=[zi p1,zi p2]) rfl rfl tp24 N5.at_ rfl rfl (Nat.le_of_ble_eq_true rfl) rfl ((f.on Y4).hx N5.hx) (Nat.le_refl _) fun h6 P6=>WOL.as rfl<|WOL.nil<|keep [(4,_),(9,_)] ⟨rfl,rfl,trivial⟩ ?_
      have n5:=N5.next
      have n6:=P6.next
      have Z6:HX h4 h6:=P6.hx _ N5.hx (Nat.le_refl _)
      have Y6:=Y4.trans Z6
      refine WL.seq<|WL.sr<|WOL.mv rfl<|WOL.bt rfl rfl rfl (bne_iff_ne.2 c1)<|WOL.nil<|WL.yes rfl<|WL.sr<|WOL.bd rfl bd1695z<|WOL.mv rfl<|WOL.sto (vs:=[zi 0,zi 0,zi 0,zi 0]) rfl rfl tp1695 (A4.hx Z6) rfl rfl (Nat.le_of_ble_eq_true rfl) rfl (f.hx Y6) (by omega) fun h11 P11=>WOL.as rfl<|WOL.nil ?_
      exact WL.ret (WL.endC1 rfl rfl (load_row tp1695 P11.at_ rfl (Nat.le_of_ble_eq_true rfl)) ⟨P11.hx _ Y6 (by omega),rfl⟩)
  · rw [bne_iff_ne.2 e0] at eT
    replace eT:lefT s M A q=actN s M A q:=eT
    rw [eT]
    unfold lefA
    rw [bne_iff_ne.2 e0]
    generalize actN s M A q=E at *
    refine WL.sr<|WOL.mv rfl<|WOL.bt rfl rfl rfl (bne_iff_ne.2 e0)<|WOL.nil<|WL.yes rfl<|WL.sr<|WOL.bd rfl bd1695z<|WOL.mv rfl<|WOL.sto (vs:=[zi 0,zi 0,zi 0,zi 0]) rfl rfl tp1695 A4 rfl rfl (Nat.le_of_ble_eq_true rfl) rfl (f.hx Yg) (by omega) fun h9 P9=>WOL.as rfl<|WOL.nil ?_
    exact WL.ret (WL.endC1 rfl rfl (load_row tp1695 P9.at_ rfl (Nat.le_of_ble_eq_true rfl)) ⟨P9.hx _ Yg (by omega),rfl⟩)
end
end Go.Tidy
namespace Go.Tidy
open Go Go.Proofs Tab
variable {tp:TProg}
theorem both_z {M:List (Int × Int)} {A:List (Int × ByteArray)} {k:Nat} (h:bothE M A k=0):2≤(perM M A k).length∧2≤(perM M A (k+1)).length:=by
 have h1:=(firstNZ_zero h _ (List.mem_cons_self ..):fewE (perM M A k)=0)
 have h2:=(firstNZ_zero h _ (List.mem_cons_of_mem _ (List.mem_cons_self ..)):fewE (perM M A (k+1))=0)
 exact ⟨few_z h1,few_z h2⟩
theorem left_ok {s:ByteArray} {M:List (Int × Int)} {A:List (Int × ByteArray)} {q:Int} (h:lefT s M A q=0):∃ k:Nat,q=(k:Nat)∧k < A.length∧OkP M A∧0≤dayP A k∧dayP A k≤100000∧2≤(perM M A k).length∧2≤(perM M A (k+1)).length:=by
 unfold lefT at h
 by_cases c:actN s M A q=0
 ·obtain ⟨k,rfl,hk,ok,d0,d1⟩:=actN_ok c
  rw [c] at h
  have:=both_z (k:=k) h
  exact ⟨k,rfl,hk,ok,d0,d1,this⟩
 ·rw [bne_iff_ne.2 c] at h
  exact absurd h c
section
variable {h:TH} {v1 v2:Value} {s:ByteArray} {M:List (Int × Int)} {A:List (Int × ByteArray)} {q:Int}
set_option maxHeartbeats 16000000 in
set_option maxRecDepth 10000 in
theorem k1582 (H:Has tp) (K:Awk tp) (r:SecR h v1 v2 M A) (lA0:A.length≤9223372036854775807) (ft:Fits h v1 77) (nv:v1=.slice none 0 0∨∃ q m c,v1=.slice (some q) m c) (f:Free0 h.next h) :
    CallW Tryz.prog tp (.func (.func 4) #[] #[]) #[secV s v1 v2,zi q] h fun v _=>v=.bool true:=by
  obtain ⟨b1,k1,e1⟩:=r.m.form
  obtain ⟨b2,k2,e2⟩:=r.a.form
  subst e1 e2
  refine CallW.fnL (H.fn 4 f1582 rfl rfl) ?_
  refine WL.sr<|WOL.box rfl fun h2 N1=>WOL.as rfl<|WOL.nil<|keep [(1,_),(2,_)] ⟨rfl,rfl,trivial⟩ ?_
  have n1:=N1.next
  have A2:At h2 h.next (.cells [.string s,.slice b1 M.length k1,.slice b2 A.length k2] true true 25):=N1.at_
  have X2:=N1.hx
  refine WL.seq<|WL.sr<|WOL.cl0 rfl ((k11t K _).mono ?_)
  rintro v h3 ⟨rfl,rfl⟩
  refine WOL.nt rfl<|WOL.mv rfl<|WOL.now (b:=false) rfl rfl<|WOL.ld rfl (load_row tp1654 A2 rfl (Nat.le_of_ble_eq_true rfl))<|WOL.now (b:=false) rfl rfl<|WOL.cl1 rfl rfl ((k1604 (s:=s) H (r.hx X2) lA0).mono ?_)
  rintro v h4 ⟨X4,b,rfl,hb⟩
  have x4:=X4.next
  have Y4:=X2.trans X4
  replace A2:=A2.hx X4
  cases b with
  | false =>
    refine WOL.now (b:=false) rfl rfl<|WOL.nt rfl<|WOL.pkf rfl rfl<|WOL.nil<|WL.yes rfl<|WL.sr<|WOL.cl0 rfl ((k11t K _).mono ?_)
    rintro v h5 ⟨rfl,rfl⟩
    exact WOL.as rfl<|WOL.nil<|WL.ret (WL.end_ rfl rfl)
  | true =>
    obtain ⟨lM',lA'⟩:=hb rfl
    have lM:M.length≤100000:=by omega
    have lA:A.length≤100000:=by omega
    clear hb lM' lA'
    refine WOL.now (b:=false) rfl rfl<|WOL.nt rfl<|WOL.pkf rfl rfl<|WOL.nil<|WL.no rfl<|WL.skip<|keep [(1,_),(2,_)] ⟨rfl,rfl,trivial⟩ ?_
    -- Left
    refine WL.sr<|WOL.ld rfl (load_row tp1654 A2 rfl (Nat.le_of_ble_eq_true rfl))<|WOL.cl1 rfl rfl ((k1606 (s:=s) H (r.hx Y4) lM lA (f.on Y4)).mono ?_)
    rintro u h6 ⟨X6,w1,w2,rfl,o1,o2⟩
    have x6:=X6.next
    have Y6:=Y4.trans X6
    refine WOL.mv rfl<|WOL.cl2 rfl rfl rfl ((k1629 (s:=s) (q:=q) H o1 o2 lM lA (f.on Y6)).mono ?_)
    rintro u h7 ⟨X7,rfl⟩
    have x7:=X7.next
    have Y7:=Y6.trans X7
    have zF:lefT s M A q≠0→lefA (lefT s M A q) M A q.toNat=(0,0,0,0):=fun e=>by unfold lefA;rw [bne_iff_ne.2 e];rfl
    have zF0:lefT s M A q=0→lefA (lefT s M A q) M A q.toNat=lefA 0 M A q.toNat:=fun e=>by rw [e]
    generalize hFF:lefA (lefT s M A q) M A q.toNat=FF at *
    clear hFF
    obtain ⟨g1,g2,g3,g4⟩:=FF
    refine WOL.mv rfl<|WOL.ex rfl rfl<|WOL.ex rfl rfl<|WOL.al tp1695 fun h5 N5=>WOL.sto (vs:=[zi g1,zi g2,zi g3,zi g4]) rfl rfl tp1695 N5.at_ rfl rfl (Nat.le_of_ble_eq_true rfl) rfl ((f.on Y7).hx N5.hx) (by omega) fun h8 P8=>WOL.as rfl<|WOL.nil<|keep [(1,_),(2,_),(5,_),(6,_)] ⟨rfl,rfl,rfl,rfl,trivial⟩ ?_
    have n5:=N5.next
    have p8:=P8.next
    have Z8:HX h4 h8:=(X6.trans X7).trans (P8.hx _ N5.hx (Nat.le_refl _))
    have A5:At h8 h7.next (.cells [zi g1,zi g2,zi g3,zi g4] true true 56):=P8.at_
    replace A2:=A2.hx Z8
    replace Y4:=Y4.trans Z8
    clear P8 o1 o2 X6 X7 Y6 Y7 N5
    -- errors
    refine WL.sr<|WOL.ld rfl (load_row tp1654 A2 rfl (Nat.le_of_ble_eq_true rfl))<|WOL.cl1 rfl rfl ((k1607 (s:=s) H (r.hx Y4) lM lA).mono ?_)
    rintro u h10 ⟨rfl,X10⟩
    replace A2:=A2.hx X10;replace A5:=A5.hx X10
    replace Y4:=Y4.trans X10
    refine WOL.as rfl<|WOL.nil<|keep [(1,_),(2,_),(5,_),(6,_),(7,_)] ⟨rfl,rfl,rfl,rfl,rfl,trivial⟩ ?_
    have sa:=r.a.hx Y4
    have y4:=Y4.next
    have t1:∀ g c,HX h10 g→At g c (.cells [zi g1,zi g2,zi g3,zi g4] true true 56)→∀ a,Kn [(5,ptr h7.next),(6,zi (lefT s M A q)),(7,zi (lefT s M A q)),(8,ptr c)] a →
        W Tryz.prog tp false (.seq (.reg r1582_12) .ret) a g (Fin Tryz.prog [.tmp 4] fun v _=>v=.bool true):=by
      intro g c Xg B8
      exact WL.sr<|WOL.ld rfl (load_row tp1695 (A5.hx Xg) rfl (Nat.le_of_ble_eq_true rfl))<|WOL.ld rfl (load_row tp1695 B8 rfl (Nat.le_of_ble_eq_true rfl))<|WOL.eq1695 rfl rfl<|WOL.mv rfl<|WOL.now (b:=true) rfl rfl<|WOL.mv rfl<|WOL.now (b:=true) rfl rfl<|WOL.mv rfl<|WOL.now (b:=true) rfl rfl<|WOL.bt rfl rfl rfl (beq_self_eq_true _)<|WOL.pkt rfl rfl<|WOL.as rfl<|WOL.nil<|WL.ret (WL.end_ rfl rfl)
    have t2:∀ g c,HX h10 g→h10.next≤c→c < g.next→At g c (.cells [zi 0,zi 0,zi 0,zi 0] true true 56)→∀ a,Kn [(1,zi q),(2,ptr h.next),(5,ptr h7.next),(6,zi (lefT s M A q)),(7,zi (lefT s M A q)),(8,ptr c)] a →
        W Tryz.prog tp false (.seq (.seq (.reg r1582_10) (.cond (.tmp 50) (.reg r1582_11) .skip)) (.seq (.reg r1582_12) .ret)) a g (Fin Tryz.prog [.tmp 4] fun v _=>v=.bool true):=by
      intro g c Xg hc hc2 B8
      have Yg:=Y4.trans Xg
      have B2:=A2.hx Xg
      by_cases e0:lefT s M A q=0
      · obtain ⟨k,rfl,hk,ok,d0,d1,l1,l2⟩:=left_ok e0
        have zq:=(zF0 e0).symm
        rw [Int.toNat_natCast] at zq
        unfold lefA at zq
        injection zq with q1 q2
        injection q2 with q2 q3
        injection q3 with q3 q4
        have t1c:=t1
        rw [e0] at t1c ⊢
        have hp:A[k]?=some (A.getD k (0,⟨#[]⟩)):=by rw [List.getD_eq_getElem?_getD,List.getElem?_eq_getElem hk];rfl
        obtain ⟨cb,_,_,_,_,_,i1,i2,i3,i4,i5⟩:=(sa.hx Xg).at eA u1652 tp1668 hp .i64
        have lb:=i2.lt
        have j0:=i5 0 (by decide)
        rw [Nat.add_zero] at j0
        replace j0:_=some (zi (dayP A k)):=j0
        refine WL.seq<|WL.sr<|WOL.mv rfl<|WOL.bt rfl rfl rfl rfl<|WOL.nil<|WL.yes rfl<|WL.reg<|WOL.ld rfl (load_row tp1654 B2 rfl (Nat.le_of_ble_eq_true rfl))<|WOL.mv rfl<|WOL.fa rfl (fa_of fo1654_2)<|WOL.ld rfl (load_one tp1652 B2 rfl)<|WOL.mv rfl<|WOL.ix rfl rfl i1<|WOL.fa rfl (fa_of fo1668_0)<|WOL.ld rfl (load_one tp3 i2 j0)<|WOL.ld rfl (load_row tp1654 B2 rfl (Nat.le_of_ble_eq_true rfl))<|WOL.mv rfl<|WOL.add (m:=(k:Nat)) (n:=1) rfl rfl (by omega) (by omega)<|WOL.fa rfl (fa_of fo1654_2)<|WOL.ld rfl (load_one tp1652 B2 rfl)<|WOL.mv rfl<|WOL.ix rfl rfl i1<|WOL.fa rfl (fa_of fo1668_0)<|WOL.ld rfl (load_one tp3 i2 j0) ?_
        rw [show ((k:Nat):Int)+1=((k+1:Nat):Int) by omega]
        have lh:=B2.lt
        refine WOL.lv3 (bs:=[some cb,some h.next,some h.next]) rfl rfl rfl rfl rfl fun L hL=>((k1626 (h:=g.withLock L) (s:=s) (x:=dayP A k) H ((r.hx Yg).relock L) ((ft.hx Yg).relock L) nv ok (by omega) l1 d0 d1 ((f.on Yg).heldO hL (fun b hb=>by simp at hb;omega))).mono ?_)
        rintro v w3 ⟨X3,rfl⟩
        replace X3:=X3.relock
        generalize w3.withLock g.lock=w3 at *
        have Y3:=Yg.trans X3
        refine WOL.cl3 rfl rfl rfl rfl ((k1626 (s:=s) (x:=dayP A k) H (r.hx Y3) (ft.hx Y3) nv ok (by omega) l2 d0 d1 (f.on Y3)).mono ?_)
        rintro v w4 ⟨X4,rfl⟩
        rw [q1,q2,q3,q4]
        refine WOL.bd rfl bd1695<|WOL.sto (vs:=[zi g1,zi g2,zi g3,zi g4]) rfl rfl tp1695 ((B8.hx X3).hx X4) rfl rfl (Nat.le_of_ble_eq_true rfl) rfl (f.hx (Y3.trans X4)) (by omega) fun g10 P10=>WOL.nil ?_
        exact kto (t1c g10 c (P10.hx _ ((Xg.trans X3).trans X4) (by omega)) P10.at_) ⟨rfl,rfl,rfl,rfl,trivial⟩
      · have zq:=zF e0
        injection zq with q1 q2
        injection q2 with q2 q3
        injection q3 with q3 q4
        subst q1 q2 q3 q4
        refine WL.seq<|WL.sr<|WOL.mv rfl<|WOL.bf rfl rfl rfl (beq_eq_false_iff_ne.2 e0)<|WOL.nil<|WL.no rfl<|WL.skip ?_
        exact kto (t1 g c Xg B8) ⟨rfl,rfl,rfl,rfl,trivial⟩
    have t3:∀ a,Kn [(1,zi q),(2,ptr h.next),(5,ptr h7.next),(6,zi (lefT s M A q)),(7,zi (actN s M A q))] a →
        W Tryz.prog tp false (.seq (.reg r1582_7) (.seq (.seq (.reg r1582_8) (.cond (.tmp 39) (.reg r1582_9) .skip)) (.seq (.seq (.reg r1582_10) (.cond (.tmp 50) (.reg r1582_11) .skip)) (.seq (.reg r1582_12) .ret)))) a h10 (Fin Tryz.prog [.tmp 4] fun v _=>v=.bool true):=by
      refine WL.sr<|WOL.al tp1695 fun g N=>WOL.nil ?_
      have n:=N.next
      have Yg:=Y4.trans N.hx
      have B2:=A2.hx N.hx
      have eT:lefT s M A q=cond (actN s M A q != 0) (actN s M A q) (bothE M A q.toNat):=rfl
      by_cases e0:actN s M A q=0
      · rw [e0] at eT
        replace eT:lefT s M A q=bothE M A q.toNat:=eT
        obtain ⟨k,rfl,hk,ok,d0,d1⟩:=actN_ok e0
        rw [Int.toNat_natCast] at eT
        rw [e0]
        have lh:=B2.lt
        refine WL.seq<|WL.sr<|WOL.mv rfl<|WOL.bt rfl rfl rfl rfl<|WOL.nil<|WL.yes rfl<|WL.reg<|WOL.ld rfl (load_row tp1654 B2 rfl (Nat.le_of_ble_eq_true rfl))<|WOL.mv rfl<|WOL.ld rfl (load_row tp1654 B2 rfl (Nat.le_of_ble_eq_true rfl))<|WOL.mv rfl<|WOL.add (m:=(k:Nat)) (n:=1) rfl rfl (by omega) (by omega) ?_
        rw [show ((k:Nat):Int)+1=((k+1:Nat):Int) by omega]
        refine WOL.lq2 [h.next] rfl rfl rfl rfl fun L hL=>((k1622 (h:=g.withLock L) (s:=s) (k:=k) H ((r.hx Yg).relock L) ((ft.hx Yg).relock L) nv ok (by omega) ((f.on Yg).held hL (fun b hb=>by simp at hb;omega))).mono ?_)
        rintro v g3 ⟨rfl,X3⟩
        replace X3:=X3.relock
        generalize g3.withLock g.lock=g3 at *
        have Y3:=Yg.trans X3
        refine WOL.cl2 rfl rfl rfl ((k1622 (s:=s) (k:=k+1) H (r.hx Y3) (ft.hx Y3) nv ok (by omega) (f.on Y3)).mono ?_)
        rintro v g4 ⟨rfl,X4⟩
        refine WOL.bsl rfl u29 tp3 (by decide) (by decide) (by decide) (filled_ints _ _) fun g5 N5=>?_
        refine WOL.cl1 rfl rfl ((k13 H (l:=[_,_]) N5.at_.get (by simp)).mono ?_)
        rintro v g6 ⟨rfl,rfl⟩
        rw [show firstNZ [fewE (perM M A k),fewE (perM M A (k+1))]=lefT s M A (k:Nat) from eT.symm]
        refine WOL.as rfl<|WOL.nil ?_
        have xx:=((X3.trans X4).trans N5.hx).next
        exact kto (t2 _ h10.next (((N.hx.trans X3).trans X4).trans N5.hx) (Nat.le_refl _) (by omega) (((N.at_.hx X3).hx X4).hx N5.hx)) ⟨rfl,rfl,rfl,rfl,rfl,rfl,trivial⟩
      · rw [bne_iff_ne.2 e0] at eT
        replace eT:lefT s M A q=actN s M A q:=eT
        rw [← eT] at e0 ⊢
        refine WL.seq<|WL.sr<|WOL.mv rfl<|WOL.bf rfl rfl rfl (beq_eq_false_iff_ne.2 e0)<|WOL.nil<|WL.no rfl<|WL.skip ?_
        exact kto (t2 _ h10.next N.hx (Nat.le_refl _) (by omega) N.at_) ⟨rfl,rfl,rfl,rfl,rfl,rfl,trivial⟩
    by_cases c:secE s M A=0
    · have eN:actN s M A q=cond (decide (q < 0) || decide (q ≥ (A.length:Int))) 10 0:=by unfold actN;rw [c];cases decide (q < 0) || decide (q ≥ (A.length:Int)) <;> rfl
      rw [eN] at t3
      rw [c]
      refine WL.seq<|WL.sr<|WOL.mv rfl<|WOL.bt rfl rfl rfl rfl<|WOL.nil<|WL.yes rfl<|WL.reg<|WOL.mv rfl ?_
      by_cases c:q < 0
      · rw [decide_eq_true c] at t3
        refine WOL.bt rfl rfl rfl (decide_eq_true c)<|WOL.mv rfl<|WOL.skp (b:=true) rfl rfl<|WOL.skp (b:=true) rfl rfl<|WOL.skp (b:=true) rfl rfl<|WOL.skp (b:=true) rfl rfl<|WOL.skp (b:=true) rfl rfl<|WOL.pkt rfl rfl<|WOL.cl2 rfl rfl rfl ((k32 H _ _ _).mono ?_)
        rintro u h3 ⟨rfl,rfl⟩
        refine WOL.as rfl<|WOL.nil ?_
        exact kto t3 ⟨rfl,rfl,rfl,rfl,rfl,trivial⟩
      · rw [decide_eq_false c] at t3
        refine WOL.bf rfl rfl rfl (decide_eq_false c)<|WOL.mv rfl<|WOL.now (b:=false) rfl rfl<|WOL.mv rfl<|WOL.now (b:=false) rfl rfl<|WOL.fa rfl (fa_of fo1654_2)<|WOL.now (b:=false) rfl rfl<|WOL.ld rfl (load_one tp1652 A2 rfl)<|WOL.now (b:=false) rfl rfl<|WOL.len rfl sa u1652<|WOL.now (b:=false) rfl rfl<|WOL.bi rfl rfl rfl<|WOL.pkf rfl rfl<|WOL.cl2 rfl rfl rfl ((k32 H _ _ _).mono ?_)
        rintro u h3 ⟨rfl,rfl⟩
        refine WOL.as rfl<|WOL.nil ?_
        exact kto t3 ⟨rfl,rfl,rfl,rfl,rfl,trivial⟩
    · have eN:actN s M A q=secE s M A:=by unfold actN;rw [fz_cons,bne_iff_ne.2 c];rfl
      rw [eN] at t3
      refine WL.seq<|WL.sr<|WOL.mv rfl<|WOL.bf rfl rfl rfl (beq_eq_false_iff_ne.2 c)<|WOL.nil<|WL.no rfl<|WL.skip ?_
      exact kto t3 ⟨rfl,rfl,rfl,rfl,rfl,trivial⟩
end
set_option maxRecDepth 100000 in
theorem law1582:Law tpE 4 5 [25,3]:=by
 intro h us f ha
 obtain ⟨x0,x1,rfl,⟨p0,y0,e0⟩,⟨p1,y1,e1⟩⟩:=args2Q ha
 rw [val_agg (.inl ⟨_,Tryz.underlying25⟩)] at e0
 obtain ⟨s,v1,v2,M,A,rfl,r,l,ft,nv⟩:=ty_secG (n:=1) y0
 obtain ⟨q,rfl,_⟩:=ty_int y1
 rw [val_int] at e1
 subst e0 e1
 exact k1582 (q:=q) hasE awkE r (Nat.le_trans l maxLen_le) ft nv f
end Go.Tidy
