/- A part of the proof. -/
import Derived.Test.YtcgodmeccmkcaaaGreatDoorPa5
import Derived.Test.YtcgodmeccmkcaaaGreatDoorPa4
import Derived.Test.YtcgodmeccmkcaaaGreatDoorPa1
import Derived.Test.YtcgodmeccmkcaaaGreatDoorPa2
import Derived.Test.YtcgodmeccmkcaaaGreatDoorProg
set_option linter.all false
namespace Go.Tidy
open Go Go.Proofs Tab
variable {tp:TProg}
theorem bd1128 {a b:Int}:buildT Tryz.prog 44 [(0,zi a),(1,zi b)] = some (.agg #[zi a,zi b]):=by kernel_rfl
def vTn (p q:Nat):List (Nat × Int):=[(0,-(q:Int)),(p,(p:Int) + q),(p + q,-(p:Int))]
def errV (E:Int) (m w:Nat):Int:=if E ≠ 0 then E else cond (decide (m ≤ w)) 16 0
theorem errV_ok {m w:Nat}:errV 0 m w = cond (decide (m ≤ w)) 16 0:=by unfold errV;rw [if_neg (by decide)]
theorem errV_no {E:Int} {m w:Nat} (h:E ≠ 0):errV E m w = E:=by unfold errV;rw [if_pos h]
theorem chord_ok {a b:Int} (h:chordE a b = 0):1 ≤ a ∧ a ≤ 32 ∧ 1 ≤ b ∧ b ≤ 32:=by
 have all:=firstNZ_zero h
 have h1:=all (outB a 1 32) (by simp)
 have h2:=all (outB b 1 32) (by simp)
 have o:∀ x:Int,outB x 1 32 = 0 → 1 ≤ x ∧ x ≤ 32:=fun x hx => by
  unfold outB at hx
  by_cases c1:x < 1
  ·rw [decide_eq_true c1] at hx;cases hx
  ·by_cases c2:32 < x
   ·rw [decide_eq_false c1,decide_eq_true c2] at hx;cases hx
   ·omega
 exact ⟨(o _ h1).1,(o _ h1).2,(o _ h2).1,(o _ h2).2⟩
theorem vTaps {p q:Nat} (hp:1 ≤ p) (hp':p ≤ 32) (hq:1 ≤ q) (hq':q ≤ 32):Taps (vTn p q) (p + q):=⟨⟨_,rfl⟩,⟨_,rfl⟩,fun t ht => by
 unfold vTn at ht
 simp only [List.mem_cons,List.not_mem_nil,or_false] at ht
 rcases ht with rfl | rfl | rfl
 ·exact Nat.zero_le _
 ·exact Nat.le_add_right _ _
 ·exact Nat.le_refl _,fun t ht => by
 unfold vTn at ht
 simp only [List.mem_cons,List.not_mem_nil,or_false] at ht
 rcases ht with rfl | rfl | rfl
 ·show -10000 ≤ -(q:Int) ∧ -(q:Int) ≤ 10000;omega
 ·show -10000 ≤ (p:Int) + q ∧ (p:Int) + q ≤ 10000;omega
 ·show -10000 ≤ -(p:Int) ∧ -(p:Int) ≤ 10000;omega,by show 3 ≤ 1000;decide⟩
theorem vTapD {p q:Nat}:tapD (-(p:Int)) (vTn p q) = [(-(p:Int),-(q:Int)),(0,(p:Int) + q),((q:Int),-(p:Int))]:=by
 unfold tapD vTn
 simp only [List.map_cons,List.map_nil]
 rw [show ((0:Nat):Int) + -(p:Int) = -(p:Int) by omega,show ((p:Nat):Int) + -(p:Int) = 0 by omega,show ((p + q:Nat):Int) + -(p:Int) = q by omega]
section
variable {h:TH} {n a b:Int} {v1 v2:Value} {L:List Int} {S:List (Int × Int)}
set_option maxHeartbeats 2000000 in
set_option maxRecDepth 10000 in
theorem k1125 (H:Has tp) (r:TrcH h v1 v2 L S) (l1:L.length ≤ 900000) (t1:S.length ≤ 900000) (f:Free0 h.next h) :
  CallW Tryz.prog tp (.func (.func 25) #[] #[]) #[.agg #[zi a,zi b],trcV n v1 v2] h fun v h' => HX h h' ∧ ProgR (n + a) (errV (firstNZ [chordE a b,traceE n L S]) L.length (a.toNat + b.toNat)) (tapC L S (vTn a.toNat b.toNat) (L.length - (a.toNat + b.toNat))) h.next h' v:=by
 refine CallW.fnL (H.fn 25 f1125 rfl rfl) ?_
 obtain ⟨b1,k1,e1,_⟩:=id r.l
 obtain ⟨b2,k2,e2,_⟩:=id r.s
 subst e1 e2
 refine WL.sr <| WOL.box rfl fun h1 N1 => WOL.box rfl fun h2 N2 => WOL.al tp1117 fun h3 N3 => WOL.as rfl <| WOL.nil <| keep [(2,_),(3,_),(4,_)] ⟨rfl,rfl,rfl,trivial⟩ ?_
 have q1:=N1.next
 have q2:=N2.next
 have q3:=N3.next
 have A2:At h3 h.next (.cells [zi a,zi b] true true 44):=(N1.at_.hx N2.hx).hx N3.hx
 have A3:At h3 h1.next (.cells [zi n,.slice b1 L.length k1,.slice b2 S.length k2] true true 31):=N2.at_.hx N3.hx
 have A4:=N3.at_
 have X3:=(N1.hx.trans N2.hx).trans N3.hx
 refine WL.seq <| WL.sr <| WOL.ld rfl (load_row tp1128 A2 rfl (Nat.le_of_ble_eq_true rfl)) <| WOL.ld rfl (load_row tp1117 A3 rfl (Nat.le_of_ble_eq_true rfl)) ?_
 refine WOL.lk1 rfl rfl fun M => ((k1121 H a b _).mono ?_)
 rintro v h4 ⟨rfl,X4⟩
 replace X4:=X4.relock
 generalize h4.withLock h3.lock = h4 at *
 refine WOL.cl1 rfl rfl ((k1123 (n:=n) H (r.hx (X3.trans X4)) (by omega) (by omega) (f.on (X3.trans X4))).mono ?_)
 rintro v h5 ⟨rfl,X5⟩
 refine WOL.bsl rfl u166 tp30 (by decide) (by decide) (by decide) (filled_ints _ _) fun h6 N6 => WOL.cl1 rfl rfl ((k71 H (l:=[_,_]) N6.at_.get (by simp)).mono ?_)
 rintro v h6 ⟨rfl,rfl⟩
 have Z:=(X4.trans X5).trans N6.hx
 have Y:=X3.trans Z
 replace A2:=A2.hx Z;replace A3:=A3.hx Z;replace A4:=A4.hx Z
 have yn:=Y.next
 refine WOL.as rfl <| WOL.nil <| keep [(2,_),(3,_),(4,_),(6,_)] ⟨rfl,rfl,rfl,rfl,trivial⟩ ?_
 generalize hE:firstNZ [chordE a b,traceE n L S] = E
 by_cases e0:E ≠ 0
 ·rw [errV_no e0]
  refine WL.sr <| WOL.mv rfl <| WOL.bt rfl rfl rfl (bne_iff_ne.2 e0) <| WOL.nil <| WL.yes rfl <| WL.sr <| WOL.bd rfl bd1117z <| WOL.mv rfl <| WOL.sto (vs:=[zi 0,.slice none 0 0,.slice none 0 0]) rfl rfl tp1117 A4 rfl rfl (Nat.le_of_ble_eq_true rfl) rfl (f.hx Y) (by omega) fun i1 M1 => WOL.as rfl <| WOL.nil ?_
  exact WL.ret (WL.endC1 rfl rfl (load_row tp1117 M1.at_ rfl (Nat.le_of_ble_eq_true rfl)) ⟨M1.hx _ Y (by omega),.inl ⟨e0,rfl⟩⟩)
 have e0:E = 0:=Classical.not_not.1 e0
 subst e0
 have all:=firstNZ_zero hE
 obtain ⟨⟨m1,m2⟩,m3,m4,m5,m6,m7⟩:=trace_ok (all (traceE n L S) (by simp))
 obtain ⟨p1,p2,p3,p4⟩:=chord_ok (all (chordE a b) (by simp))
 obtain ⟨p,rfl⟩:∃ p:Nat,a = p:=⟨a.toNat,by omega⟩
 obtain ⟨q,rfl⟩:∃ q:Nat,b = q:=⟨b.toNat,by omega⟩
 rw [errV_ok,Int.toNat_natCast,Int.toNat_natCast]
 refine WL.sr <| WOL.mv rfl <| WOL.bf rfl rfl rfl rfl <| WOL.nil <| keep [(2,_),(3,_),(4,_),(14,_)] ⟨rfl,rfl,rfl,rfl,trivial⟩ <| WL.no rfl <| WL.skip ?_
 refine WL.sr <| WOL.ld rfl (load_row tp1117 A3 rfl (Nat.le_of_ble_eq_true rfl)) <| WOL.ld rfl (load_row tp1128 A2 rfl (Nat.le_of_ble_eq_true rfl)) ?_
 refine WOL.lk1 rfl rfl fun M => ((k1194 H (a:=p) (b:=q) (by omega) (by omega) (by omega) (by omega) _).mono ?_)
 rintro v g1 ⟨Xg,c,rfl,hc,Ac⟩
 replace Xg:=Xg.relock
 replace Ac:=Ac.relock h6.lock
 generalize g1.withLock h6.lock = g1 at *
 rw [← vTapD] at Ac
 have Yg:=Y.trans Xg
 refine WOL.cl2 rfl rfl rfl ((k1193 (n:=n) (W:=p + q) (c:=-(p:Int)) H (r.hx Yg) (SlL.own eS Ac rfl) (vTaps (by omega) (by omega) (by omega) (by omega)) m3 m1 m2 (by omega) (by omega) (by omega) l1 (by omega) (holeE_in m4) (by omega) (f.on Yg)).mono ?_)
 rintro v g2 ⟨X2,R⟩
 rw [Int.sub_neg] at R
 have x2:=(Yg.trans X2).next
 have x3:=Yg.next
 have l4:=(A4.hx Xg).lt
 rcases R with ⟨heT,rfl⟩ | ⟨heT,hbT,rfl⟩ | ⟨heT,hbT,bvT,wT,rfl,hvT,toT⟩
 ·exact WOL.ex rfl rfl <| WOL.ex rfl rfl <| WOL.sto (vs:=[zi 0,.slice none 0 0,.slice none 0 0]) rfl rfl tp1117 ((A4.hx Xg).hx X2) rfl rfl (Nat.le_of_ble_eq_true rfl) rfl (f.hx (Yg.trans X2)) (by omega) fun iT MT => WOL.as rfl <| WOL.nil <| WL.ret (WL.endC1 rfl rfl (load_row tp1117 MT.at_ rfl (Nat.le_of_ble_eq_true rfl)) ⟨MT.hx _ (Yg.trans X2) (by omega),.inl ⟨heT,rfl⟩⟩)
 ·exact WOL.ex rfl rfl <| WOL.ex rfl rfl <| WOL.sto (vs:=[zi 0,.slice none 0 0,.slice none 0 0]) rfl rfl tp1117 ((A4.hx Xg).hx X2) rfl rfl (Nat.le_of_ble_eq_true rfl) rfl (f.hx (Yg.trans X2)) (by omega) fun iT MT => WOL.as rfl <| WOL.nil <| WL.ret (WL.endC1 rfl rfl (load_row tp1117 MT.at_ rfl (Nat.le_of_ble_eq_true rfl)) ⟨MT.hx _ (Yg.trans X2) (by omega),.inr (.inl ⟨heT,hbT,rfl⟩)⟩)
 ·obtain ⟨b2T,m2T,k2T,rfl⟩:=toT.form
  exact WOL.ex rfl rfl <| WOL.ex rfl rfl <| WOL.sto (vs:=[zi _,slA bvT _,.slice b2T m2T k2T]) rfl rfl tp1117 ((A4.hx Xg).hx X2) rfl rfl (Nat.le_of_ble_eq_true rfl) rfl (f.hx (Yg.trans X2)) (by omega) fun iT MT => WOL.as rfl <| WOL.nil <| WL.ret (WL.endC1 rfl rfl (load_row tp1117 MT.at_ rfl (Nat.le_of_ble_eq_true rfl)) ⟨MT.hx _ (Yg.trans X2) (by omega),.inr (.inr ⟨heT,hbT,bvT,_,rfl,by omega,(toT.put MT (by omega) (by omega)).low (by omega)⟩)⟩)
theorem k1126 (H:Has tp) (r:TrcH h v1 v2 L S) (l1:L.length ≤ 900000) (t1:S.length ≤ 900000) (f:Free0 h.next h) :
  CallW Tryz.prog tp (.func (.func 26) #[] #[]) #[trcV n v1 v2] h fun v h' => HX h h' ∧ ProgR (n + 1) (errV (firstNZ [chordE 1 1,traceE n L S]) L.length 2) (tapC L S (vTn 1 1) (L.length - 2)) h.next h' v:=by
 refine CallW.fnL (H.fn 26 f1126 rfl rfl) ?_
 obtain ⟨b1,k1,e1,_⟩:=id r.l
 obtain ⟨b2,k2,e2,_⟩:=id r.s
 subst e1 e2
 refine WL.sr <| WOL.box rfl fun h1 N1 => WOL.al tp1117 fun h2 N2 => WOL.as rfl <| WOL.nil <| keep [(1,_),(2,_),(3,_)] ⟨rfl,rfl,rfl,trivial⟩ ?_
 have q1:=N1.next
 have q2:=N2.next
 have A1:At h2 h.next (.cells [zi n,.slice b1 L.length k1,.slice b2 S.length k2] true true 31):=N1.at_.hx N2.hx
 have A2:=N2.at_
 have X2:=N1.hx.trans N2.hx
 have l2:=A2.lt
 refine WL.sr <| WOL.bd rfl bd1128 <| WOL.ld rfl (load_row tp1117 A1 rfl (Nat.le_of_ble_eq_true rfl)) <| WOL.cl2 rfl rfl rfl ((k1125 (n:=n) (a:=1) (b:=1) H (r.hx X2) l1 t1 (f.on X2)).mono ?_)
 rintro v g ⟨X,R⟩
 have x1:=X2.next
 have x2:=X.next
 replace R:ProgR (n + 1) (errV (firstNZ [chordE 1 1,traceE n L S]) L.length 2) (tapC L S (vTn 1 1) (L.length - 2)) h2.next g v:=R
 rcases R with ⟨heT,rfl⟩ | ⟨heT,hbT,rfl⟩ | ⟨heT,hbT,bvT,wT,rfl,hvT,toT⟩
 ·exact WOL.ex rfl rfl <| WOL.ex rfl rfl <| WOL.sto (vs:=[zi 0,.slice none 0 0,.slice none 0 0]) rfl rfl tp1117 (A2.hx X) rfl rfl (Nat.le_of_ble_eq_true rfl) rfl (f.hx (X2.trans X)) (by omega) fun iT MT => WOL.as rfl <| WOL.nil <| WL.ret (WL.endC1 rfl rfl (load_row tp1117 MT.at_ rfl (Nat.le_of_ble_eq_true rfl)) ⟨MT.hx _ (X2.trans X) (by omega),.inl ⟨heT,rfl⟩⟩)
 ·exact WOL.ex rfl rfl <| WOL.ex rfl rfl <| WOL.sto (vs:=[zi 0,.slice none 0 0,.slice none 0 0]) rfl rfl tp1117 (A2.hx X) rfl rfl (Nat.le_of_ble_eq_true rfl) rfl (f.hx (X2.trans X)) (by omega) fun iT MT => WOL.as rfl <| WOL.nil <| WL.ret (WL.endC1 rfl rfl (load_row tp1117 MT.at_ rfl (Nat.le_of_ble_eq_true rfl)) ⟨MT.hx _ (X2.trans X) (by omega),.inr (.inl ⟨heT,hbT,rfl⟩)⟩)
 ·obtain ⟨b2T,m2T,k2T,rfl⟩:=toT.form
  exact WOL.ex rfl rfl <| WOL.ex rfl rfl <| WOL.sto (vs:=[zi _,slA bvT _,.slice b2T m2T k2T]) rfl rfl tp1117 (A2.hx X) rfl rfl (Nat.le_of_ble_eq_true rfl) rfl (f.hx (X2.trans X)) (by omega) fun iT MT => WOL.as rfl <| WOL.nil <| WL.ret (WL.endC1 rfl rfl (load_row tp1117 MT.at_ rfl (Nat.le_of_ble_eq_true rfl)) ⟨MT.hx _ (X2.trans X) (by omega),.inr (.inr ⟨heT,hbT,bvT,_,rfl,by omega,(toT.put MT (by omega) (by omega)).low (by omega)⟩)⟩)
end
end Go.Tidy
namespace Go.Tidy
open Go Go.Proofs Tab
variable {tp:TProg}
def wgt (p q i:Nat):Int:=if i + 1 ≤ p then (q:Int) * ((i:Int) + 1) else (p:Int) * ((p:Int) + q - 1 - i)
def wts (p q:Nat):List Int:=(List.range (p + q - 1)).map (wgt p q)
def wTp (p q st:Nat):List (Nat × Int):=(List.range (p + q - 1)).map fun i => (i * st,wgt p q i)
theorem wts_len {p q:Nat}:(wts p q).length = p + q - 1:=by unfold wts;rw [List.length_map,List.length_range]
theorem wTp_len {p q st:Nat}:(wTp p q st).length = p + q - 1:=by unfold wTp;rw [List.length_map,List.length_range]
theorem wTp_get {p q st i:Nat} (h:i < p + q - 1):(wTp p q st)[i]? = some (i * st,wgt p q i):=by
 unfold wTp
 rw [tbl_get,if_pos h]
theorem wgt_lim {p q i:Nat} (hp:p ≤ 32) (hq:q ≤ 32) (hi:i < p + q):0 ≤ wgt p q i ∧ wgt p q i ≤ 4096:=by
 unfold wgt
 split
 ·have e:(q:Int) * ((i:Int) + 1) = ((q * (i + 1):Nat):Int):=rfl
  have:=Nat.mul_le_mul hq (show i + 1 ≤ 32 by omega)
  rw [e];omega
 ·obtain ⟨k,hk⟩:∃ k:Nat,(p:Int) + q - 1 - i = k:=⟨p + q - 1 - i,by omega⟩
  rw [hk]
  have e:(p:Int) * (k:Int) = ((p * k:Nat):Int):=rfl
  have:=Nat.mul_le_mul hp (show k ≤ 64 by omega)
  rw [e];omega
theorem wTaps {p q st:Nat} (hp:1 ≤ p) (hp':p ≤ 32) (hq:1 ≤ q) (hq':q ≤ 32):Taps (wTp p q st) ((p + q - 2) * st):=⟨⟨_,by rw [wTp_get (by omega),Nat.zero_mul]⟩,⟨_,by rw [wTp_len,wTp_get (by omega)];rfl⟩,fun t ht => by
 obtain ⟨i,hi,rfl⟩:=List.mem_map.1 ht
 have:=List.mem_range.1 hi
 exact Nat.mul_le_mul_right _ (by omega),fun t ht => by
 obtain ⟨i,hi,rfl⟩:=List.mem_map.1 ht
 have:=List.mem_range.1 hi
 have:=wgt_lim (i:=i) hp' hq' (by omega)
 show -10000 ≤ wgt p q i ∧ wgt p q i ≤ 10000
 omega,by rw [wTp_len];omega⟩
theorem wTp_one {p q:Nat}:(wTp p q 1).map (fun t => t.2) = wts p q:=by
 unfold wTp wts
 rw [List.map_map];rfl
section
variable {h:TH} {n a b:Int} {v1 v2:Value} {L:List Int} {S:List (Int × Int)} {p q st:Nat}
set_option maxHeartbeats 2000000 in
set_option maxRecDepth 10000 in
theorem k1198 (H:Has tp) (hp:1 ≤ p) (hp':p ≤ 32) (hq:1 ≤ q) (hq':q ≤ 32) (hst:st ≤ 32) (f:Free0 h.next h) :
  CallW Tryz.prog tp (.func (.func 98) #[] #[]) #[.agg #[zi (p:Nat),zi (q:Nat)],zi (st:Nat)] h fun v h' => HX h h' ∧ ∃ c,v = slA c (p + q - 1) ∧ h.next ≤ c ∧ At h' c (.cells (cat encS (tapD ((1 - (p:Int)) * st) (wTp p q st))) true true 192):=by
 refine CallW.fnL (H.fn 98 f1198 rfl rfl) ?_
 refine WL.sr <| WOL.box rfl fun h1 N1 => WOL.as rfl <| WOL.nil <| keep [(1,_),(2,_)] ⟨rfl,rfl,trivial⟩ ?_
 have q1:=N1.next
 have A2:At h1 h.next (.cells [zi (p:Nat),zi (q:Nat)] true true 44):=N1.at_
 refine WL.sr <| WOL.ld rfl (load_row tp1128 A2 rfl (Nat.le_of_ble_eq_true rfl)) <| WOL.cl1 rfl rfl ((k1199 H (a:=p) (b:=q) (by omega) (by omega) (by omega) (by omega) _).mono ?_)
 rintro v h2 ⟨rfl,X2⟩
 have Y2:=N1.hx.trans X2
 replace A2:=A2.hx X2
 have y2:=Y2.next
 have x2:=X2.next
 refine WOL.sub (m:=(p:Int) + q) (n:=1) rfl rfl (by omega) (by omega) ?_
 rw [show (p:Int) + q - 1 = ((p + q - 1:Nat):Int) by omega]
 have lD:(tapD ((1 - (p:Int)) * st) (wTp p q st)).length = p + q - 1:=by unfold tapD;rw [List.length_map,wTp_len]
 have hD:∀ i,i < p + q - 1 → (tapD ((1 - (p:Int)) * st) (wTp p q st))[i]? = some (((i:Int) + 1 - p) * st,wgt p q i):=fun i hi => by
  unfold tapD
  rw [List.getElem?_map,wTp_get hi]
  show some (((i * st:Nat):Int) + (1 - (p:Int)) * st,wgt p q i) = _
  rw [show (i:Int) + 1 - p = i + (1 - (p:Int)) by omega,Int.add_mul];rfl
 generalize tapD ((1 - (p:Int)) * st) (wTp p q st) = D at *
 refine WOL.ms (m:=p + q - 1) rfl rfl u1214 tp1242 (by decide) (by omega) fun h3 N3 => WOL.as rfl <| WOL.nil <| keep [(1,_),(2,_),(5,_)] ⟨rfl,rfl,rfl,trivial⟩ ?_
 have q3:=N3.next
 have W0:=N3.at_
 rw [show ([zi 0,zi 0]:List Value) = encS (0,0) from rfl,Enc.rep,← lD,← fill_zero D] at W0
 rw [← lD]
 have Y3:=Y2.trans N3.hx
 replace A2:=A2.hx N3.hx
 refine WL.seq <| WL.sr <| WOL.mv rfl <| WOL.len (m:=D.length) rfl (SlC.own (by rw [eS.cat_len,fill_len _ _ _ (by omega)]) W0) u1214 <| WOL.mv rfl <| WOL.nil <| keep [(1,_),(2,_),(5,_),(14,_),(15,_)] ⟨rfl,rfl,rfl,rfl,rfl,trivial⟩ ?_
 refine WL.upto (α:=Unit) D.length (fun j _ g => HX h g ∧ At g h.next (.cells [zi (p:Nat),zi (q:Nat)] true true 44) ∧ At g h2.next (.cells (cat encS (D.take j ++ List.replicate (D.length - j) (0,0))) true true 192)) (fun _ _ => [(1,zi (st:Nat)),(2,ptr h.next),(5,slA h2.next D.length),(14,zi (D.length:Nat))]) () rfl rfl (by omega) ⟨Y3,A2,W0⟩ ⟨rfl,rfl,rfl,rfl,rfl,trivial⟩ (fun _ _ => rfl) (fun _ _ _ => ⟨rfl,rfl,rfl,rfl,rfl,trivial⟩) (fun _ _ _ => ⟨rfl,rfl,rfl,rfl,rfl,trivial⟩) ?_ ?_
 ·rintro i _ g hi ⟨X,A,Wd⟩
  have hi':i < p + q - 1:=by omega
  have hw:=wgt_lim (i:=i) hp' hq' (by omega)
  have hDi:=hD i hi'
  have k1:-64 ≤ (i:Int) + 1 - p ∧ (i:Int) + 1 - p ≤ 64:=by omega
  refine WL.sr <| WOL.mv rfl <| WOL.as rfl <| WOL.nil <| keep [(1,_),(2,_),(5,_),(6,_),(14,_),(15,_)] ⟨rfl,rfl,rfl,rfl,rfl,rfl,trivial⟩ ?_
  refine WL.sr <| WOL.mv rfl <| WOL.add (m:=(i:Nat)) (n:=1) rfl rfl (by omega) (by omega) <| WOL.fa rfl (fa_of fo1128_0) <| WOL.ld rfl (load_one tp3 A rfl) <| WOL.sub (m:=(i:Int) + 1) (n:=(p:Int)) rfl rfl (by omega) (by omega) <| WOL.as rfl <| WOL.nil <| keep [(1,_),(2,_),(5,_),(6,_),(7,_),(14,_),(15,_)] ⟨rfl,rfl,rfl,rfl,rfl,rfl,rfl,trivial⟩ ?_
  obtain ⟨c1,c2⟩:=mul_lim (w:=(p:Int)) (x:=(q:Int) - ((i:Int) + 1 - p)) (by omega) (by omega) (by omega) (by omega)
  obtain ⟨c3,c4⟩:=mul_lim (w:=(q:Int)) (x:=(p:Int) + ((i:Int) + 1 - p)) (by omega) (by omega) (by omega) (by omega)
  obtain ⟨c5,c6⟩:=mul_lim (w:=(i:Int) + 1 - p) (x:=(st:Int)) (by omega) (by omega) (by omega) (by omega)
  refine WL.sr <| WOL.fa rfl (fa_of fo1128_0) <| WOL.ld rfl (load_one tp3 A rfl) <| WOL.fa rfl (fa_of fo1128_1) <| WOL.ld rfl (load_one tp3 A rfl) <| WOL.mv rfl <| WOL.sub (m:=(q:Int)) (n:=(i:Int) + 1 - p) rfl rfl (by omega) (by omega) <| WOL.mul rfl rfl (Int.le_trans (by decide) c1) (Int.le_trans c2 (by decide)) <| WOL.as rfl <| WOL.nil <| keep [(1,_),(2,_),(5,_),(6,_),(7,_),(8,_),(14,_),(15,_)] ⟨rfl,rfl,rfl,rfl,rfl,rfl,rfl,rfl,trivial⟩ ?_
  have fin:∀ x,x = wgt p q i → ∀ y,Kn [(1,zi (st:Nat)),(2,ptr h.next),(5,slA h2.next D.length),(6,zi (i:Nat)),(7,zi ((i:Int) + 1 - p)),(8,zi x),(14,zi (D.length:Nat)),(15,zi (i:Nat))] y → W Tryz.prog tp false (.reg r1198_9) y g (Next 1 0 15 i ((fun j _ g => HX h g ∧ At g h.next (.cells [zi (p:Nat),zi (q:Nat)] true true 44) ∧ At g h2.next (.cells (cat encS (D.take j ++ List.replicate (D.length - j) (0,0))) true true 192)) (i + 1)) ((fun _ (_:Unit) => [(1,zi (st:Nat)),(2,ptr h.next),(5,slA h2.next D.length),(14,zi (D.length:Nat))]) (i + 1)) (andThen (fun a h' => W Tryz.prog tp false (.seq (.reg r1198_11) .ret) a h' (Fin Tryz.prog [.tmp 4] fun v h' => HX h h' ∧ ∃ c,v = slA c D.length ∧ h.next ≤ c ∧ At h' c (.cells (cat encS D) true true 192))) (Fin Tryz.prog [.tmp 4] fun v h' => HX h h' ∧ ∃ c,v = slA c D.length ∧ h.next ≤ c ∧ At h' c (.cells (cat encS D) true true 192)))):=by
   rintro x rfl
   refine WL.reg <| WOL.mv rfl <| WOL.mv rfl <| WOL.mv rfl <| WOL.mv rfl <| WOL.mul rfl rfl (Int.le_trans (by decide) c5) (Int.le_trans c6 (by decide)) <| WOL.mv rfl <| WOL.bd rfl bd1242 <| WOL.ix rfl rfl (indexAddr_tp (j:=i) u1214 tp1242 hi) ?_
   refine WOL.sto (vs:=encS (((i:Int) + 1 - p) * st,wgt p q i)) rfl rfl tp1242 Wd rfl rfl (by rw [eS.cat_len,fill_len _ _ _ (by omega)];omega) rfl (f.hx X) (by omega) fun h5 P5 => WOL.nil fun y k => ⟨(),⟨P5.hx _ X (by omega),P5.oth _ _ (by omega) A,?_⟩,k.sub ⟨rfl,rfl,rfl,rfl,rfl,trivial⟩⟩
   have:=P5.at_
   rw [Nat.zero_add,eS.set (by rw [fill_len _ _ _ (by omega)];omega),show (((i:Int) + 1 - p) * st,wgt p q i) = D[i] from (Option.some.inj ((List.getElem?_eq_getElem hi).symm.trans hDi)).symm,fill_set D _ i hi] at this
   exact this
  by_cases hk:i + 1 ≤ p
  ·refine WL.seq <| WL.sr <| WOL.mv rfl <| WOL.bt rfl rfl rfl (by first | exact decide_eq_true (by omega) | exact beq_iff_eq.2 (by omega) | exact bne_iff_ne.2 (by omega)) <| WOL.nil <| WL.yes rfl <| WL.reg <| WOL.fa rfl (fa_of fo1128_1) <| WOL.ld rfl (load_one tp3 A rfl) <| WOL.fa rfl (fa_of fo1128_0) <| WOL.ld rfl (load_one tp3 A rfl) <| WOL.mv rfl <| WOL.add (m:=(p:Int)) (n:=(i:Int) + 1 - p) rfl rfl (by omega) (by omega) <| WOL.mul rfl rfl (Int.le_trans (by decide) c3) (Int.le_trans c4 (by decide)) <| WOL.as rfl <| WOL.nil ?_
   refine kto (fin _ ?_) ⟨rfl,rfl,rfl,rfl,rfl,rfl,rfl,rfl,trivial⟩
   unfold wgt
   rw [if_pos hk,show (p:Int) + ((i:Int) + 1 - p) = (i:Int) + 1 by omega]
  ·refine WL.seq <| WL.sr <| WOL.mv rfl <| WOL.bf rfl rfl rfl (by first | exact decide_eq_false (by omega) | exact beq_eq_false_iff_ne.2 (by omega) | exact bne_eq_false_iff_eq.2 (by omega)) <| WOL.nil <| WL.no rfl <| WL.skip ?_
   refine kto (fin _ ?_) ⟨rfl,rfl,rfl,rfl,rfl,rfl,rfl,rfl,trivial⟩
   unfold wgt
   rw [if_neg hk,show (q:Int) - ((i:Int) + 1 - p) = (p:Int) + q - 1 - i by omega]
 ·rintro _ g ⟨X,A,Wd⟩
  rw [fill_all] at Wd
  exact WL.sr <| WOL.mv rfl <| WOL.as rfl <| WOL.nil <| WL.ret (WL.end_ rfl ⟨X,_,rfl,by omega,Wd⟩)
set_option maxRecDepth 10000 in
theorem k1228 (H:Has tp) (x:Int × Int) (h:TH):CallW Tryz.prog tp (.func (.func 139) #[] #[]) #[.agg #[zi x.1,zi x.2]] h fun v h' => v = zi x.2 ∧ HX h h':=by
 refine CallW.fnL (H.fn 139 f1228 rfl rfl) ?_
 refine WL.sr <| WOL.box rfl fun h1 N1 => WOL.as rfl <| WOL.nil <| keep [(1,_)] ⟨rfl,trivial⟩ ?_
 have A1:At h1 h.next (.cells [zi x.1,zi x.2] true true 192):=N1.at_
 refine WL.sr ?_
 repeat' (first
  | refine WOL.now (b:=true) rfl rfl ?_
  | refine WOL.now (b:=false) rfl rfl ?_
  | refine WOL.skp (b:=true) rfl rfl ?_
  | refine WOL.skp (b:=false) rfl rfl ?_
  | refine WOL.gu rfl rfl ?_
  | refine WOL.mv rfl ?_
  | refine WOL.as rfl ?_
  | refine WOL.ex rfl rfl ?_
  | refine WOL.nt rfl ?_
  | refine WOL.pkt rfl rfl ?_
  | refine WOL.pkf rfl rfl ?_
  | refine WOL.fa rfl (fa_of (by first | exact fo1242_0 | exact fo1242_1 | exact fo1117_0 | exact fo1117_1 | exact fo1117_2 | exact fo1114_0 | exact fo1114_1 | exact fo1114_2 | exact fo1194_0 | exact fo1194_1 | exact fo1112_0 | exact fo1112_1 | exact fo1128_0 | exact fo1128_1 | exact fo48_0 | exact fo48_1 | exact fo1207_0 | exact fo1207_1)) ?_
  | refine WOL.ld rfl (load_one (by first | exact tp1242 | exact tp3 | exact tp29 | exact tp4 | exact tp145 | exact tp44 | exact tp48 | exact tp1117 | exact tp1114 | exact tp1194 | exact tp1112 | exact tp1128 | exact tp1207) A1 rfl) ?_
  | refine WOL.ld rfl (load_row (by first | exact tp1242 | exact tp3 | exact tp29 | exact tp4 | exact tp145 | exact tp44 | exact tp48 | exact tp1117 | exact tp1114 | exact tp1194 | exact tp1112 | exact tp1128 | exact tp1207) A1 rfl (Nat.le_of_ble_eq_true rfl)) ?_
  | refine WOL.add rfl rfl (by omega) (by omega) ?_
  | refine WOL.sub rfl rfl (by omega) (by omega) ?_
  | refine WOL.bt rfl rfl rfl (by first | exact decide_eq_true (by omega) | exact beq_iff_eq.2 (by omega) | exact bne_iff_ne.2 (by omega)) ?_
  | refine WOL.bf rfl rfl rfl (by first | exact decide_eq_false (by omega) | exact beq_eq_false_iff_ne.2 (by omega) | exact bne_eq_false_iff_eq.2 (by omega)) ?_)
 exact WOL.nil <| WL.ret (WL.end_ rfl ⟨rfl,N1.hx⟩)
set_option maxHeartbeats 2000000 in
set_option maxRecDepth 10000 in
theorem k1227 (H:Has tp) {v fv:Value} {D:List (Int × Int)} {g:Int × Int → Int} (s:SlL encS 2 h v D) (hD:D.length ≤ 1000000) (hf:∀ x h',CallW Tryz.prog tp fv #[.agg #[zi x.1,zi x.2]] h' fun v h'' => v = zi (g x) ∧ HX h' h'') (f:Free0 h.next h) :
  CallW Tryz.prog tp (.func (.func 138) #[] #[]) #[v,fv] h fun w h' => HX h h' ∧ ∃ c,w = slA c D.length ∧ h.next ≤ c ∧ At h' c (.cells (cat encI (D.map g)) true true 3):=by
 refine CallW.fnL (H.fn 138 f1227 rfl rfl) ?_
 refine WL.sr <| WOL.as rfl <| WOL.nil ?_
 have lE:(D.map g).length = D.length:=List.length_map ..
 refine WL.sr <| WOL.mv rfl <| WOL.len rfl s u1214 <| WOL.ms (m:=D.length) rfl rfl u29 tp3 (by decide) (by omega) fun h1 N1 => WOL.as rfl <| WOL.nil <| keep [(0,_),(1,_),(5,_)] ⟨rfl,rfl,rfl,trivial⟩ ?_
 have q1:=N1.next
 have W0:=N1.at_
 rw [rep_flat,← cat_rep (enc:=encI) (x:=0) rfl,← lE,← fill_zero (D.map g)] at W0
 refine WL.seq <| WL.sr <| WOL.mv rfl <| WOL.len rfl (s.hx N1.hx) u1214 <| WOL.mv rfl <| WOL.nil <| keep [(1,_),(5,_),(11,_),(12,_),(13,_)] ⟨rfl,rfl,rfl,rfl,rfl,trivial⟩ ?_
 refine WL.upto (α:=Unit) D.length (fun j _ g' => HX h g' ∧ At g' h.next (.cells (cat encI ((D.map g).take j ++ List.replicate ((D.map g).length - j) 0)) true true 3)) (fun _ _ => [(1,fv),(5,slA h.next D.length),(11,v),(12,zi (D.length:Nat))]) () rfl rfl (by omega) ⟨N1.hx,W0⟩ ⟨rfl,rfl,rfl,rfl,rfl,trivial⟩ (fun _ _ => rfl) (fun _ _ _ => ⟨rfl,rfl,rfl,rfl,rfl,trivial⟩) (fun _ _ _ => ⟨rfl,rfl,rfl,rfl,rfl,trivial⟩) ?_ ?_
 ·rintro i _ g' hi ⟨X,Wd⟩
  have hp:D[i]? = some D[i]:=List.getElem?_eq_getElem hi
  have hg:(D.map g)[i]'(by omega) = g D[i]:=List.getElem_map ..
  obtain ⟨_,_,cc,fix,wr,el,g1,g2,g3,g4,g5⟩:=(s.hx X).at eS u1214 tp1242 hp .i64
  have xg:=X.next
  have lw:=Wd.lt
  refine WL.sr <| WOL.mv rfl <| WOL.ix rfl rfl g1 <| WOL.ld rfl (load_row tp1242 g2 g4 g3) <| WOL.al tp1242 fun i1 M1 => WOL.as rfl <| WOL.sto (vs:=encS D[i]) rfl rfl tp1242 M1.at_ rfl rfl (Nat.le_of_ble_eq_true rfl) rfl (f.hx (X.trans M1.hx)) (by omega) fun i2 M2 => WOL.nil <| keep [(1,_),(5,_),(6,_),(7,_),(11,_),(12,_),(13,_)] ⟨rfl,rfl,rfl,rfl,rfl,rfl,rfl,trivial⟩ ?_
  have A7:At i2 g'.next (.cells [zi D[i].1,zi D[i].2] true true 192):=M2.at_
  have XI:HX g' i2:=M2.hx _ M1.hx (Nat.le_refl _)
  refine WL.reg <| WOL.mv rfl <| WOL.mv rfl <| WOL.mv rfl <| WOL.ld rfl (load_row tp1242 A7 rfl (Nat.le_of_ble_eq_true rfl)) <| WOL.cl1 rfl rfl ((hf D[i] _).mono ?_)
  rintro u i3 ⟨rfl,X3⟩
  have Z:=XI.trans X3
  refine WOL.ix rfl rfl (indexAddr_tp (j:=i) u29 tp3 hi) <| WOL.sto (vs:=encI (g D[i])) rfl rfl tp3 (Wd.hx Z) rfl rfl (by rw [eI.cat_len,fill_len _ _ _ (by omega),lE];omega) rfl (f.hx (X.trans Z)) (by omega) fun h5 P5 => WOL.nil fun y k => ⟨(),⟨P5.hx _ (X.trans Z) (by omega),?_⟩,k.sub ⟨rfl,rfl,rfl,rfl,rfl,trivial⟩⟩
  have:=P5.at_
  rw [Nat.zero_add,eI.set (by rw [fill_len _ _ _ (by omega),lE];omega),← hg,fill_set (D.map g) _ i (by omega)] at this
  exact this
 ·rintro _ g' ⟨X,Wd⟩
  rw [← lE,fill_all] at Wd
  exact WL.sr <| WOL.mv rfl <| WOL.as rfl <| WOL.nil <| WL.ret (WL.end_ rfl ⟨X,_,rfl,by omega,Wd⟩)
theorem tapD_snd {c:Int} {T:List (Nat × Int)}:(tapD c T).map (fun x => x.2) = T.map fun t => t.2:=by
 unfold tapD
 rw [List.map_map];rfl
theorem k1196 (H:Has tp) (hp:1 ≤ p) (hp':p ≤ 32) (hq:1 ≤ q) (hq':q ≤ 32) (f:Free0 h.next h) :
  CallW Tryz.prog tp (.func (.func 96) #[] #[]) #[.agg #[zi (p:Nat),zi (q:Nat)]] h fun v h' => HX h h' ∧ ∃ c,v = slA c (p + q - 1) ∧ h.next ≤ c ∧ At h' c (.cells (cat encI (wts p q)) true true 3):=by
 refine CallW.fnL (H.fn 96 f1196 rfl rfl) ?_
 refine WL.sr <| WOL.box rfl fun h1 N1 => WOL.as rfl <| WOL.nil <| keep [(1,_)] ⟨rfl,trivial⟩ ?_
 have q1:=N1.next
 have A1:At h1 h.next (.cells [zi (p:Nat),zi (q:Nat)] true true 44):=N1.at_
 refine WL.sr <| WOL.ld rfl (load_row tp1128 A1 rfl (Nat.le_of_ble_eq_true rfl)) <| WOL.cl2 rfl rfl rfl ((k1198 (st:=1) H hp hp' hq hq' (by decide) (f.on N1.hx)).mono ?_)
 rintro v h2 ⟨X2,c,rfl,hc,Ac⟩
 have lD:(tapD ((1 - (p:Int)) * ((1:Nat):Int)) (wTp p q 1)).length = p + q - 1:=by unfold tapD;rw [List.length_map,wTp_len]
 have x2:=X2.next
 refine WOL.cl2 rfl rfl rfl ((k1227 (g:=fun x => x.2) H (SlL.own eS Ac lD) (by omega) (fun x h' => k1228 H x h') (f.on (N1.hx.trans X2))).mono ?_)
 rintro v h3 ⟨X3,c',rfl,hc',Ac'⟩
 rw [tapD_snd,wTp_one] at Ac'
 rw [lD]
 exact WOL.as rfl <| WOL.nil <| WL.ret (WL.end_ rfl ⟨(N1.hx.trans X2).trans X3,c',rfl,by omega,Ac'⟩)
end
end Go.Tidy
namespace Go.Tidy
open Go Go.Proofs Tab
variable {tp:TProg}
theorem k11t (A:Awk tp) (h:TH):CallW Tryz.prog tp (.func (.func 12) #[] #[]) #[] h fun v h' => v = .bool true ∧ h' = h:=by
 obtain ⟨e,e1,e2⟩:=A.e
 exact CallW.ext A.no e1 rfl e2 rfl ⟨rfl,rfl⟩
theorem IsInts.keep {g g':TH} {y:Value} {L:List Int} (i:IsInts g y L) (k:∀ b x,bl y = some b → At g b x → At g' b x):IsInts g' y L:=by
 rcases i with i | ⟨b,c,fix,wr,el,i1,i2,i3⟩
 ·exact .inl i
 ·subst i1
  have:=k b _ rfl ⟨i3,i2⟩
  exact .inr ⟨b,c,fix,wr,el,rfl,this.lt,this.get⟩
def CelA (ty:TypeId) (n:Int) (o:Int × List Int × List (Int × Int)) (g:TH) (c:Nat):Prop:=∃ z b1 m1 k1 b2 m2 k2,At g c (.cells [zi z,.slice b1 m1 k1,.slice b2 m2 k2] true true ty) ∧ IsInts g (.slice b1 m1 k1) o.2.1 ∧ SlL encS 2 g (.slice b2 m2 k2) o.2.2 ∧ ((o.1 ≠ 0 ∧ z = 0 ∧ o.2.1 = [] ∧ o.2.2 = []) ∨ (o.1 = 0 ∧ z = n))
theorem CelA.hx {ty:TypeId} {n:Int} {o:Int × List Int × List (Int × Int)} {g g':TH} {c:Nat} (q:CelA ty n o g c) (x:HX g g'):CelA ty n o g' c:=by
 obtain ⟨z,b1,m1,k1,b2,m2,k2,A,i,s,e⟩:=q
 exact ⟨z,b1,m1,k1,b2,m2,k2,A.hx x,i.hx x,s.hx x,e⟩
section
variable {h h0:TH} {a b n1 n2 m1 m2 e1:Int} {v1 v2 w1 w2:Value} {L1:List Int} {S1:List (Int × Int)} {o1 o2:Int × List Int × List (Int × Int)} {c3 c4 c7 c9 c14 c15:Nat}
end
end Go.Tidy
namespace Go.Tidy
open Go Go.Proofs Tab
variable {tp:TProg}
theorem holesOf_le (B:List Bool):(holesOf B).length ≤ B.length:=by
 have:=holesN_len B B.length
 show (holesN _ _).length ≤ _
 exact this
section
variable {h:TH} {a b n1 n2 p:Int} {v1 v2 w1 w2:Value} {L1 L2:List Int} {S1 S2:List (Int × Int)}
end
set_option maxRecDepth 100000 in
theorem ty_trc {h:TH} {n:Nat} {ps:List Value} (y:Ty Tryz.prog h (n + 4) 27 ps):∃ z v1 v2 L S,ps = [zi z,v1,v2] ∧ TrcH h v1 v2 L S:=by
 obtain ⟨p,q,rfl,_,y1,p',q',rfl,_,y2,p2,q2,rfl,_,y3,rfl⟩:=tyg_struct Tryz.underlying27 y
 obtain ⟨z,rfl,_⟩:=ty_int y1
 obtain ⟨v1,L,rfl,r1,g1⟩:=tyg_slice eI u29 (fun p y => by obtain ⟨b,e,_⟩:=ty_int y;exact ⟨b,e⟩) y2
 obtain ⟨v2,S,rfl,r2,_⟩:=tyg_slice eS u44 (fun p y => ty_span y) y3
 exact ⟨z,v1,v2,L,S,rfl,r1,r2,g1 3⟩
end Go.Tidy
namespace Go.Tidy
open Go Go.Proofs Tab
theorem args3 {P:Program} {h:TH} {m:Nat} {t0 t1 t2:TypeId} {us:List Value} (ha:Args P h m [t0,t1,t2] us):∃ x0 x1 x2,us = [x0,x1,x2] ∧ (∃ ps,Ty P h m t0 ps ∧ x0 = valOf P t0 ps) ∧ (∃ ps,Ty P h m t1 ps ∧ x1 = valOf P t1 ps) ∧ ∃ ps,Ty P h m t2 ps ∧ x2 = valOf P t2 ps:=by
 match us,ha with
 | [x0,x1,x2],⟨a0,a1,a2,_⟩ => exact ⟨x0,x1,x2,rfl,a0,a1,a2⟩
end Go.Tidy
namespace Go.Tidy
open Go Go.Proofs Tab
variable {tp:TProg}
theorem CelA.keep {ty:TypeId} {n:Int} {o:Int × List Int × List (Int × Int)} {g g':TH} {c:Nat} (q:CelA ty n o g c) (k:∀ b x,At g b x → At g' b x):CelA ty n o g' c:=by
 obtain ⟨z,b1,m1,k1,b2,m2,k2,A,i,s,e⟩:=q
 exact ⟨z,b1,m1,k1,b2,m2,k2,k _ _ A,i.keep fun b x _ a => k _ _ a,slC_keep s fun b x _ a => k _ _ a,e⟩
section
variable {h h0:TH} {a b n m1 m2 E1:Int} {v1 v2 w9 w16:Value} {L:List Int} {S:List (Int × Int)} {l3:List Int} {o1 o2:Int × List Int × List (Int × Int)} {c2 c3 c5 c7 c14 c15 p q:Nat}
end
end Go.Tidy
namespace Go.Tidy
open Go Go.Proofs Tab
variable {tp:TProg}
theorem out_mm {x l m:Int} (h:outB x l m = 0):l ≤ x ∧ x ≤ m:=by
 unfold outB at h
 by_cases c1:x < l
 ·rw [decide_eq_true c1] at h;cases h
 ·by_cases c2:m < x
  ·rw [decide_eq_false c1,decide_eq_true c2] at h;cases h
  ·omega
theorem arm_mul {p st:Nat} (hp:1 ≤ p):(1 - (p:Int)) * (st:Int) = -(((p - 1) * st:Nat):Int):=by
 rw [show 1 - (p:Int) = -((p - 1:Nat):Int) by omega,Int.neg_mul];rfl
section
variable {h:TH} {n a b s:Int} {v1 v2:Value} {L:List Int} {S:List (Int × Int)} {p q st:Nat}
set_option maxHeartbeats 2000000 in
set_option maxRecDepth 10000 in
theorem k1132 (H:Has tp) (r:TrcH h v1 v2 L S) (l1:L.length ≤ 900000) (t1:S.length ≤ 900000) (f:Free0 h.next h) :
  CallW Tryz.prog tp (.func (.func 32) #[] #[]) #[.agg #[zi a,zi b],zi s,trcV n v1 v2] h fun v h' => HX h h' ∧ ProgR (n - (1 - a) * s) (errV (firstNZ [chordE a b,outB s 1 32,traceE n L S]) L.length ((a.toNat + b.toNat - 2) * s.toNat)) (tapC L S (wTp a.toNat b.toNat s.toNat) (L.length - (a.toNat + b.toNat - 2) * s.toNat)) h.next h' v:=by
 refine CallW.fnL (H.fn 32 f1132 rfl rfl) ?_
 obtain ⟨b1,k1,e1,_⟩:=id r.l
 obtain ⟨b2,k2,e2,_⟩:=id r.s
 subst e1 e2
 refine WL.sr <| WOL.box rfl fun h1 N1 => WOL.box rfl fun h2 N2 => WOL.al tp1117 fun h3 N3 => WOL.as rfl <| WOL.nil <| keep [(1,_),(3,_),(5,_),(6,_)] ⟨rfl,rfl,rfl,rfl,trivial⟩ ?_
 have q1:=N1.next
 have q2:=N2.next
 have q3:=N3.next
 have A3:At h3 h.next (.cells [zi a,zi b] true true 44):=(N1.at_.hx N2.hx).hx N3.hx
 have A5:At h3 h1.next (.cells [zi n,.slice b1 L.length k1,.slice b2 S.length k2] true true 31):=N2.at_.hx N3.hx
 have A6:=N3.at_
 have X3:=(N1.hx.trans N2.hx).trans N3.hx
 refine WL.sr <| WOL.ld rfl (load_row tp1128 A3 rfl (Nat.le_of_ble_eq_true rfl)) <| WOL.mv rfl <| WOL.ld rfl (load_row tp1117 A5 rfl (Nat.le_of_ble_eq_true rfl)) ?_
 refine WOL.lk1 rfl rfl fun M => ((k1121 H a b _).mono ?_)
 rintro v h4 ⟨rfl,X4⟩
 replace X4:=X4.relock
 generalize h4.withLock h3.lock = h4 at *
 refine WOL.lk3 rfl rfl rfl rfl fun M => ((k72 H s 1 32 _).mono ?_)
 rintro v h5 ⟨rfl,rfl⟩
 rw [TH.relock]
 refine WOL.cl1 rfl rfl ((k1123 (n:=n) H (r.hx (X3.trans X4)) (by omega) (by omega) (f.on (X3.trans X4))).mono ?_)
 rintro v h5 ⟨rfl,X5⟩
 refine WOL.bsl rfl u166 tp30 (by decide) (by decide) (by decide) (filled_ints3 _ _ _) fun h6 N6 => WOL.cl1 rfl rfl ((k71 H (l:=[_,_,_]) N6.at_.get (by simp)).mono ?_)
 rintro v h6 ⟨rfl,rfl⟩
 have Z:=(X4.trans X5).trans N6.hx
 have Y:=X3.trans Z
 replace A3:=A3.hx Z;replace A5:=A5.hx Z;replace A6:=A6.hx Z
 have yn:=Y.next
 refine WOL.as rfl <| WOL.nil <| keep [(1,_),(3,_),(5,_),(6,_),(8,_)] ⟨rfl,rfl,rfl,rfl,rfl,trivial⟩ ?_
 generalize hE:firstNZ [chordE a b,outB s 1 32,traceE n L S] = E
 by_cases e0:E ≠ 0
 ·rw [errV_no e0]
  refine WL.seq <| WL.sr <| WOL.mv rfl <| WOL.bt rfl rfl rfl (bne_iff_ne.2 e0) <| WOL.nil <| WL.yes rfl <| WL.sr <| WOL.bd rfl bd1117z <| WOL.mv rfl <| WOL.sto (vs:=[zi 0,.slice none 0 0,.slice none 0 0]) rfl rfl tp1117 A6 rfl rfl (Nat.le_of_ble_eq_true rfl) rfl (f.hx Y) (by omega) fun i1 M1 => WOL.as rfl <| WOL.nil ?_
  exact WL.ret (WL.endC1 rfl rfl (load_row tp1117 M1.at_ rfl (Nat.le_of_ble_eq_true rfl)) ⟨M1.hx _ Y (by omega),.inl ⟨e0,rfl⟩⟩)
 have e0:E = 0:=Classical.not_not.1 e0
 subst e0
 have all:=firstNZ_zero hE
 obtain ⟨⟨m1,m2⟩,m3,m4,m5,m6,m7⟩:=trace_ok (all (traceE n L S) (by simp))
 obtain ⟨p1,p2,p3,p4⟩:=chord_ok (all (chordE a b) (by simp))
 obtain ⟨p5,p6⟩:=out_mm (all (outB s 1 32) (by simp))
 obtain ⟨p,rfl⟩:∃ p:Nat,a = p:=⟨a.toNat,by omega⟩
 obtain ⟨q,rfl⟩:∃ q:Nat,b = q:=⟨b.toNat,by omega⟩
 obtain ⟨st,rfl⟩:∃ st:Nat,s = st:=⟨s.toNat,by omega⟩
 rw [errV_ok,Int.toNat_natCast,Int.toNat_natCast,Int.toNat_natCast]
 have mp:=Nat.mul_le_mul (show p - 1 ≤ 31 by omega) (show st ≤ 32 by omega)
 have mw:=Nat.mul_le_mul (show p + q - 2 ≤ 62 by omega) (show st ≤ 32 by omega)
 have ea:=arm_mul (p:=p) (st:=st) (by omega)
 refine WL.seq <| WL.sr <| WOL.mv rfl <| WOL.bf rfl rfl rfl rfl <| WOL.nil <| keep [(1,_),(3,_),(5,_),(6,_),(18,_)] ⟨rfl,rfl,rfl,rfl,rfl,trivial⟩ <| WL.no rfl <| WL.skip ?_
 refine WL.sr <| WOL.ld rfl (load_row tp1117 A5 rfl (Nat.le_of_ble_eq_true rfl)) <| WOL.ld rfl (load_row tp1128 A3 rfl (Nat.le_of_ble_eq_true rfl)) <| WOL.mv rfl ?_
 have l5:=A5.lt
 refine WOL.lq2 [h1.next] rfl rfl rfl rfl fun M hM => ((k1198 (h:=h6.withLock M) (p:=p) (q:=q) (st:=st) H (by omega) (by omega) (by omega) (by omega) (by omega) ((f.on Y).held hM (fun b hb => by simp at hb;omega))).mono ?_)
 rintro v g1 ⟨Xg,c,rfl,hc,Ac⟩
 replace Xg:=Xg.relock
 replace Ac:=Ac.relock h6.lock
 generalize g1.withLock h6.lock = g1 at *
 have Yg:=Y.trans Xg
 have lD:(tapD ((1 - (p:Int)) * st) (wTp p q st)).length = p + q - 1:=by unfold tapD;rw [List.length_map,wTp_len]
 refine WOL.cl2 rfl rfl rfl ((k1193 (n:=n) (W:=(p + q - 2) * st) (c:=(1 - (p:Int)) * st) H (r.hx Yg) (SlL.own eS Ac lD) (wTaps (by omega) (by omega) (by omega) (by omega)) m3 m1 m2 (by omega) (by omega) (by omega) l1 (by omega) (holeE_in m4) (by omega) (f.on Yg)).mono ?_)
 rintro v g2 ⟨X2,R⟩
 have x2:=(Yg.trans X2).next
 have x3:=Yg.next
 have l4:=(A6.hx Xg).lt
 rcases R with ⟨heT,rfl⟩ | ⟨heT,hbT,rfl⟩ | ⟨heT,hbT,bvT,wT,rfl,hvT,toT⟩
 ·exact WOL.ex rfl rfl <| WOL.ex rfl rfl <| WOL.sto (vs:=[zi 0,.slice none 0 0,.slice none 0 0]) rfl rfl tp1117 ((A6.hx Xg).hx X2) rfl rfl (Nat.le_of_ble_eq_true rfl) rfl (f.hx (Yg.trans X2)) (by omega) fun iT MT => WOL.as rfl <| WOL.nil <| WL.ret (WL.endC1 rfl rfl (load_row tp1117 MT.at_ rfl (Nat.le_of_ble_eq_true rfl)) ⟨MT.hx _ (Yg.trans X2) (by omega),.inl ⟨heT,rfl⟩⟩)
 ·exact WOL.ex rfl rfl <| WOL.ex rfl rfl <| WOL.sto (vs:=[zi 0,.slice none 0 0,.slice none 0 0]) rfl rfl tp1117 ((A6.hx Xg).hx X2) rfl rfl (Nat.le_of_ble_eq_true rfl) rfl (f.hx (Yg.trans X2)) (by omega) fun iT MT => WOL.as rfl <| WOL.nil <| WL.ret (WL.endC1 rfl rfl (load_row tp1117 MT.at_ rfl (Nat.le_of_ble_eq_true rfl)) ⟨MT.hx _ (Yg.trans X2) (by omega),.inr (.inl ⟨heT,hbT,rfl⟩)⟩)
 ·obtain ⟨b2T,m2T,k2T,rfl⟩:=toT.form
  exact WOL.ex rfl rfl <| WOL.ex rfl rfl <| WOL.sto (vs:=[zi _,slA bvT _,.slice b2T m2T k2T]) rfl rfl tp1117 ((A6.hx Xg).hx X2) rfl rfl (Nat.le_of_ble_eq_true rfl) rfl (f.hx (Yg.trans X2)) (by omega) fun iT MT => WOL.as rfl <| WOL.nil <| WL.ret (WL.endC1 rfl rfl (load_row tp1117 MT.at_ rfl (Nat.le_of_ble_eq_true rfl)) ⟨MT.hx _ (Yg.trans X2) (by omega),.inr (.inr ⟨heT,hbT,bvT,_,rfl,by omega,(toT.put MT (by omega) (by omega)).low (by omega)⟩)⟩)
theorem k1131 (H:Has tp) (r:TrcH h v1 v2 L S) (l1:L.length ≤ 900000) (t1:S.length ≤ 900000) (f:Free0 h.next h) :
  CallW Tryz.prog tp (.func (.func 31) #[] #[]) #[.agg #[zi a,zi b],trcV n v1 v2] h fun v h' => HX h h' ∧ ProgR (n - (1 - a) * 1) (errV (firstNZ [chordE a b,outB 1 1 32,traceE n L S]) L.length ((a.toNat + b.toNat - 2) * 1)) (tapC L S (wTp a.toNat b.toNat 1) (L.length - (a.toNat + b.toNat - 2) * 1)) h.next h' v:=by
 refine CallW.fnL (H.fn 31 f1131 rfl rfl) ?_
 obtain ⟨b1,k1,e1,_⟩:=id r.l
 obtain ⟨b2,k2,e2,_⟩:=id r.s
 subst e1 e2
 refine WL.sr <| WOL.box rfl fun h1 N1 => WOL.box rfl fun h2 N2 => WOL.al tp1117 fun h3 N3 => WOL.as rfl <| WOL.nil <| keep [(2,_),(3,_),(4,_)] ⟨rfl,rfl,rfl,trivial⟩ ?_
 have q1:=N1.next
 have q2:=N2.next
 have q3:=N3.next
 have A2:At h3 h.next (.cells [zi a,zi b] true true 44):=(N1.at_.hx N2.hx).hx N3.hx
 have A3:At h3 h1.next (.cells [zi n,.slice b1 L.length k1,.slice b2 S.length k2] true true 31):=N2.at_.hx N3.hx
 have A4:=N3.at_
 have X3:=(N1.hx.trans N2.hx).trans N3.hx
 have l4:=A4.lt
 refine WL.sr <| WOL.ld rfl (load_row tp1128 A2 rfl (Nat.le_of_ble_eq_true rfl)) <| WOL.ld rfl (load_row tp1117 A3 rfl (Nat.le_of_ble_eq_true rfl)) <| WOL.cl3 rfl rfl rfl rfl ((k1132 (n:=n) (a:=a) (b:=b) (s:=1) H (r.hx X3) l1 t1 (f.on X3)).mono ?_)
 rintro v g ⟨X,R⟩
 have x1:=X3.next
 have x2:=X.next
 replace R:ProgR (n - (1 - a) * 1) (errV (firstNZ [chordE a b,outB 1 1 32,traceE n L S]) L.length ((a.toNat + b.toNat - 2) * 1)) (tapC L S (wTp a.toNat b.toNat 1) (L.length - (a.toNat + b.toNat - 2) * 1)) h3.next g v:=R
 rcases R with ⟨heT,rfl⟩ | ⟨heT,hbT,rfl⟩ | ⟨heT,hbT,bvT,wT,rfl,hvT,toT⟩
 ·exact WOL.ex rfl rfl <| WOL.ex rfl rfl <| WOL.sto (vs:=[zi 0,.slice none 0 0,.slice none 0 0]) rfl rfl tp1117 (A4.hx X) rfl rfl (Nat.le_of_ble_eq_true rfl) rfl (f.hx (X3.trans X)) (by omega) fun iT MT => WOL.as rfl <| WOL.nil <| WL.ret (WL.endC1 rfl rfl (load_row tp1117 MT.at_ rfl (Nat.le_of_ble_eq_true rfl)) ⟨MT.hx _ (X3.trans X) (by omega),.inl ⟨heT,rfl⟩⟩)
 ·exact WOL.ex rfl rfl <| WOL.ex rfl rfl <| WOL.sto (vs:=[zi 0,.slice none 0 0,.slice none 0 0]) rfl rfl tp1117 (A4.hx X) rfl rfl (Nat.le_of_ble_eq_true rfl) rfl (f.hx (X3.trans X)) (by omega) fun iT MT => WOL.as rfl <| WOL.nil <| WL.ret (WL.endC1 rfl rfl (load_row tp1117 MT.at_ rfl (Nat.le_of_ble_eq_true rfl)) ⟨MT.hx _ (X3.trans X) (by omega),.inr (.inl ⟨heT,hbT,rfl⟩)⟩)
 ·obtain ⟨b2T,m2T,k2T,rfl⟩:=toT.form
  exact WOL.ex rfl rfl <| WOL.ex rfl rfl <| WOL.sto (vs:=[zi _,slA bvT _,.slice b2T m2T k2T]) rfl rfl tp1117 (A4.hx X) rfl rfl (Nat.le_of_ble_eq_true rfl) rfl (f.hx (X3.trans X)) (by omega) fun iT MT => WOL.as rfl <| WOL.nil <| WL.ret (WL.endC1 rfl rfl (load_row tp1117 MT.at_ rfl (Nat.le_of_ble_eq_true rfl)) ⟨MT.hx _ (X3.trans X) (by omega),.inr (.inr ⟨heT,hbT,bvT,_,rfl,by omega,(toT.put MT (by omega) (by omega)).low (by omega)⟩)⟩)
end
end Go.Tidy
namespace Go.Tidy
open Go Go.Proofs Tab
variable {tp:TProg}
def bw (s l i:Nat):Int:=if l ≤ i + s ∧ i ≤ l + s then -(2 * (s:Int) + 1) + (2 * (l:Int) + 1) else -(2 * (s:Int) + 1)
section
variable {h:TH} {n a b:Int} {v1 v2:Value} {L:List Int} {S:List (Int × Int)} {s l:Nat}
end
end Go.Tidy
namespace Go.Tidy
open Go Go.Proofs Tab
variable {tp:TProg}
section
variable {P:Program} {h:TH} {K:Regs → TH → Prop} {rest:List TOper} {d:Option Tmp} {ty:TypeId} {i:Nat} {x y:Operand} {t u:TypeId} {L:Rg}
end
section
variable {p q:Nat} {E:List Int} {C:List (Int × Bool)} {j:Nat} {H:List (Int × Bool)}
def HFine (H:List (Int × Bool)):Prop:=∀ c,c ∈ H → (c.2 = true → largeB c.1 = false) ∧ (c.2 = false → c.1 = 0)
theorem HFine.lim {H:List (Int × Bool)} (f:HFine H) (i:Nat):-1073741824 ≤ (H.getD i (0,false)).1 ∧ (H.getD i (0,false)).1 ≤ 1073741824:=by
  rw [List.getD_eq_getElem?_getD]
  cases hi:H[i]? with
  | none => decide
  | some c =>
    obtain ⟨f1,f2⟩:=f c (List.mem_of_getElem? hi)
    show -1073741824 ≤ c.1 ∧ c.1 ≤ 1073741824
    cases hc:c.2 with
    | false => rw [f2 hc];decide
    | true =>
      have:=f1 hc
      unfold largeB readE at this
      have h0:outB c.1 (-1073741824) 1073741824 = 0:=by
        by_cases q:outB c.1 (-1073741824) 1073741824 = 0
        · exact q
        · rw [bne_iff_ne.2 q] at this;cases this
      exact out_mm h0
theorem HFine.val {H:List (Int × Bool)} (f:HFine H):valC H = H.map fun c => c.1:=by
 unfold valC
 refine List.map_congr_left fun c hc => ?_
 cases h:c.2 with
 | true => rfl
 | false => rw [(f c hc).2 h];rfl
end
section
variable {α:Type} {l:List α} {z x:α} {m:Nat}
end
section
variable {h:TH} {n:Int} {p q:Nat} {L E:List Int} {S:List (Int × Int)} {rv rk hv hk:Nat}
end
end Go.Tidy
namespace Go.Tidy
open Go Go.Proofs Tab
variable {tp:TProg}
theorem TrcO.relock {n0 bv:Nat} {g:TH} {w:Value} {L:List Int} {S:List (Int × Int)} (r:TrcO n0 g bv w L S) (M:List Nat):TrcO n0 (g.withLock M) bv w L S:=⟨r.v.relock _,r.s.keep fun z y hz a => a.relock _⟩
section
variable {h:TH} {n n' a b:Int} {v1 v2 w1 w2:Value} {L L':List Int} {S S':List (Int × Int)}
end
end Go.Tidy
namespace Go.Tidy
open Go Go.Proofs Tab
variable {tp:TProg}
section
variable {h:TH} {n n':Int} {p q:Nat} {v1 v2 w1 w2:Value} {L L':List Int} {S S':List (Int × Int)}
theorem knownL_getD {S:List (Int × Int)} {m i:Nat} (hi:i < m):(knownL S m).getD i false = knownB S (i:Nat):=by
 rw [List.getD_eq_getElem?_getD,knownL_get hi];rfl
end
end Go.Tidy
namespace Go.Tidy
open Go Go.Proofs Tab
variable {tp:TProg}
section
variable {h0 h:TH} {n:Int} {b1 b2:Option Addr} {k1 k2 cb:Nat} {L:List Int} {S:List (Int × Int)} {T:Int}
set_option maxHeartbeats 4000000 in
set_option maxRecDepth 10000 in
theorem k1117bw (H:Has tp) (r:TrcH h (.slice b1 L.length k1) (.slice b2 S.length k2) L S) (hL:L.length ≤ 900000) (f:Free0 h.next h) (X0:HX h0 h) (A1:At h cb (.cells [zi n,.slice b1 L.length k1,.slice b2 S.length k2] true true 27)) (eT:T = cond (holeE L.length (-1) S != 0) (holeE L.length (-1) S) (formE L S)) :
    ∀ a,Kn [(1,ptr cb)] a → W Tryz.prog tp false cd1117b a h (Fin Tryz.prog [.tmp 2] fun v h' => v = zi T ∧ HX h0 h'):=by
  have l1:=A1.lt
  unfold cd1117b
  refine WL.seq <| WL.sr <| WOL.as rfl <| WOL.nil <| keep [(1,_),(6,_)] ⟨rfl,rfl,trivial⟩ ?_
  refine WL.forz (α:=Int) S.length (fun j prev g => HX h g ∧ holeE L.length (-1) S = holeE L.length prev (S.drop j) ∧ (((j:Nat):Int) ≤ prev + 1 ∧ prev ≤ (L.length:Nat)) ∧ ((j = 0 ∧ prev = -1) ∨ (0 < j ∧ ∃ q,S[j - 1]? = some q ∧ q.2 = prev))) (fun j _ => [(1,ptr cb),(6,zi (j:Nat))]) (fun j _ => [(1,ptr cb),(6,zi (j:Nat))]) (-1) ⟨HX.refl _,rfl,⟨by omega,by omega⟩,.inl ⟨rfl,rfl⟩⟩ ⟨rfl,rfl,trivial⟩ ?_ ?_ (fun _ _ _ => ⟨rfl,rfl,trivial⟩) ?_ ?_
  · rintro j _ g hj ⟨X,_,_,_⟩
    exact WOL.mv rfl <| WOL.fa rfl (fa_of fo1114_2) <| WOL.ld rfl (load_one tp44 (A1.hx X) rfl) <| WOL.len rfl (r.s.hx X) u44 <| WOL.bi rfl rfl rfl <| WOL.nil fun a q => ⟨rfl,q.sub ⟨rfl,rfl,rfl,trivial⟩⟩
  · rintro j pv g hj hH
    have hb:=hH.2.2.1
    exact WOL.mv rfl <| WOL.inc rfl (by omega) <| WOL.as rfl <| WOL.nil fun a q => ⟨hH,q.sub ⟨rfl,rfl,trivial⟩⟩
  · rintro j prev g hj ⟨X,hE,hbd,hprev⟩
    have hp:S[j]? = some S[j]:=List.getElem?_eq_getElem hj
    have hd:S.drop j = S[j] :: S.drop (j + 1):=List.drop_eq_getElem_cons hj
    generalize S[j] = p at hp hd
    obtain ⟨p1,p2⟩:=p
    rw [hd,holeE_cons] at hE
    obtain ⟨b,o,cc,fix,wr,el,g1,g2,g3,g4,g5⟩:=(r.s.hx X).at eS u44 tp48 hp .i64
    have A1':=A1.hx X
    refine WL.sr <| WOL.fa rfl (fa_of fo1114_2) <| WOL.ld rfl (load_one tp44 A1' rfl) <| WOL.mv rfl <| WOL.ix rfl rfl g1 <| WOL.ld rfl (load_row tp48 g2 g4 g3) <| WOL.al tp48 fun i1 M1 => ?_
    refine WOL.sto (vs:=encS (p1,p2)) rfl rfl tp48 M1.at_ rfl rfl (Nat.le_of_ble_eq_true rfl) rfl (f.hx (X.trans M1.hx)) X.next fun i2 M2 => ?_
    have A7:At i2 g.next (.cells [zi p1,zi p2] true true 103):=M2.at_
    have XI:HX g i2:=M2.hx _ M1.hx (Nat.le_refl _)
    have r2:=r.hx (X.trans XI)
    replace A1':=A1'.hx XI
    have Z:=X0.trans (X.trans XI)
    refine WOL.nil <| keep [(1,_),(6,_),(7,_)] ⟨rfl,rfl,rfl,trivial⟩ ?_
    by_cases c1:p1 < 0
    · rw [show badS L.length (p1,p2) = true by unfold badS;rw [decide_eq_true c1];rfl] at hE
      replace hE:holeE L.length (-1) S = 14:=hE
      refine WL.seq <| WL.sr ?_
      repeat' (first
    | (refine WOL.fa rfl (fa_of fo48_0) ?_)
    | (refine WOL.fa rfl (fa_of fo48_1) ?_)
    | (refine WOL.fa rfl (fa_of fo1114_1) ?_)
    | (refine WOL.ld rfl (load_one tp3 A7 rfl) ?_)
    | (refine WOL.ld rfl (load_one tp29 A1' rfl) ?_)
    | (refine WOL.len rfl r2.l u29 ?_)
    | (refine WOL.bt rfl rfl rfl (by first | exact decide_eq_true (by omega) | exact beq_iff_eq.2 (by omega) | exact bne_iff_ne.2 (by omega)) ?_)
    | refine WOL.now (b:=true) rfl rfl ?_ | refine WOL.now (b:=false) rfl rfl ?_
    | refine WOL.skp (b:=true) rfl rfl ?_ | refine WOL.skp (b:=false) rfl rfl ?_ | refine WOL.gu rfl rfl ?_
    | refine WOL.mv rfl ?_ | refine WOL.as rfl ?_
    | refine WOL.bi rfl rfl rfl ?_ | refine WOL.nt rfl ?_
    | refine WOL.pkt rfl rfl ?_ | refine WOL.pkf rfl rfl ?_)
      refine WOL.nil <| keep [(74,_)] ⟨rfl,trivial⟩ ?_
      refine WL.yes rfl <| WL.sr <| WOL.as rfl <| WOL.nil ?_
      exact WL.ret (WL.end_ rfl ⟨by rw [eT,hE];rfl,Z⟩)
    by_cases c2:p2 ≤ p1
    · rw [show badS L.length (p1,p2) = true by unfold badS;rw [decide_eq_false c1,decide_eq_true c2];rfl] at hE
      replace hE:holeE L.length (-1) S = 14:=hE
      refine WL.seq <| WL.sr ?_
      repeat' (first
    | (refine WOL.fa rfl (fa_of fo48_0) ?_)
    | (refine WOL.fa rfl (fa_of fo48_1) ?_)
    | (refine WOL.fa rfl (fa_of fo1114_1) ?_)
    | (refine WOL.ld rfl (load_one tp3 A7 rfl) ?_)
    | (refine WOL.ld rfl (load_one tp29 A1' rfl) ?_)
    | (refine WOL.len rfl r2.l u29 ?_)
    | (refine WOL.bf rfl rfl rfl (by first | exact decide_eq_false (by omega) | exact beq_eq_false_iff_ne.2 (by omega) | exact bne_eq_false_iff_eq.2 (by omega)) ?_)
    | (refine WOL.bt rfl rfl rfl (by first | exact decide_eq_true (by omega) | exact beq_iff_eq.2 (by omega) | exact bne_iff_ne.2 (by omega)) ?_)
    | refine WOL.now (b:=true) rfl rfl ?_ | refine WOL.now (b:=false) rfl rfl ?_
    | refine WOL.skp (b:=true) rfl rfl ?_ | refine WOL.skp (b:=false) rfl rfl ?_ | refine WOL.gu rfl rfl ?_
    | refine WOL.mv rfl ?_ | refine WOL.as rfl ?_
    | refine WOL.bi rfl rfl rfl ?_ | refine WOL.nt rfl ?_
    | refine WOL.pkt rfl rfl ?_ | refine WOL.pkf rfl rfl ?_)
      refine WOL.nil <| keep [(74,_)] ⟨rfl,trivial⟩ ?_
      refine WL.yes rfl <| WL.sr <| WOL.as rfl <| WOL.nil ?_
      exact WL.ret (WL.end_ rfl ⟨by rw [eT,hE];rfl,Z⟩)
    by_cases c3:(L.length:Int) < p2
    · rw [show badS L.length (p1,p2) = true by unfold badS;rw [decide_eq_false c1,decide_eq_false c2,decide_eq_true c3];rfl] at hE
      replace hE:holeE L.length (-1) S = 14:=hE
      refine WL.seq <| WL.sr ?_
      repeat' (first
    | (refine WOL.fa rfl (fa_of fo48_0) ?_)
    | (refine WOL.fa rfl (fa_of fo48_1) ?_)
    | (refine WOL.fa rfl (fa_of fo1114_1) ?_)
    | (refine WOL.ld rfl (load_one tp3 A7 rfl) ?_)
    | (refine WOL.ld rfl (load_one tp29 A1' rfl) ?_)
    | (refine WOL.len rfl r2.l u29 ?_)
    | (refine WOL.bf rfl rfl rfl (by first | exact decide_eq_false (by omega) | exact beq_eq_false_iff_ne.2 (by omega) | exact bne_eq_false_iff_eq.2 (by omega)) ?_)
    | (refine WOL.bt rfl rfl rfl (by first | exact decide_eq_true (by omega) | exact beq_iff_eq.2 (by omega) | exact bne_iff_ne.2 (by omega)) ?_)
    | refine WOL.now (b:=true) rfl rfl ?_ | refine WOL.now (b:=false) rfl rfl ?_
    | refine WOL.skp (b:=true) rfl rfl ?_ | refine WOL.skp (b:=false) rfl rfl ?_ | refine WOL.gu rfl rfl ?_
    | refine WOL.mv rfl ?_ | refine WOL.as rfl ?_
    | refine WOL.bi rfl rfl rfl ?_ | refine WOL.nt rfl ?_
    | refine WOL.pkt rfl rfl ?_ | refine WOL.pkf rfl rfl ?_)
      refine WOL.nil <| keep [(74,_)] ⟨rfl,trivial⟩ ?_
      refine WL.yes rfl <| WL.sr <| WOL.as rfl <| WOL.nil ?_
      exact WL.ret (WL.end_ rfl ⟨by rw [eT,hE];rfl,Z⟩)
    rw [show badS L.length (p1,p2) = false by unfold badS;rw [decide_eq_false c1,decide_eq_false c2,decide_eq_false c3];rfl] at hE
    replace hE:holeE L.length (-1) S = cond (decide (p1 ≤ prev)) 11 (holeE L.length p2 (S.drop (j + 1))):=hE
    refine WL.seq <| WL.sr ?_
    repeat' (first
    | (refine WOL.fa rfl (fa_of fo48_0) ?_)
    | (refine WOL.fa rfl (fa_of fo48_1) ?_)
    | (refine WOL.fa rfl (fa_of fo1114_1) ?_)
    | (refine WOL.ld rfl (load_one tp3 A7 rfl) ?_)
    | (refine WOL.ld rfl (load_one tp29 A1' rfl) ?_)
    | (refine WOL.len rfl r2.l u29 ?_)
    | (refine WOL.bf rfl rfl rfl (by first | exact decide_eq_false (by omega) | exact beq_eq_false_iff_ne.2 (by omega) | exact bne_eq_false_iff_eq.2 (by omega)) ?_)
    | refine WOL.now (b:=true) rfl rfl ?_ | refine WOL.now (b:=false) rfl rfl ?_
    | refine WOL.skp (b:=true) rfl rfl ?_ | refine WOL.skp (b:=false) rfl rfl ?_ | refine WOL.gu rfl rfl ?_
    | refine WOL.mv rfl ?_ | refine WOL.as rfl ?_
    | refine WOL.bi rfl rfl rfl ?_ | refine WOL.nt rfl ?_
    | refine WOL.pkt rfl rfl ?_ | refine WOL.pkf rfl rfl ?_)
    refine WOL.nil <| keep [(1,_),(6,_),(7,_),(74,_)] ⟨rfl,rfl,rfl,rfl,trivial⟩ ?_
    refine WL.no rfl <| WL.skip ?_
    have fin:p1 > prev → ∀ a,Kn [(1,ptr cb),(6,zi (j:Nat))] a → ∃ x,(HX h i2 ∧ holeE L.length (-1) S = holeE L.length x (S.drop (j + 1)) ∧ (((j + 1:Nat):Int) ≤ x + 1 ∧ x ≤ (L.length:Nat)) ∧ ((j + 1 = 0 ∧ x = -1) ∨ (0 < j + 1 ∧ ∃ q,S[j + 1 - 1]? = some q ∧ q.2 = x))) ∧ Kn [(1,ptr cb),(6,zi (j:Nat))] a:=fun hp1 a q => by
      rw [decide_eq_false (show ¬ p1 ≤ prev by omega)] at hE
      exact ⟨p2,⟨X.trans XI,hE,⟨by omega,by omega⟩,.inr ⟨by omega,(p1,p2),by rw [Nat.add_sub_cancel];exact hp,rfl⟩⟩,q⟩
    rcases hprev with ⟨rfl,rfl⟩ | ⟨hj0,q,hq,rfl⟩
    · refine WL.sr <| WOL.mv rfl <| WOL.bf rfl rfl rfl rfl <| WOL.mv rfl ?_
      repeat' (first
    | (refine WOL.mv rfl ?_)
    | refine WOL.now (b:=true) rfl rfl ?_ | refine WOL.now (b:=false) rfl rfl ?_
    | refine WOL.skp (b:=true) rfl rfl ?_ | refine WOL.skp (b:=false) rfl rfl ?_ | refine WOL.gu rfl rfl ?_
    | refine WOL.mv rfl ?_ | refine WOL.as rfl ?_
    | refine WOL.bi rfl rfl rfl ?_ | refine WOL.nt rfl ?_
    | refine WOL.pkt rfl rfl ?_ | refine WOL.pkf rfl rfl ?_)
      refine WOL.nil <| keep [(1,_),(6,_),(88,_)] ⟨rfl,rfl,rfl,trivial⟩ ?_
      exact WL.no rfl <| WL.skip <| kto (fin (by omega)) ⟨rfl,rfl,trivial⟩
    · obtain ⟨b3,o3,cc3,fix3,wr3,el3,m1,m2,m3,m4,m5⟩:=r2.s.at eS u44 tp48 hq .i64
      have m6:=m5 1 (by decide)
      replace m6:cc3[o3 + 1]? = some (zi q.2):=m6
      refine WL.sr <| WOL.mv rfl <| WOL.bt rfl rfl rfl (by first | exact decide_eq_true (by omega) | exact beq_iff_eq.2 (by omega) | exact bne_iff_ne.2 (by omega)) <| WOL.mv rfl <| WOL.now (b:=true) rfl rfl <| WOL.fa rfl (fa_of fo48_0) <| WOL.now (b:=true) rfl rfl <| WOL.ld rfl (load_one tp3 A7 rfl) <| WOL.now (b:=true) rfl rfl <| WOL.fa rfl (fa_of fo1114_2) <| WOL.now (b:=true) rfl rfl <| WOL.ld rfl (load_one tp44 A1' rfl) <| WOL.now (b:=true) rfl rfl <| WOL.mv rfl <| WOL.now (b:=true) rfl rfl <| WOL.sub (m:=((j:Nat):Int)) (n:=1) rfl rfl (by omega) (by omega) ?_
      rw [show ((j:Nat):Int) - 1 = ((j - 1:Nat):Int) by omega]
      refine WOL.now (b:=true) rfl rfl <| WOL.ix rfl rfl m1 <| WOL.now (b:=true) rfl rfl <| WOL.fa rfl (fa_of fo48_1) <| WOL.now (b:=true) rfl rfl <| WOL.ld rfl (load_one tp3 m2 m6) <| WOL.now (b:=true) rfl rfl ?_
      by_cases c4:p1 ≤ q.2
      · rw [decide_eq_true c4] at hE
        replace hE:holeE L.length (-1) S = 11:=hE
        refine WOL.bt rfl rfl rfl (by first | exact decide_eq_true (by omega) | exact beq_iff_eq.2 (by omega) | exact bne_iff_ne.2 (by omega)) <| WOL.pkt rfl rfl <| WOL.nil <| keep [(88,_)] ⟨rfl,trivial⟩ ?_
        refine WL.yes rfl <| WL.sr <| WOL.as rfl <| WOL.nil ?_
        exact WL.ret (WL.end_ rfl ⟨by rw [eT,hE];rfl,Z⟩)
      · refine WOL.bf rfl rfl rfl (by first | exact decide_eq_false (by omega) | exact beq_eq_false_iff_ne.2 (by omega) | exact bne_eq_false_iff_eq.2 (by omega)) <| WOL.pkt rfl rfl <| WOL.nil <| keep [(1,_),(6,_),(88,_)] ⟨rfl,rfl,rfl,trivial⟩ ?_
        exact WL.no rfl <| WL.skip <| kto (fin (by omega)) ⟨rfl,rfl,trivial⟩
  · rintro prev g ⟨X,hE,hbd,_⟩
    have hS:S.length ≤ 1000001:=by omega
    rw [List.drop_length] at hE
    replace hE:holeE L.length (-1) S = 0:=hE
    rw [hE] at eT
    replace eT:T = formE L S:=eT
    have hin:=holeE_in hE
    refine WL.seq <| WL.sr <| WOL.as rfl <| WOL.nil <| keep [(1,_),(8,_)] ⟨rfl,rfl,trivial⟩ ?_
    refine WL.forz (α:=Unit) L.length (fun j _ g => HX h g ∧ ∀ (i:Nat) x,i < j → L[i]? = some x → x ≠ 0 → knownB S i = true) (fun j _ => [(1,ptr cb),(8,zi (j:Nat))]) (fun j _ => [(1,ptr cb),(8,zi (j:Nat))]) () ⟨X,fun i x hi => absurd hi (by omega)⟩ ⟨rfl,rfl,trivial⟩ ?_ ?_ (fun _ _ _ => ⟨rfl,rfl,trivial⟩) ?_ ?_
    · rintro j _ g hj ⟨X,_⟩
      exact WOL.mv rfl <| WOL.fa rfl (fa_of fo1114_1) <| WOL.ld rfl (load_one tp29 (A1.hx X) rfl) <| WOL.len rfl (r.l.hx X) u29 <| WOL.bi rfl rfl rfl <| WOL.nil fun a q => ⟨rfl,q.sub ⟨rfl,rfl,rfl,trivial⟩⟩
    · rintro j _ g hj hH
      exact WOL.mv rfl <| WOL.inc rfl (by omega) <| WOL.as rfl <| WOL.nil fun a q => ⟨hH,q.sub ⟨rfl,rfl,trivial⟩⟩
    · rintro j _ g hj ⟨X,hz⟩
      have hp:L[j]? = some L[j]:=List.getElem?_eq_getElem hj
      generalize L[j] = x at hp
      obtain ⟨b,o,cc,fix,wr,el,g1,g2,g3,g4,g5⟩:=(r.l.hx X).at eI u29 tp3 hp .i64
      have A1':=A1.hx X
      refine WL.sr <| WOL.fa rfl (fa_of fo1114_1) <| WOL.ld rfl (load_one tp29 A1' rfl) <| WOL.mv rfl <| WOL.ix rfl rfl g1 <| WOL.ld rfl (load_one tp3 g2 (by have:=g5 0 (by decide);rwa [Nat.add_zero] at this)) ?_
      by_cases c0:x = 0
      · refine WOL.bf rfl rfl rfl (bne_eq_false_iff_eq.2 c0) <| WOL.mv rfl ?_
        refine WOL.skp (b:=false) rfl rfl <| WOL.skp (b:=false) rfl rfl <| WOL.skp (b:=false) rfl rfl <| WOL.skp (b:=false) rfl rfl <| WOL.pkf rfl rfl <| WOL.nil <| keep [(1,_),(8,_),(107,_)] ⟨rfl,rfl,rfl,trivial⟩ ?_
        refine WL.no rfl <| WL.skip fun a q => ⟨(),⟨X,fun i y hi hy hne => ?_⟩,q.sub ⟨rfl,rfl,trivial⟩⟩
        by_cases e:i = j
        · subst e
          rw [hp] at hy
          cases hy
          exact absurd c0 hne
        · exact hz i y (by omega) hy hne
      · refine WOL.bt rfl rfl rfl (bne_iff_ne.2 c0) <| WOL.mv rfl <| WOL.now (b:=true) rfl rfl <| WOL.ld rfl (load_row tp1114 A1' rfl (Nat.le_of_ble_eq_true rfl)) <| WOL.now (b:=true) rfl rfl <| WOL.mv rfl <| WOL.now (b:=true) rfl rfl ?_
        refine WOL.cl2 rfl rfl rfl ((k1154 H (r.s.hx X) (by omega)).mono ?_)
        rintro v g3 ⟨rfl,X3⟩
        refine WOL.now (b:=true) rfl rfl <| WOL.nt rfl <| WOL.pkt rfl rfl <| WOL.nil <| keep [(1,_),(8,_),(107,_)] ⟨rfl,rfl,rfl,trivial⟩ ?_
        cases hk:knownB S ((j:Nat):Int) with
        | true =>
          refine WL.no rfl <| WL.skip fun a q => ⟨(),⟨X.trans X3,fun i y hi hy hne => ?_⟩,q.sub ⟨rfl,rfl,trivial⟩⟩
          by_cases e:i = j
          · subst e;exact hk
          · exact hz i y (by omega) hy hne
        | false =>
          refine WL.yes rfl <| WL.sr <| WOL.as rfl <| WOL.nil ?_
          refine WL.ret (WL.end_ rfl ⟨?_,X0.trans (X.trans X3)⟩)
          rw [eT]
          unfold formE
          rw [(form_iff hin).2 ⟨j,x,hp,c0,hk⟩]
          rfl
    · rintro _ g ⟨X,hz⟩
      refine WL.sr <| WOL.as rfl <| WOL.nil ?_
      refine WL.ret (WL.end_ rfl ⟨?_,X0.trans X⟩)
      rw [eT]
      unfold formE
      cases hf:S.any (anyIn L) with
      | false => rfl
      | true =>
        obtain ⟨j,x,q1,q2,q3⟩:=(form_iff hin).1 hf
        rw [hz j x (List.getElem?_eq_some_iff.1 q1).1 q1 q2] at q3
        cases q3
end
section
variable {h:TH} {n:Int} {v1 v2:Value} {L:List Int} {S:List (Int × Int)}
set_option maxHeartbeats 4000000 in
set_option maxRecDepth 10000 in
theorem k1117w (H:Has tp) (r:TrcH h v1 v2 L S) (f:Free0 h.next h):CallW Tryz.prog tp (.func (.func 16) #[] #[]) #[trcV n v1 v2] h fun v h' => v = zi (traceE n L S) ∧ HX h h':=by
  obtain ⟨b1,k1,e1,_⟩:=id r.l
  obtain ⟨b2,k2,e2,_⟩:=id r.s
  subst e1 e2
  refine CallW.fnL (H.fn 16 f1117 rfl rfl) ?_
  refine WL.sr <| WOL.box rfl fun h1 N1 => WOL.as rfl <| WOL.nil <| keep [(1,_)] ⟨rfl,trivial⟩ ?_
  have A1:At h1 h.next (.cells [zi n,.slice b1 L.length k1,.slice b2 S.length k2] true true 27):=N1.at_
  have X1:=N1.hx
  replace r:=r.hx X1
  have n1:=N1.next
  refine WL.seq <| WL.sr <| WOL.fa rfl (fa_of fo1114_0) <| WOL.ld rfl (load_one tp3 A1 rfl) <| WOL.fa rfl (fa_of fo1114_1) <| WOL.ld rfl (load_one tp29 A1 rfl) <| WOL.len rfl r.l u29 <| WOL.bi (v:=.bool (decide ((L.length:Int) > 4096))) rfl rfl rfl ?_
  refine WOL.lk3 rfl rfl rfl rfl fun M => ((k14 H n 0 100000000 _).mono ?_)
  rintro v h2 ⟨rfl,rfl⟩
  rw [TH.relock]
  refine WOL.cl2 rfl rfl rfl ((k32 H _ _ _).mono ?_)
  rintro v h3 ⟨rfl,rfl⟩
  refine WOL.bsl rfl u29 tp3 (by decide) (by decide) (by decide) (filled_ints _ _) fun h4 N4 => ?_
  refine WOL.cl1 rfl rfl ((k13 H (l:=[_,_]) N4.at_.get (by simp)).mono ?_)
  rintro v h5 ⟨rfl,rfl⟩
  replace A1:=A1.hx N4.hx
  replace r:=r.hx N4.hx
  have X4:=X1.trans N4.hx
  have x4:=X4.next
  refine WOL.as rfl <| WOL.nil <| keep [(1,_),(3,_)] ⟨rfl,rfl,trivial⟩ ?_
  have eT:traceE n L S = cond (firstNZ [outB n 0 100000000,cond (decide ((L.length:Int) > 4096)) 5 0] != 0) (firstNZ [outB n 0 100000000,cond (decide ((L.length:Int) > 4096)) 5 0]) (firstNZ [cond (decide (n + (L.length:Int) > 100000000)) 4 0,firstNZ (L.map readE),cond (holeE L.length (-1) S != 0) (holeE L.length (-1) S) (formE L S)]):=first_head
  by_cases e0:firstNZ [outB n 0 100000000,cond (decide ((L.length:Int) > 4096)) 5 0] ≠ 0
  · refine WL.sr <| WOL.mv rfl <| WOL.bt rfl rfl rfl (bne_iff_ne.2 e0) <| WOL.nil <| keep [(3,_),(20,_)] ⟨rfl,rfl,trivial⟩ ?_
    refine WL.yes rfl <| WL.sr <| WOL.mv rfl <| WOL.as rfl <| WOL.nil ?_
    exact WL.ret (WL.end_ rfl ⟨by rw [eT,bne_iff_ne.2 e0];rfl,X4⟩)
  have e0:firstNZ [outB n 0 100000000,cond (decide ((L.length:Int) > 4096)) 5 0] = 0:=Classical.not_not.1 e0
  have hL:L.length ≤ 900000:=by
    have:=firstNZ_zero e0 (cond (decide ((L.length:Int) > 4096)) 5 0) (by simp)
    by_cases c:(L.length:Int) > 4096
    · rw [decide_eq_true c] at this;cases this
    · omega
  rw [e0] at eT
  replace eT:traceE n L S = firstNZ [cond (decide (n + (L.length:Int) > 100000000)) 4 0,firstNZ (L.map readE),cond (holeE L.length (-1) S != 0) (holeE L.length (-1) S) (formE L S)]:=eT
  have z1:=fst_zero e0
  obtain ⟨n0,n2⟩:=out_in z1
  refine WL.sr <| WOL.mv rfl <| WOL.bf rfl rfl rfl (bne_eq_false_iff_eq.2 e0) <| WOL.nil <| keep [(1,_),(20,_)] ⟨rfl,rfl,trivial⟩ ?_
  refine WL.no rfl <| WL.skip ?_
  by_cases e4:n + (L.length:Int) > 100000000
  · rw [decide_eq_true e4] at eT
    replace eT:traceE n L S = 4:=eT
    refine WL.seq <| WL.sr <| WOL.fa rfl (fa_of fo1114_0) <| WOL.ld rfl (load_one tp3 A1 rfl) <| WOL.fa rfl (fa_of fo1114_1) <| WOL.ld rfl (load_one tp29 A1 rfl) <| WOL.len rfl r.l u29 <| WOL.add (m:=n) (n:=((L.length:Nat):Int)) rfl rfl (by omega) (by omega) <| WOL.bt rfl rfl rfl (by first | exact decide_eq_true (by omega) | exact beq_iff_eq.2 (by omega) | exact bne_iff_ne.2 (by omega)) <| WOL.nil <| keep [(28,_)] ⟨rfl,trivial⟩ ?_
    refine WL.yes rfl <| WL.sr <| WOL.as rfl <| WOL.nil ?_
    exact WL.ret (WL.end_ rfl ⟨by rw [eT];rfl,X4⟩)
  rw [decide_eq_false e4] at eT
  replace eT:traceE n L S = firstNZ [firstNZ (L.map readE),cond (holeE L.length (-1) S != 0) (holeE L.length (-1) S) (formE L S)]:=eT
  refine WL.seq <| WL.sr <| WOL.fa rfl (fa_of fo1114_0) <| WOL.ld rfl (load_one tp3 A1 rfl) <| WOL.fa rfl (fa_of fo1114_1) <| WOL.ld rfl (load_one tp29 A1 rfl) <| WOL.len rfl r.l u29 <| WOL.add (m:=n) (n:=((L.length:Nat):Int)) rfl rfl (by omega) (by omega) <| WOL.bf rfl rfl rfl (by first | exact decide_eq_false (by omega) | exact beq_eq_false_iff_ne.2 (by omega) | exact bne_eq_false_iff_eq.2 (by omega)) <| WOL.nil <| keep [(1,_),(28,_)] ⟨rfl,rfl,trivial⟩ ?_
  refine WL.no rfl <| WL.skip ?_
  -- the readings
  refine WL.seq <| WL.sr <| WOL.as rfl <| WOL.nil <| keep [(1,_),(4,_)] ⟨rfl,rfl,trivial⟩ ?_
  refine WL.forz (α:=Unit) L.length (fun j _ g => g = h5 ∧ ∀ i,i < j → (L.map readE).getD i 0 = 0) (fun j _ => [(1,ptr h.next),(4,zi (j:Nat))]) (fun j _ => [(1,ptr h.next),(4,zi (j:Nat))]) () ⟨rfl,fun i hi => absurd hi (by omega)⟩ ⟨rfl,rfl,trivial⟩ ?_ ?_ (fun _ _ _ => ⟨rfl,rfl,trivial⟩) ?_ ?_
  · rintro j _ g hj ⟨rfl,hz⟩
    exact WOL.mv rfl <| WOL.fa rfl (fa_of fo1114_1) <| WOL.ld rfl (load_one tp29 A1 rfl) <| WOL.len rfl r.l u29 <| WOL.bi rfl rfl rfl <| WOL.nil fun a q => ⟨rfl,q.sub ⟨rfl,rfl,rfl,trivial⟩⟩
  · rintro j _ g hj hH
    exact WOL.mv rfl <| WOL.inc rfl (by omega) <| WOL.as rfl <| WOL.nil fun a q => ⟨hH,q.sub ⟨rfl,rfl,trivial⟩⟩
  · rintro j _ g hj ⟨rfl,hz⟩
    have hp:L[j]? = some L[j]:=List.getElem?_eq_getElem hj
    generalize L[j] = x at hp
    obtain ⟨b,o,cc,fix,wr,el,g1,g2,g3,g4,g5⟩:=r.l.at eI u29 tp3 hp .i64
    have he:(L.map readE)[j]? = some (readE x):=by rw [List.getElem?_map,hp];rfl
    refine WL.sr <| WOL.fa rfl (fa_of fo1114_1) <| WOL.ld rfl (load_one tp29 A1 rfl) <| WOL.mv rfl <| WOL.ix rfl rfl g1 <| WOL.ld rfl (load_one tp3 g2 (by have:=g5 0 (by decide);rwa [Nat.add_zero] at this)) <| WOL.cl1 rfl rfl ((k1187 H x _).mono ?_)
    rintro w g' ⟨rfl,rfl⟩
    refine WOL.as rfl <| WOL.nil <| keep [(1,_),(4,_),(5,_)] ⟨rfl,rfl,rfl,trivial⟩ ?_
    by_cases h0:readE x = 0
    · refine WL.sr <| WOL.mv rfl <| WOL.bf rfl rfl rfl (bne_eq_false_iff_eq.2 h0) <| WOL.nil <| keep [(1,_),(4,_),(43,_)] ⟨rfl,rfl,rfl,trivial⟩ ?_
      refine WL.no rfl <| WL.skip fun a q => ⟨(),⟨rfl,fun i hi => ?_⟩,q.sub ⟨rfl,rfl,trivial⟩⟩
      by_cases e:i = j
      · subst e
        rw [List.getD_eq_getElem?_getD,he]
        exact h0
      · exact hz i (by omega)
    · refine WL.sr <| WOL.mv rfl <| WOL.bt rfl rfl rfl (bne_iff_ne.2 h0) <| WOL.nil <| keep [(5,_),(43,_)] ⟨rfl,rfl,trivial⟩ ?_
      refine WL.yes rfl <| WL.sr <| WOL.mv rfl <| WOL.as rfl <| WOL.nil ?_
      refine WL.ret (WL.end_ rfl ⟨?_,X4⟩)
      rw [eT,fNZ_at hz he h0]
      show zi _ = zi (cond (readE x != 0) (readE x) _)
      rw [bne_iff_ne.2 h0];rfl
  rintro _ g ⟨rfl,hz⟩
  rw [fNZ_all (fun i hi => hz i (by rw [List.length_map] at hi;exact hi))] at eT
  replace eT:traceE n L S = firstNZ [cond (holeE L.length (-1) S != 0) (holeE L.length (-1) S) (formE L S)]:=eT
  rw [first_one] at eT
  exact kto (M:=[(1,ptr h.next)]) (k1117bw H r (by omega) (f.on X4) X4 A1 eT) ⟨rfl,trivial⟩
end
end Go.Tidy
namespace Go.Tidy
open Go Go.Proofs Tab
variable {tp:TProg}
section
variable {h:TH} {n a b:Int} {v1 v2 w1 w2:Value} {L L':List Int} {S S':List (Int × Int)}
set_option maxHeartbeats 4000000 in
set_option maxRecDepth 10000 in
theorem k1149 (H:Has tp) (r:TrcH h v1 v2 L S) (f:Free0 h.next h) :
    CallW Tryz.prog tp (.func (.func 52) #[] #[]) #[.agg #[zi a,zi b],trcV n v1 v2] h fun v h' => HX h h' ∧ ∃ ok,v = .bool ok ∧ (ok = true → chordE a b = 0 ∧ traceE n L S = 0 ∧ L.length ≤ 60 ∧ a + b < (L.length:Int) ∧ ∀ j,-20000 ≤ L.getD j 0 ∧ L.getD j 0 ≤ 20000):=by
  refine CallW.fnL (H.fn 52 f1149 rfl rfl) ?_
  obtain ⟨b1,k1,e1,_⟩:=id r.l
  obtain ⟨b2,k2,e2,_⟩:=id r.s
  subst e1 e2
  refine WL.sr <| WOL.box rfl fun h1 N1 => WOL.box rfl fun h2 N2 => WOL.as rfl <| WOL.nil <| keep [(2,_),(3,_)] ⟨rfl,rfl,trivial⟩ ?_
  have q1:=N1.next
  have q2:=N2.next
  have A2:At h2 h.next (.cells [zi a,zi b] true true 23):=N1.at_.hx N2.hx
  have A3:At h2 h1.next (.cells [zi n,.slice b1 L.length k1,.slice b2 S.length k2] true true 27):=N2.at_
  have X2:=N1.hx.trans N2.hx
  refine WL.seq <| WL.sr <| WOL.ld rfl (load_row tp1112 A2 rfl (Nat.le_of_ble_eq_true rfl)) <| WOL.cl1 rfl rfl ((k1122 H a b _).mono ?_)
  rintro v h3 ⟨rfl,X3⟩
  have Y3:=X2.trans X3
  have no:∀ g,HX h g → HX h g ∧ ∃ ok,Value.bool false = .bool ok ∧ (ok = true → chordE a b = 0 ∧ traceE n L S = 0 ∧ L.length ≤ 60 ∧ a + b < (L.length:Int) ∧ ∀ j,-20000 ≤ L.getD j 0 ∧ L.getD j 0 ≤ 20000):=fun g X => ⟨X,false,rfl,fun c => by cases c⟩
  by_cases e1:chordE a b = 0
  · obtain ⟨p1,p2,p3,p4⟩:=chord_ok e1
    refine WOL.bf rfl rfl rfl (bne_eq_false_iff_eq.2 e1) <| WOL.mv rfl <| WOL.now (b:=false) rfl rfl <| WOL.ld rfl (load_row tp1114 (A3.hx X3) rfl (Nat.le_of_ble_eq_true rfl)) <| WOL.now (b:=false) rfl rfl <| WOL.cl1 rfl rfl ((k1117w (n:=n) H (r.hx Y3) (f.on Y3)).mono ?_)
    rintro v h4 ⟨rfl,X4⟩
    have Y4:=Y3.trans X4
    have X34:=X3.trans X4
    replace A2:=A2.hx X34;replace A3:=A3.hx X34
    have r4:=r.hx Y4
    by_cases e2:traceE n L S = 0
    · refine WOL.now (b:=false) rfl rfl <| WOL.bf rfl rfl rfl (bne_eq_false_iff_eq.2 e2) <| WOL.pkf rfl rfl <| WOL.mv rfl <| WOL.now (b:=false) rfl rfl <| WOL.fa rfl (fa_of fo1114_1) <| WOL.now (b:=false) rfl rfl <| WOL.ld rfl (load_one tp29 A3 rfl) <| WOL.now (b:=false) rfl rfl <| WOL.len rfl r4.l u29 <| WOL.now (b:=false) rfl rfl ?_
      by_cases e3:(L.length:Int) > 60
      · exact WOL.bt rfl rfl rfl (decide_eq_true e3) <| WOL.pkf rfl rfl <| WOL.mv rfl <| WOL.skp (b:=true) rfl rfl <| WOL.skp (b:=true) rfl rfl <| WOL.skp (b:=true) rfl rfl <| WOL.skp (b:=true) rfl rfl <| WOL.skp (b:=true) rfl rfl <| WOL.skp (b:=true) rfl rfl <| WOL.skp (b:=true) rfl rfl <| WOL.skp (b:=true) rfl rfl <| WOL.skp (b:=true) rfl rfl <| WOL.pkt rfl rfl <| WOL.nil <| WL.yes rfl <| WL.sr <| WOL.as rfl <| WOL.nil <| WL.ret (WL.end_ rfl (no _ Y4))
      · refine WOL.bf rfl rfl rfl (decide_eq_false e3) <| WOL.pkf rfl rfl <| WOL.mv rfl <| WOL.now (b:=false) rfl rfl <| WOL.fa rfl (fa_of fo1114_1) <| WOL.now (b:=false) rfl rfl <| WOL.ld rfl (load_one tp29 A3 rfl) <| WOL.now (b:=false) rfl rfl <| WOL.len rfl r4.l u29 <| WOL.now (b:=false) rfl rfl <| WOL.fa rfl (fa_of fo1112_0) <| WOL.now (b:=false) rfl rfl <| WOL.ld rfl (load_one tp3 A2 rfl) <| WOL.now (b:=false) rfl rfl <| WOL.fa rfl (fa_of fo1112_1) <| WOL.now (b:=false) rfl rfl <| WOL.ld rfl (load_one tp3 A2 rfl) <| WOL.now (b:=false) rfl rfl <| WOL.add (m:=a) (n:=b) rfl rfl (by omega) (by omega) <| WOL.now (b:=false) rfl rfl ?_
        by_cases e4:(L.length:Int) ≤ a + b
        · exact WOL.bt rfl rfl rfl (decide_eq_true e4) <| WOL.pkf rfl rfl <| WOL.nil <| WL.yes rfl <| WL.sr <| WOL.as rfl <| WOL.nil <| WL.ret (WL.end_ rfl (no _ Y4))
        · refine WOL.bf rfl rfl rfl (decide_eq_false e4) <| WOL.pkf rfl rfl <| WOL.nil <| WL.no rfl <| WL.skip <| keep [(2,_),(3,_)] ⟨rfl,rfl,trivial⟩ ?_
          refine WL.seq <| WL.sr <| WOL.fa rfl (fa_of fo1114_1) <| WOL.ld rfl (load_one tp29 A3 rfl) <| WOL.len rfl r4.l u29 <| WOL.mv rfl <| WOL.nil <| keep [(33,_),(34,_),(35,_)] ⟨rfl,rfl,rfl,trivial⟩ ?_
          refine WL.upto (α:=Unit) L.length (fun j _ g' => g' = h4 ∧ ∀ i,i < j → -20000 ≤ L.getD i 0 ∧ L.getD i 0 ≤ 20000) (fun _ _ => [(33,.slice b1 L.length k1),(34,zi (L.length:Nat))]) () rfl rfl (by omega) ⟨rfl,fun i hi => absurd hi (by omega)⟩ ⟨rfl,rfl,rfl,trivial⟩ (fun _ _ => rfl) (fun _ _ _ => ⟨rfl,rfl,rfl,trivial⟩) (fun _ _ _ => ⟨rfl,rfl,rfl,trivial⟩) ?_ ?_
          · rintro j _ g' hj ⟨rfl,hz⟩
            have hp:L[j]? = some (L.getD j 0):=by rw [List.getD_eq_getElem?_getD,List.getElem?_eq_getElem hj];rfl
            obtain ⟨_,_,cc,fix,wr,el,g1,g2,g3,g4,g5⟩:=r4.l.at eI u29 tp3 hp .i64
            have gx:=g5 0 (by decide)
            rw [Nat.add_zero] at gx
            refine WL.sr <| WOL.ix rfl rfl g1 <| WOL.ld rfl (load_one tp3 g2 gx) <| WOL.as rfl <| WOL.nil <| keep [(6,_),(33,_),(34,_),(35,_)] ⟨rfl,rfl,rfl,rfl,trivial⟩ ?_
            by_cases c1:L.getD j 0 > 20000
            · exact WL.sr <| WOL.mv rfl <| WOL.bt rfl rfl rfl (decide_eq_true c1) <| WOL.mv rfl <| WOL.skp (b:=true) rfl rfl <| WOL.skp (b:=true) rfl rfl <| WOL.pkt rfl rfl <| WOL.nil <| WL.yes rfl <| WL.sr <| WOL.as rfl <| WOL.nil <| WL.ret (WL.end_ rfl (no _ Y4))
            by_cases c2:L.getD j 0 < -20000
            · exact WL.sr <| WOL.mv rfl <| WOL.bf rfl rfl rfl (decide_eq_false c1) <| WOL.mv rfl <| WOL.now (b:=false) rfl rfl <| WOL.mv rfl <| WOL.now (b:=false) rfl rfl <| WOL.bt rfl rfl rfl (decide_eq_true c2) <| WOL.pkf rfl rfl <| WOL.nil <| WL.yes rfl <| WL.sr <| WOL.as rfl <| WOL.nil <| WL.ret (WL.end_ rfl (no _ Y4))
            · refine WL.sr <| WOL.mv rfl <| WOL.bf rfl rfl rfl (decide_eq_false c1) <| WOL.mv rfl <| WOL.now (b:=false) rfl rfl <| WOL.mv rfl <| WOL.now (b:=false) rfl rfl <| WOL.bf rfl rfl rfl (decide_eq_false c2) <| WOL.pkf rfl rfl <| WOL.nil <| WL.no rfl <| WL.skip fun y k => ⟨(),⟨rfl,fun i hi => ?_⟩,k.sub ⟨rfl,rfl,rfl,trivial⟩⟩
              by_cases e:i = j
              · subst e;omega
              · exact hz i (by omega)
          · rintro _ g' ⟨rfl,hz⟩
            refine WL.sr <| WOL.as rfl <| WOL.nil <| WL.ret (WL.end_ rfl ⟨Y4,true,rfl,fun _ => ⟨e1,e2,by omega,by omega,fun j => ?_⟩⟩)
            by_cases hj:j < L.length
            · exact hz j hj
            · rw [List.getD_eq_getElem?_getD,List.getElem?_eq_none (by omega)];decide
    · exact WOL.now (b:=false) rfl rfl <| WOL.bt rfl rfl rfl (bne_iff_ne.2 e2) <| WOL.pkf rfl rfl <| WOL.mv rfl <| WOL.skp (b:=true) rfl rfl <| WOL.skp (b:=true) rfl rfl <| WOL.skp (b:=true) rfl rfl <| WOL.skp (b:=true) rfl rfl <| WOL.pkt rfl rfl <| WOL.mv rfl <| WOL.skp (b:=true) rfl rfl <| WOL.skp (b:=true) rfl rfl <| WOL.skp (b:=true) rfl rfl <| WOL.skp (b:=true) rfl rfl <| WOL.skp (b:=true) rfl rfl <| WOL.skp (b:=true) rfl rfl <| WOL.skp (b:=true) rfl rfl <| WOL.skp (b:=true) rfl rfl <| WOL.skp (b:=true) rfl rfl <| WOL.pkt rfl rfl <| WOL.nil <| WL.yes rfl <| WL.sr <| WOL.as rfl <| WOL.nil <| WL.ret (WL.end_ rfl (no _ Y4))
  · exact WOL.bt rfl rfl rfl (bne_iff_ne.2 e1) <| WOL.mv rfl <| WOL.skp (b:=true) rfl rfl <| WOL.skp (b:=true) rfl rfl <| WOL.skp (b:=true) rfl rfl <| WOL.pkt rfl rfl <| WOL.mv rfl <| WOL.skp (b:=true) rfl rfl <| WOL.skp (b:=true) rfl rfl <| WOL.skp (b:=true) rfl rfl <| WOL.skp (b:=true) rfl rfl <| WOL.pkt rfl rfl <| WOL.mv rfl <| WOL.skp (b:=true) rfl rfl <| WOL.skp (b:=true) rfl rfl <| WOL.skp (b:=true) rfl rfl <| WOL.skp (b:=true) rfl rfl <| WOL.skp (b:=true) rfl rfl <| WOL.skp (b:=true) rfl rfl <| WOL.skp (b:=true) rfl rfl <| WOL.skp (b:=true) rfl rfl <| WOL.skp (b:=true) rfl rfl <| WOL.pkt rfl rfl <| WOL.nil <| WL.yes rfl <| WL.sr <| WOL.as rfl <| WOL.nil <| WL.ret (WL.end_ rfl (no _ Y3))
set_option maxHeartbeats 8000000 in
set_option maxRecDepth 10000 in
theorem k1151 (H:Has tp) (r1:TrcH h v1 v2 L S) (r2:TrcH h w1 w2 L' S') (e1:traceE n L S = 0) (e2:traceE n L' S' = 0) (hl:L'.length = L.length) (t1:S.length ≤ 900000) (t2:S'.length ≤ 900000) (ag:∀ i,i < L.length → knownB S (i:Nat) = true → knownB S' (i:Nat) = true → L.getD i 0 = L'.getD i 0) (f:Free0 h.next h) :
    CallW Tryz.prog tp (.func (.func 54) #[] #[]) #[trcV n v1 v2,trcV n w1 w2] h fun v h' => v = .bool true ∧ HX h h':=by
  refine CallW.fnL (H.fn 54 f1151 rfl rfl) ?_
  obtain ⟨_,_,_,_,y1,_⟩:=trace_ok e1
  obtain ⟨b1,k1,e3,_⟩:=id r1.l
  obtain ⟨b2,k2,e4,_⟩:=id r1.s
  obtain ⟨b3,k3,e5,_⟩:=id r2.l
  obtain ⟨b4,k4,e6,_⟩:=id r2.s
  subst e3 e4 e5 e6
  refine WL.sr <| WOL.box rfl fun h1 N1 => WOL.box rfl fun h2 N2 => WOL.as rfl <| WOL.nil <| keep [(2,_),(3,_)] ⟨rfl,rfl,trivial⟩ ?_
  have A2:At h2 h.next (.cells [zi n,.slice b1 L.length k1,.slice b2 S.length k2] true true 27):=N1.at_.hx N2.hx
  have A3:At h2 h1.next (.cells [zi n,.slice b3 L'.length k3,.slice b4 S'.length k4] true true 27):=N2.at_
  have X2:=N1.hx.trans N2.hx
  refine WL.seq <| WL.sr <| WOL.ld rfl (load_row tp1114 A2 rfl (Nat.le_of_ble_eq_true rfl)) <| WOL.cl1 rfl rfl ((k1117w (n:=n) H (r1.hx X2) (f.on X2)).mono ?_)
  rintro v h3 ⟨rfl,X3⟩
  have Y3:=X2.trans X3
  refine WOL.bf rfl rfl rfl (bne_eq_false_iff_eq.2 e1) <| WOL.mv rfl <| WOL.now (b:=false) rfl rfl <| WOL.ld rfl (load_row tp1114 (A3.hx X3) rfl (Nat.le_of_ble_eq_true rfl)) <| WOL.now (b:=false) rfl rfl <| WOL.cl1 rfl rfl ((k1117w (n:=n) H (r2.hx Y3) (f.on Y3)).mono ?_)
  rintro v h4 ⟨rfl,X4⟩
  have Y4:=Y3.trans X4
  have X34:=X3.trans X4
  replace A2:=A2.hx X34;replace A3:=A3.hx X34
  have s1:=r1.hx Y4
  have s2:=r2.hx Y4
  refine WOL.now (b:=false) rfl rfl <| WOL.bf rfl rfl rfl (bne_eq_false_iff_eq.2 e2) <| WOL.pkf rfl rfl <| WOL.mv rfl <| WOL.now (b:=false) rfl rfl <| WOL.fa rfl (fa_of fo1114_0) <| WOL.now (b:=false) rfl rfl <| WOL.ld rfl (load_one tp3 A2 rfl) <| WOL.now (b:=false) rfl rfl <| WOL.fa rfl (fa_of fo1114_0) <| WOL.now (b:=false) rfl rfl <| WOL.ld rfl (load_one tp3 A3 rfl) <| WOL.now (b:=false) rfl rfl <| WOL.bf rfl rfl rfl (bne_self_eq_false _) <| WOL.pkf rfl rfl <| WOL.mv rfl <| WOL.now (b:=false) rfl rfl <| WOL.fa rfl (fa_of fo1114_1) <| WOL.now (b:=false) rfl rfl <| WOL.ld rfl (load_one tp29 A2 rfl) <| WOL.now (b:=false) rfl rfl <| WOL.len rfl s1.l u29 <| WOL.now (b:=false) rfl rfl <| WOL.fa rfl (fa_of fo1114_1) <| WOL.now (b:=false) rfl rfl <| WOL.ld rfl (load_one tp29 A3 rfl) <| WOL.now (b:=false) rfl rfl <| WOL.len rfl s2.l u29 <| WOL.now (b:=false) rfl rfl <| WOL.bf rfl rfl rfl (bne_eq_false_iff_eq.2 (by omega)) <| WOL.pkf rfl rfl <| WOL.nil <| WL.no rfl <| WL.skip <| keep [(2,_),(3,_)] ⟨rfl,rfl,trivial⟩ ?_
  refine WL.seq <| WL.sr <| WOL.fa rfl (fa_of fo1114_1) <| WOL.ld rfl (load_one tp29 A2 rfl) <| WOL.len rfl s1.l u29 <| WOL.mv rfl <| WOL.nil <| keep [(2,_),(3,_),(32,_),(33,_)] ⟨rfl,rfl,rfl,rfl,trivial⟩ ?_
  refine WL.upto (α:=Unit) L.length (fun _ _ g => HX h4 g) (fun _ _ => [(2,ptr h.next),(3,ptr h1.next),(32,zi (L.length:Nat))]) () rfl rfl (by omega) (HX.refl _) ⟨rfl,rfl,rfl,rfl,trivial⟩ (fun _ _ => rfl) (fun _ _ _ => ⟨rfl,rfl,rfl,rfl,trivial⟩) (fun _ _ _ => ⟨rfl,rfl,rfl,rfl,trivial⟩) ?_ ?_
  · rintro j _ g hj G
    have ya:L[j]? = some (L.getD j 0):=by rw [List.getD_eq_getElem?_getD,List.getElem?_eq_getElem hj];rfl
    have yb:L'[j]? = some (L'.getD j 0):=by rw [List.getD_eq_getElem?_getD,List.getElem?_eq_getElem (by omega)];rfl
    have agj:=ag j hj
    refine WL.sr <| WOL.mv rfl <| WOL.as rfl <| WOL.nil <| keep [(2,_),(3,_),(5,_),(32,_),(33,_)] ⟨rfl,rfl,rfl,rfl,rfl,trivial⟩ ?_
    refine WL.sr <| WOL.ld rfl (load_row tp1114 (A2.hx G) rfl (Nat.le_of_ble_eq_true rfl)) <| WOL.mv rfl <| WOL.cl2 rfl rfl rfl ((k1154 H (s1.hx G).s (by omega)).mono ?_)
    rintro v g1 ⟨rfl,G1⟩
    have Z1:=G.trans G1
    generalize knownB S (j:Nat) = ka at *
    cases ka with
    | false =>
      exact WOL.mv rfl <| WOL.skp (b:=false) rfl rfl <| WOL.skp (b:=false) rfl rfl <| WOL.skp (b:=false) rfl rfl <| WOL.pkf rfl rfl <| WOL.mv rfl <| WOL.skp (b:=false) rfl rfl <| WOL.skp (b:=false) rfl rfl <| WOL.skp (b:=false) rfl rfl <| WOL.skp (b:=false) rfl rfl <| WOL.skp (b:=false) rfl rfl <| WOL.skp (b:=false) rfl rfl <| WOL.skp (b:=false) rfl rfl <| WOL.skp (b:=false) rfl rfl <| WOL.skp (b:=false) rfl rfl <| WOL.skp (b:=false) rfl rfl <| WOL.skp (b:=false) rfl rfl <| WOL.pkf rfl rfl <| WOL.nil <| WL.no rfl <| WL.skip fun y k => ⟨(),Z1,k.sub ⟨rfl,rfl,rfl,rfl,trivial⟩⟩
    | true =>
      refine WOL.mv rfl <| WOL.now (b:=true) rfl rfl <| WOL.ld rfl (load_row tp1114 (A3.hx Z1) rfl (Nat.le_of_ble_eq_true rfl)) <| WOL.now (b:=true) rfl rfl <| WOL.mv rfl <| WOL.now (b:=true) rfl rfl <| WOL.cl2 rfl rfl rfl ((k1154 H (s2.hx Z1).s (by omega)).mono ?_)
      rintro v g2 ⟨rfl,G2⟩
      have Z2:=Z1.trans G2
      generalize knownB S' (j:Nat) = kb at *
      cases kb with
      | false =>
        exact WOL.pkt rfl rfl <| WOL.mv rfl <| WOL.skp (b:=false) rfl rfl <| WOL.skp (b:=false) rfl rfl <| WOL.skp (b:=false) rfl rfl <| WOL.skp (b:=false) rfl rfl <| WOL.skp (b:=false) rfl rfl <| WOL.skp (b:=false) rfl rfl <| WOL.skp (b:=false) rfl rfl <| WOL.skp (b:=false) rfl rfl <| WOL.skp (b:=false) rfl rfl <| WOL.skp (b:=false) rfl rfl <| WOL.skp (b:=false) rfl rfl <| WOL.pkf rfl rfl <| WOL.nil <| WL.no rfl <| WL.skip fun y k => ⟨(),Z2,k.sub ⟨rfl,rfl,rfl,rfl,trivial⟩⟩
      | true =>
        obtain ⟨_,_,ca,fa,wa,ela,g1a,g2a,g3a,g4a,g5a⟩:=(s1.hx Z2).l.at eI u29 tp3 ya .i64
        have gxa:=g5a 0 (by decide)
        rw [Nat.add_zero] at gxa
        obtain ⟨_,_,cb,fb,wb,elb,g1b,g2b,g3b,g4b,g5b⟩:=(s2.hx Z2).l.at eI u29 tp3 yb .i64
        have gxb:=g5b 0 (by decide)
        rw [Nat.add_zero] at gxb
        exact WOL.pkt rfl rfl <| WOL.mv rfl <| WOL.now (b:=true) rfl rfl <| WOL.fa rfl (fa_of fo1114_1) <| WOL.now (b:=true) rfl rfl <| WOL.ld rfl (load_one tp29 (A2.hx Z2) rfl) <| WOL.now (b:=true) rfl rfl <| WOL.mv rfl <| WOL.now (b:=true) rfl rfl <| WOL.ix rfl rfl g1a <| WOL.now (b:=true) rfl rfl <| WOL.ld rfl (load_one tp3 g2a gxa) <| WOL.now (b:=true) rfl rfl <| WOL.fa rfl (fa_of fo1114_1) <| WOL.now (b:=true) rfl rfl <| WOL.ld rfl (load_one tp29 (A3.hx Z2) rfl) <| WOL.now (b:=true) rfl rfl <| WOL.mv rfl <| WOL.now (b:=true) rfl rfl <| WOL.ix rfl rfl g1b <| WOL.now (b:=true) rfl rfl <| WOL.ld rfl (load_one tp3 g2b gxb) <| WOL.now (b:=true) rfl rfl <| WOL.bf rfl rfl rfl (bne_eq_false_iff_eq.2 (agj rfl rfl)) <| WOL.pkt rfl rfl <| WOL.nil <| WL.no rfl <| WL.skip fun y k => ⟨(),Z2,k.sub ⟨rfl,rfl,rfl,rfl,trivial⟩⟩
  · rintro _ g G
    exact WL.sr <| WOL.as rfl <| WOL.nil <| WL.ret (WL.end_ rfl ⟨rfl,Y4.trans G⟩)
end
end Go.Tidy
namespace Go.Tidy
open Go Go.Proofs Tab
theorem long_core {p q:Nat} (hp:1 ≤ p) (hp':p ≤ 5) (hq:1 ≤ q) (hq':q ≤ 5) (Z:Nat → Int):(List.range (p + q - 1)).foldl (fun s i => s + wgt p q i * (-(Z i) + 2 * Z (i + 1) - Z (i + 2))) 0 = -(q:Int) * Z 0 + ((p:Int) + q) * Z p - (p:Int) * Z (p + q):=by
 obtain rfl | rfl | rfl | rfl | rfl:p = 1 ∨ p = 2 ∨ p = 3 ∨ p = 4 ∨ p = 5:=by omega
 all_goals
  obtain rfl | rfl | rfl | rfl | rfl:q = 1 ∨ q = 2 ∨ q = 3 ∨ q = 4 ∨ q = 5:=by omega
  all_goals
   simp [List.range,List.range.loop,wgt]
   try omega
theorem sum_core {p q:Nat} (hp:1 ≤ p) (hp':p ≤ 5) (hq:1 ≤ q) (hq':q ≤ 5):2 * (wts p q).foldl (fun s x => s + x) 0 = (p:Int) * q * ((p:Int) + q):=by
 obtain rfl | rfl | rfl | rfl | rfl:p = 1 ∨ p = 2 ∨ p = 3 ∨ p = 4 ∨ p = 5:=by omega
 all_goals
  obtain rfl | rfl | rfl | rfl | rfl:q = 1 ∨ q = 2 ∨ q = 3 ∨ q = 4 ∨ q = 5:=by omega
  all_goals decide
section
variable {C:List (Int × Bool)} {n:Int}
theorem valC_len:(valC C).length = C.length:=by unfold valC;rw [List.length_map]
theorem valC_getD {i:Nat}:(valC C).getD i 0 = cond (C.getD i (0,false)).2 (C.getD i (0,false)).1 0:=by
 unfold valC
 rw [List.getD_eq_getElem?_getD,List.getD_eq_getElem?_getD,List.getElem?_map]
 cases C[i]? <;> rfl
theorem holesC_known {i:Nat} (hi:i < C.length):knownB (holesOf (C.map fun c => c.2)) (i:Nat) = (C.getD i (0,false)).2:=by
 have k:=known_holes (C.map fun c => c.2)
 rw [List.length_map] at k
 rw [← knownL_getD hi,k,List.getD_eq_getElem?_getD,List.getD_eq_getElem?_getD,List.getElem?_map]
 cases C[i]? <;> rfl
theorem traceE_made (hb:bigC C = false) (h0:0 ≤ n) (hl:C.length ≤ 4096) (h1:n + (C.length:Nat) ≤ 100000000):traceE n (valC C) (holesOf (C.map fun c => c.2)) = 0:=by
 have ho:=holes_ok (C.map fun c => c.2)
 rw [List.length_map] at ho
 have hr:firstNZ ((valC C).map readE) = 0:=by
  refine firstNZ_all fun x hx => ?_
  obtain ⟨y,hy,rfl⟩:=List.mem_map.1 hx
  rw [bigC_val,List.any_eq_false] at hb
  have:=hb y hy
  unfold largeB at this
  exact bne_eq_false_iff_eq.1 (by cases h:(readE y != 0) with
   | false => rfl
   | true => exact absurd h this)
 have hf:formE (valC C) (holesOf (C.map fun c => c.2)) = 0:=by
  unfold formE
  cases hb:(holesOf (C.map fun c => c.2)).any (anyIn (valC C)) with
  | false => rfl
  | true =>
   obtain ⟨j,x,hj,hx,hk⟩:=(form_iff (holeE_in ho)).1 hb
   have hj':j < C.length:=by have:=(List.getElem?_eq_some_iff.1 hj).1;rwa [valC_len] at this
   rw [holesC_known hj'] at hk
   have e:(valC C).getD j 0 = x:=by rw [List.getD_eq_getElem?_getD,hj];rfl
   rw [valC_getD,hk] at e
   exact absurd e.symm hx
 unfold traceE
 rw [valC_len,hr,ho,hf]
 unfold outB
 rw [decide_eq_false (by omega:¬ n < 0),decide_eq_false (by omega:¬ n > 100000000),decide_eq_false (by omega:¬ (C.length:Int) > 4096),decide_eq_false (by omega:¬ n + (C.length:Int) > 100000000)]
 rfl
end
section
variable {L:List Int} {S:List (Int × Int)} {M c p q j:Nat}
theorem tapC_getD {T:List (Nat × Int)} {i:Nat} (h:i < M):(tapC L S T M).getD i (0,false) = (tapN L i T 0,tapK S i T):=by
 rw [List.getD_eq_getElem?_getD,tapC_get h];rfl
theorem fold_taps {V:List Int} {st:Nat} {w X:Nat → Int}:∀ (l:List Nat) (s:Int),(∀ i,i ∈ l → V.getD (j + i * st) 0 = X i) → tapN V j (l.map fun i => (i * st,w i)) s = l.foldl (fun s i => s + w i * X i) s
 | [],s,_ => rfl
 | i :: l,s,h => by
  show tapN V j (l.map fun i => (i * st,w i)) (s + w i * V.getD (j + i * st) 0) = l.foldl _ (s + w i * X i)
  rw [h i (List.mem_cons_self ..)]
  exact fold_taps l _ fun i hi => h i (List.mem_cons_of_mem _ hi)
theorem vTn_val {p q:Nat}:tapN L j (vTn p q) 0 = -(q:Int) * L.getD j 0 + ((p:Int) + q) * L.getD (j + p) 0 - (p:Int) * L.getD (j + (p + q)) 0:=by
 show 0 + -(q:Int) * L.getD (j + 0) 0 + ((p:Int) + q) * L.getD (j + p) 0 + -(p:Int) * L.getD (j + (p + q)) 0 = _
 rw [Int.neg_mul (p:Int),Nat.add_zero]
 omega
theorem long_eq (hp:1 ≤ p) (hp':p ≤ 5) (hq:1 ≤ q) (hq':q ≤ 5) (hj:j + (p + q - 2) * c < M) (hk:tapK (holesOf ((tapC L S (vTn c c) M).map fun c => c.2)) j (wTp p q c) = true) :
  tapN (valC (tapC L S (vTn c c) M)) j (wTp p q c) 0 = tapN L j (vTn (c * p) (c * q)) 0:=by
 have hi:∀ i,i ∈ List.range (p + q - 1) → (valC (tapC L S (vTn c c) M)).getD (j + i * c) 0 = -((fun i => (c:Int) * L.getD (j + i * c) 0) i) + 2 * ((fun i => (c:Int) * L.getD (j + i * c) 0) (i + 1)) - ((fun i => (c:Int) * L.getD (j + i * c) 0) (i + 2)):=fun i hi => by
  have hi:=List.mem_range.1 hi
  have hm:i * c ≤ (p + q - 2) * c:=Nat.mul_le_mul_right _ (by omega)
  have hx:j + i * c < M:=by omega
  have k:=List.all_eq_true.1 hk (i * c,wgt p q i) (List.mem_map.2 ⟨i,List.mem_range.2 hi,rfl⟩)
  replace k:knownB (holesOf ((tapC L S (vTn c c) M).map fun c => c.2)) ((j + i * c:Nat):Int) = true:=k
  rw [holesC_known (by rw [tapC_len];exact hx),tapC_getD hx] at k
  replace k:tapK S (j + i * c) (vTn c c) = true:=k
  rw [valC_getD,tapC_getD hx,k]
  show tapN L (j + i * c) (vTn c c) 0 = _
  rw [vTn_val,Int.add_mul,Int.neg_mul]
  show _ = -((c:Int) * L.getD (j + i * c) 0) + 2 * ((c:Int) * L.getD (j + (i + 1) * c) 0) - (c:Int) * L.getD (j + (i + 2) * c) 0
  rw [show j + i * c + c = j + (i + 1) * c by rw [Nat.add_mul];omega,show j + i * c + (c + c) = j + (i + 2) * c by rw [Nat.add_mul];omega]
  omega
 unfold wTp
 rw [fold_taps _ _ hi,long_core hp hp' hq hq' (fun i => (c:Int) * L.getD (j + i * c) 0),vTn_val]
 show -(q:Int) * ((c:Int) * L.getD (j + 0 * c) 0) + ((p:Int) + q) * ((c:Int) * L.getD (j + p * c) 0) - (p:Int) * ((c:Int) * L.getD (j + (p + q) * c) 0) = _
 rw [Nat.zero_mul,Nat.add_zero,show c * p + c * q = (p + q) * c by rw [Nat.add_mul,Nat.mul_comm c p,Nat.mul_comm c q],Nat.mul_comm c p,Nat.mul_comm c q,Int.natCast_mul,Int.natCast_mul]
 rw [← Int.mul_assoc,← Int.mul_assoc,← Int.mul_assoc,Int.neg_mul,Int.neg_mul,Int.add_mul (p:Int) q c]
theorem mulb {w x:Int} {a b:Nat} (h1:w.natAbs ≤ a) (h2:x.natAbs ≤ b):(w * x).natAbs ≤ a * b:=by
 rw [Int.natAbs_mul]
 exact Nat.mul_le_mul h1 h2
theorem vers_lim (hp:p ≤ 20) (hq:q ≤ 20) (hL:∀ j,-20000 ≤ L.getD j 0 ∧ L.getD j 0 ≤ 20000):largeB (tapN L j (vTn p q) 0) = false:=by
 rw [vTn_val]
 have h1:=hL j
 have h2:=hL (j + p)
 have h3:=hL (j + (p + q))
 have b1:=mulb (w:=-(q:Int)) (x:=L.getD j 0) (a:=20) (b:=20000) (by omega) (by omega)
 have b2:=mulb (w:=(p:Int) + q) (x:=L.getD (j + p) 0) (a:=40) (b:=20000) (by omega) (by omega)
 have b3:=mulb (w:=(p:Int)) (x:=L.getD (j + (p + q)) 0) (a:=20) (b:=20000) (by omega) (by omega)
 generalize -(q:Int) * L.getD j 0 = x1 at *
 generalize ((p:Int) + q) * L.getD (j + p) 0 = x2 at *
 generalize (p:Int) * L.getD (j + (p + q)) 0 = x3 at *
 unfold largeB readE outB
 rw [decide_eq_false (by omega),decide_eq_false (by omega)]
 rfl
theorem big_not {T:List (Nat × Int)} (h:∀ i,i < M → tapK S i T = true → largeB (tapN L i T 0) = false):bigC (tapC L S T M) = false:=by
 unfold bigC
 rw [List.any_eq_false]
 intro c hc
 obtain ⟨i,hi,rfl⟩:=List.mem_map.1 hc
 have hi:=List.mem_range.1 hi
 show ¬ (tapK S i T && largeB (tapN L i T 0)) = true
 cases k:tapK S i T with
 | false => exact Bool.false_ne_true
 | true => rw [h i hi k];decide
theorem vers_small (hp:p ≤ 20) (hq:q ≤ 20) (hL:∀ j,-20000 ≤ L.getD j 0 ∧ L.getD j 0 ≤ 20000):bigC (tapC L S (vTn p q) M) = false:=big_not fun i _ _ => vers_lim hp hq hL
theorem wgt_small {M':Nat} (hp:1 ≤ p) (hp':p ≤ 5) (hq:1 ≤ q) (hq':q ≤ 5) (hc:c ≤ 4) (hM:M' + (p + q - 2) * c ≤ M) (hL:∀ j,-20000 ≤ L.getD j 0 ∧ L.getD j 0 ≤ 20000):bigC (tapC (valC (tapC L S (vTn c c) M)) (holesOf ((tapC L S (vTn c c) M).map fun c => c.2)) (wTp p q c) M') = false:=big_not fun i hi hk => by
 rw [long_eq hp hp' hq hq' (by omega) hk]
 exact vers_lim (Nat.le_trans (Nat.mul_le_mul hc hp') (by decide)) (Nat.le_trans (Nat.mul_le_mul hc hq') (by decide)) hL
theorem long_agree {M':Nat} (hp:1 ≤ p) (hp':p ≤ 5) (hq:1 ≤ q) (hq':q ≤ 5) (hM:M' + (p + q - 2) * c ≤ M) {i:Nat} (hi:i < M') (k1:knownB (holesOf ((tapC (valC (tapC L S (vTn c c) M)) (holesOf ((tapC L S (vTn c c) M).map fun c => c.2)) (wTp p q c) M').map fun c => c.2)) (i:Nat) = true) (k2:knownB (holesOf ((tapC L S (vTn (c * p) (c * q)) M').map fun c => c.2)) (i:Nat) = true) :
  (valC (tapC (valC (tapC L S (vTn c c) M)) (holesOf ((tapC L S (vTn c c) M).map fun c => c.2)) (wTp p q c) M')).getD i 0 = (valC (tapC L S (vTn (c * p) (c * q)) M')).getD i 0:=by
 rw [holesC_known (by rw [tapC_len];exact hi),tapC_getD hi] at k1 k2
 rw [valC_getD,valC_getD,tapC_getD hi,tapC_getD hi]
 replace k1:tapK (holesOf ((tapC L S (vTn c c) M).map fun c => c.2)) i (wTp p q c) = true:=k1
 replace k2:tapK S i (vTn (c * p) (c * q)) = true:=k2
 rw [k1,k2]
 exact long_eq hp hp' hq hq' (by omega) k1
end
end Go.Tidy
namespace Go.Tidy
open Go Go.Proofs Tab
variable {tp:TProg}
theorem ProgR.ok {n e:Int} {C:List (Int × Bool)} {n0:Nat} {g:TH} {v:Value} (r:ProgR n e C n0 g v) (he:e = 0) (hb:bigC C = false):∃ bv b2 m2 k2,v = .tuple #[trcV n (slA bv C.length) (.slice b2 m2 k2),zi 0] ∧ n0 ≤ bv ∧ TrcO n0 g bv (.slice b2 m2 k2) (valC C) (holesOf (C.map fun c => c.2)):=by
 rcases r with ⟨h1,_⟩ | ⟨_,h1,_⟩ | ⟨_,_,bv,w,h2,h3,h4⟩
 ·exact absurd he h1
 ·rw [hb] at h1;cases h1
 ·obtain ⟨b2,m2,k2,rfl⟩:=h4.form
  exact ⟨bv,b2,m2,k2,h2,h3,h4⟩
theorem TrcO.trcC {n0 bv:Nat} {g:TH} {w:Value} {C:List (Int × Bool)} {S:List (Int × Int)} (r:TrcO n0 g bv w (valC C) S):TrcH g (slA bv C.length) w (valC C) S:=by
 have:=r.trc
 rwa [valC_len] at this
theorem chordE_in {a b:Int} (h1:1 ≤ a) (h2:a ≤ 32) (h3:1 ≤ b) (h4:b ≤ 32):chordE a b = 0:=by
 unfold chordE outB
 rw [decide_eq_false (by omega:¬ a < 1),decide_eq_false (by omega:¬ a > 32),decide_eq_false (by omega:¬ b < 1),decide_eq_false (by omega:¬ b > 32)]
 rfl
theorem errV_in {E:Int} {m w:Nat} (h:E = 0) (h2:w < m):errV E m w = 0:=by
 rw [h,errV_ok,decide_eq_false (by omega)];rfl
section
variable {h h0:TH} {n:Int} {v1 v2:Value} {L:List Int} {S:List (Int × Int)} {c3 c4 p q z:Nat}
def cd1106c:TCode:=.seq (.reg r1106_17) (.seq (.seq (.reg r1106_18) (.cond (.tmp 141) (.seq (.reg r1106_19) .ret) .skip)) (.seq (.reg r1106_20) (.seq (.seq (.reg r1106_21) (.cond (.tmp 153) (.seq (.reg r1106_22) .ret) .skip)) (.seq (.reg r1106_23) (.seq (.reg r1106_24) (.seq (.reg r1106_25) .ret))))))
set_option maxHeartbeats 8000000 in
set_option maxRecDepth 10000 in
theorem k1106c (H:Has tp) (K:Awk tp) (X0:HX h0 h) (f:Free0 h0.next h0) (A3:At h c3 (.cells [zi (p:Nat),zi (q:Nat)] true true 23)) (A4:At h c4 (.cells [zi n,v1,v2] true true 27)) (r:TrcH h v1 v2 L S) (hp:1 ≤ p) (hp':p ≤ 5) (hq:1 ≤ q) (hq':q ≤ 5) (te:traceE n L S = 0) (hl:L.length ≤ 60) (hS:S.length ≤ 900000) (lim:∀ j,-20000 ≤ L.getD j 0 ∧ L.getD j 0 ≤ 20000) :
  ∀ y,Kn [(2,.int .u8 (z:Nat)),(3,ptr c3),(4,ptr c4)] y → z < 256 → W Tryz.prog tp false cd1106c y h (Fin Tryz.prog [.tmp 6] fun v _ => v = .bool true):=by
 intro y ky hz
 revert ky
 revert y
 unfold cd1106c
 have lc3:=A3.lt
 have lc4:=A4.lt
 have x0:=X0.next
 obtain ⟨⟨m1,m2⟩,m3,m4,m5,m6,m7⟩:=trace_ok te
 obtain ⟨b1,k1,e1,_⟩:=id r.l
 obtain ⟨b2,k2,e2,_⟩:=id r.s
 subst e1 e2
 obtain ⟨s,hs,s1,s4⟩:∃ s:Nat,(1:Int) + ((z:Nat):Int).tmod 4 = s ∧ 1 ≤ s ∧ s ≤ 4:=by
  have t1:=Int.tmod_lt_of_pos ((z:Nat):Int) (show (0:Int) < 4 by decide)
  have t2:0 ≤ ((z:Nat):Int).tmod 4:=Int.tmod_nonneg 4 (by omega)
  exact ⟨(1 + ((z:Nat):Int).tmod 4).toNat,by omega,by omega,by omega⟩
 have sp:s * p ≤ 20:=Nat.le_trans (Nat.mul_le_mul s4 hp') (by decide)
 have sq:s * q ≤ 20:=Nat.le_trans (Nat.mul_le_mul s4 hq') (by decide)
 have sp1:1 ≤ s * p:=Nat.le_trans (by decide) (Nat.mul_le_mul s1 hp)
 have sq1:1 ≤ s * q:=Nat.le_trans (by decide) (Nat.mul_le_mul s1 hq)
 have eP:(s:Int) * (p:Nat) = ((s * p:Nat):Int):=(Int.natCast_mul s p).symm
 have eQ:(s:Int) * (q:Nat) = ((s * q:Nat):Int):=(Int.natCast_mul s q).symm
 have ePQ:(s:Int) * (((p:Nat):Int) + (q:Nat)) = ((s * p + s * q:Nat):Int):=by rw [Int.mul_add,eP,eQ];omega
 have eW:(p + q - 2) * s + 2 * s = s * p + s * q:=by rw [← Nat.add_mul,show p + q - 2 + 2 = p + q by omega,Nat.add_mul,Nat.mul_comm p,Nat.mul_comm q]
 refine WL.sr <| WOL.mv rfl <| WOL.convU Tryz.underlying5 Tryz.underlying3 rfl (by omega) (by omega) <| WOL.remt rfl rfl (by decide) <| WOL.add rfl rfl (by omega) (by omega) ?_
 rw [hs]
 refine WOL.as rfl <| WOL.nil <| keep [(3,_),(4,_),(18,_)] ⟨rfl,rfl,rfl,trivial⟩ ?_
 refine WL.seq <| WL.sr <| WOL.fa rfl (fa_of fo1114_1) <| WOL.ld rfl (load_one tp29 A4 rfl) <| WOL.len rfl r.l u29 <| WOL.mv rfl <| WOL.fa rfl (fa_of fo1112_0) <| WOL.ld rfl (load_one tp3 A3 rfl) <| WOL.fa rfl (fa_of fo1112_1) <| WOL.ld rfl (load_one tp3 A3 rfl) <| WOL.add (m:=(p:Int)) (n:=(q:Int)) rfl rfl (by omega) (by omega) <| WOL.mul rfl rfl (by rw [ePQ];omega) (by rw [ePQ];omega) ?_
 rw [ePQ]
 by_cases c1:((L.length:Nat):Int) ≤ ((s * p + s * q:Nat):Int)
 ·refine WOL.bt rfl rfl rfl (decide_eq_true c1) <| WOL.mv rfl <| WOL.skp (b:=true) rfl rfl <| WOL.skp (b:=true) rfl rfl <| WOL.skp (b:=true) rfl rfl <| WOL.skp (b:=true) rfl rfl <| WOL.skp (b:=true) rfl rfl <| WOL.skp (b:=true) rfl rfl <| WOL.pkt rfl rfl <| WOL.nil <| WL.yes rfl <| WL.sr <| WOL.cl0 rfl ((k11t K _).mono ?_)
  rintro v g ⟨rfl,rfl⟩
  exact WOL.as rfl <| WOL.nil <| WL.ret (WL.end_ rfl rfl)
 refine WOL.bf rfl rfl rfl (decide_eq_false c1) <| WOL.mv rfl <| WOL.now (b:=false) rfl rfl <| WOL.fa rfl (fa_of fo1114_1) <| WOL.now (b:=false) rfl rfl <| WOL.ld rfl (load_one tp29 A4 rfl) <| WOL.now (b:=false) rfl rfl <| WOL.len rfl r.l u29 <| WOL.now (b:=false) rfl rfl <| WOL.mv rfl <| WOL.now (b:=false) rfl rfl <| WOL.mul (m:=2) (n:=(s:Int)) rfl rfl (by omega) (by omega) <| WOL.now (b:=false) rfl rfl ?_
 by_cases c2:((L.length:Nat):Int) ≤ 2 * (s:Int)
 ·refine WOL.bt rfl rfl rfl (decide_eq_true c2) <| WOL.pkf rfl rfl <| WOL.nil <| WL.yes rfl <| WL.sr <| WOL.cl0 rfl ((k11t K _).mono ?_)
  rintro v g ⟨rfl,rfl⟩
  exact WOL.as rfl <| WOL.nil <| WL.ret (WL.end_ rfl rfl)
 refine WOL.bf rfl rfl rfl (decide_eq_false c2) <| WOL.pkf rfl rfl <| WOL.nil <| WL.no rfl <| WL.skip <| keep [(3,_),(4,_),(18,_)] ⟨rfl,rfl,rfl,trivial⟩ ?_
 -- versines by two equal arms
 refine WL.sr <| WOL.mv rfl <| WOL.mv rfl <| WOL.bd rfl bd1128 <| WOL.ld rfl (load_row tp1114 A4 rfl (Nat.le_of_ble_eq_true rfl)) <| WOL.cl1 rfl rfl ((k1115 (n:=n) H r (by omega) (by omega) (f.on X0)).mono ?_)
 rintro v g1 ⟨G1,u1,u2,rfl,ru,_,_⟩
 have Y1:=X0.trans G1
 refine WOL.cl2 rfl rfl rfl ((k1125 (n:=n) (a:=(s:Int)) (b:=(s:Int)) H ru (by omega) (by omega) (f.on Y1)).mono ?_)
 rintro v g2 ⟨G2,R⟩
 have Y2:=Y1.trans G2
 have w1:=G1.next
 have w2:=G2.next
 rw [Int.toNat_natCast] at R
 obtain ⟨bv,b5,m5',k5,rfl,hv,to⟩:=R.ok (errV_in (by rw [chordE_in (by omega) (by omega) (by omega) (by omega),te];rfl) (by omega)) (vers_small (by omega) (by omega) lim)
 clear R
 have lC:(tapC L S (vTn s s) (L.length - (s + s))).length = L.length - (s + s):=tapC_len
 have tm:=traceE_made (C:=tapC L S (vTn s s) (L.length - (s + s))) (n:=n + s) (vers_small (by omega) (by omega) lim) (by omega) (by rw [lC];omega) (by rw [lC];omega)
 have ag:=fun M' hM i => long_agree (L:=L) (S:=S) (M:=L.length - (s + s)) (c:=s) (M':=M') hp hp' hq hq' hM (i:=i)
 have sm:=fun M' hM => wgt_small (L:=L) (S:=S) (M:=L.length - (s + s)) (c:=s) (M':=M') hp hp' hq hq' s4 hM lim
 have lh:=holesOf_le ((tapC L S (vTn s s) (L.length - (s + s))).map fun c => c.2)
 rw [List.length_map,lC] at lh
 have lV:=valC_len (C:=tapC L S (vTn s s) (L.length - (s + s)))
 rw [lC] at lV
 generalize tapC L S (vTn s s) (L.length - (s + s)) = C at *
 refine WOL.mv rfl <| WOL.ex rfl rfl <| WOL.ex rfl rfl <| WOL.al tp1117 fun g3 G3 => WOL.sto (vs:=[zi (n + s),slA bv _,.slice b5 m5' k5]) rfl rfl tp1117 G3.at_ rfl rfl (Nat.le_of_ble_eq_true rfl) rfl (f.hx (Y2.trans G3.hx)) (by omega) fun g4 P4 => WOL.as rfl <| WOL.nil <| keep [(3,_),(4,_),(18,_),(19,_),(20,_)] ⟨rfl,rfl,rfl,rfl,rfl,trivial⟩ ?_
 have w3:=G3.next
 have w4:=P4.next
 have Z4:HX h g4:=P4.hx _ ((G1.trans G2).trans G3.hx) (by omega)
 have Y4:=X0.trans Z4
 have B19:=P4.at_
 have to4:TrcO g1.next g4 bv _ (valC C) _:=⟨P4.oth _ _ (by have:=to.v.lt;omega) (to.v.hx G3.hx),(to.s.hx G3.hx).keep fun z y hz a => P4.oth _ _ (by have:=(to.s.lt hz).2;omega) a⟩
 have r19:=to4.trcC
 clear to to4
 replace A3:=A3.hx Z4;replace A4:=A4.hx Z4
 have r4:=r.hx Z4
 refine WL.seq <| WL.sr <| WOL.mv rfl <| WOL.bf rfl rfl rfl rfl <| WOL.nil <| WL.no rfl <| WL.skip <| keep [(3,_),(4,_),(18,_),(19,_)] ⟨rfl,rfl,rfl,rfl,trivial⟩ ?_
 -- weighted
 refine WL.sr <| WOL.ld rfl (load_row tp1112 A3 rfl (Nat.le_of_ble_eq_true rfl)) <| WOL.mv rfl <| WOL.ld rfl (load_row tp1117 B19 rfl (Nat.le_of_ble_eq_true rfl)) <| WOL.al tp1117 fun g5 G5 => ?_
 have w5:=G5.next
 have Y5:=Y4.trans G5.hx
 have l19:=B19.lt
 refine WOL.lq1 [g4.next,c3] rfl rfl rfl fun M hM => ((k1150 (h:=g5.withLock M) H ((f.on Y5).held hM (fun b hb => by simp at hb;omega))).mono ?_)
 rintro v g6 ⟨rfl,G6⟩
 replace G6:=G6.relock
 generalize g6.withLock g5.lock = g6 at *
 have w6:=G6.next
 have Y6:=Y5.trans G6
 have Z6:=G5.hx.trans G6
 refine WOL.lq1 [g4.next,c3] rfl rfl rfl fun M hM => ((k1115 (n:=n + s) H ((r19.hx Z6).relock M) (by omega) (by omega) ((f.on Y6).held hM (fun b hb => by simp at hb;omega))).mono ?_)
 rintro v g7 ⟨G7,u3,u4,rfl,ru7,_,_⟩
 replace G7:=G7.relock
 replace ru7:=ru7.relock g6.lock
 generalize g7.withLock g6.lock = g7 at *
 have w7:=G7.next
 have Y7:=Y6.trans G7
 refine WOL.lq3 [g4.next] rfl rfl rfl rfl rfl fun M hM => ((k1132 (n:=n + s) (a:=(p:Int)) (b:=(q:Int)) (s:=(s:Int)) H (ru7.relock M) (by omega) (by omega) ((f.on Y7).held hM (fun b hb => by simp at hb;omega))).mono ?_)
 rintro v g8 ⟨G8,R⟩
 replace G8:=G8.relock
 rw [Int.toNat_natCast,Int.toNat_natCast,Int.toNat_natCast,lV,show n + (s:Int) - (1 - (p:Nat)) * s = n + ((s * p:Nat):Int) by rw [Int.sub_mul,Int.one_mul,Int.mul_comm,eP];omega] at R
 have hM':L.length - (s + s) - (p + q - 2) * s = L.length - (s * p + s * q):=by omega
 rw [hM'] at R
 replace sm:=sm (L.length - (s * p + s * q)) (by omega)
 replace ag:=ag (L.length - (s * p + s * q)) (by omega)
 obtain ⟨bw,b6,m6',k6,rfl,hw,to⟩:=R.ok (errV_in (by rw [chordE_in (by omega) (by omega) (by omega) (by omega),tm,show outB (s:Int) 1 32 = 0 by unfold outB;rw [decide_eq_false (by omega),decide_eq_false (by omega)];rfl];rfl) (by omega)) sm
 clear R
 replace to:TrcO g7.next (g8.withLock g7.lock) bw _ _ _:=to.relock g7.lock
 replace hw:g7.next ≤ bw:=hw
 generalize g8.withLock g7.lock = g8 at *
 have lW:(tapC (valC C) (holesOf (C.map fun c => c.2)) (wTp p q s) (L.length - (s * p + s * q))).length = L.length - (s * p + s * q):=tapC_len
 have tw:=traceE_made (C:=tapC (valC C) (holesOf (C.map fun c => c.2)) (wTp p q s) (L.length - (s * p + s * q))) (n:=n + ((s * p:Nat):Int)) sm (by omega) (by rw [lW];omega) (by rw [lW];omega)
 have lhw:=holesOf_le ((tapC (valC C) (holesOf (C.map fun c => c.2)) (wTp p q s) (L.length - (s * p + s * q))).map fun c => c.2)
 rw [List.length_map,lW] at lhw
 generalize tapC (valC C) (holesOf (C.map fun c => c.2)) (wTp p q s) (L.length - (s * p + s * q)) = CW at *
 have w8:=G8.next
 have Y8:=Y7.trans G8
 have Z8:=(Z6.trans G7).trans G8
 have B21:=(G5.at_.hx G6).hx G7 |>.hx G8
 refine WOL.mv rfl <| WOL.ex rfl rfl <| WOL.ex rfl rfl <| WOL.sto (vs:=[zi (n + ((s * p:Nat):Int)),slA bw _,.slice b6 m6' k6]) rfl rfl tp1117 B21 rfl rfl (Nat.le_of_ble_eq_true rfl) rfl (f.hx Y8) (by omega) fun g9 P9 => WOL.as rfl <| WOL.nil <| keep [(3,_),(4,_),(18,_),(21,_),(22,_)] ⟨rfl,rfl,rfl,rfl,rfl,trivial⟩ ?_
 have w9:=P9.next
 have Z9:HX g4 g9:=P9.hx _ Z8 (by omega)
 have Y9:=Y4.trans Z9
 replace B21:=P9.at_
 have r21:=(to.put P9 (by omega) (by omega)).trcC
 clear to
 replace A3:=A3.hx Z9;replace A4:=A4.hx Z9
 have r9:=r4.hx Z9
 -- versines by the long arms
 refine WL.sr <| WOL.mv rfl <| WOL.fa rfl (fa_of fo1112_0) <| WOL.ld rfl (load_one tp3 A3 rfl) <| WOL.mul (m:=(s:Int)) (n:=(p:Int)) rfl rfl (by rw [eP];omega) (by rw [eP];omega) <| WOL.mv rfl <| WOL.fa rfl (fa_of fo1112_1) <| WOL.ld rfl (load_one tp3 A3 rfl) <| WOL.mul (m:=(s:Int)) (n:=(q:Int)) rfl rfl (by rw [eQ];omega) (by rw [eQ];omega) ?_
 rw [eP,eQ]
 refine WOL.bd rfl bd1128 <| WOL.ld rfl (load_row tp1114 A4 rfl (Nat.le_of_ble_eq_true rfl)) <| WOL.al tp1117 fun i1 I1 => ?_
 have v1':=I1.next
 have V1:=Y9.trans I1.hx
 refine WOL.lq1 [g9.next,c3,c3] rfl rfl rfl fun M hM => ((k1115 (n:=n) H ((r9.hx I1.hx).relock M) (by omega) (by omega) ((f.on V1).held hM (fun b hb => by simp at hb;omega))).mono ?_)
 rintro v i2 ⟨I2,u5,u6,rfl,ru2,_,_⟩
 replace I2:=I2.relock
 replace ru2:=ru2.relock i1.lock
 generalize i2.withLock i1.lock = i2 at *
 have v2':=I2.next
 have V2:=V1.trans I2
 refine WOL.lq2 [g9.next] rfl rfl rfl rfl fun M hM => ((k1125 (n:=n) (a:=((s * p:Nat):Int)) (b:=((s * q:Nat):Int)) H (ru2.relock M) (by omega) (by omega) ((f.on V2).held hM (fun b hb => by simp at hb;omega))).mono ?_)
 rintro v i3 ⟨I3,R⟩
 replace I3:=I3.relock
 rw [Int.toNat_natCast,Int.toNat_natCast] at R
 have sb:=vers_small (L:=L) (S:=S) (M:=L.length - (s * p + s * q)) (p:=s * p) (q:=s * q) sp sq lim
 obtain ⟨bx,b7,m7',k7,rfl,hx,to⟩:=R.ok (errV_in (by rw [chordE_in (by omega) (by omega) (by omega) (by omega),te];rfl) (by omega)) sb
 clear R
 replace to:TrcO i2.next (i3.withLock i2.lock) bx _ _ _:=to.relock i2.lock
 replace hx:i2.next ≤ bx:=hx
 generalize i3.withLock i2.lock = i3 at *
 have lX:(tapC L S (vTn (s * p) (s * q)) (L.length - (s * p + s * q))).length = L.length - (s * p + s * q):=tapC_len
 have tx:=traceE_made (C:=tapC L S (vTn (s * p) (s * q)) (L.length - (s * p + s * q))) (n:=n + ((s * p:Nat):Int)) sb (by omega) (by rw [lX];omega) (by rw [lX];omega)
 have lhx:=holesOf_le ((tapC L S (vTn (s * p) (s * q)) (L.length - (s * p + s * q))).map fun c => c.2)
 rw [List.length_map,lX] at lhx
 generalize tapC L S (vTn (s * p) (s * q)) (L.length - (s * p + s * q)) = CX at *
 have v3':=I3.next
 have V3:=V2.trans I3
 have J3:=(I1.hx.trans I2).trans I3
 have B23:=(I1.at_.hx I2).hx I3
 refine WOL.mv rfl <| WOL.ex rfl rfl <| WOL.ex rfl rfl <| WOL.sto (vs:=[zi (n + ((s * p:Nat):Int)),slA bx _,.slice b7 m7' k7]) rfl rfl tp1117 B23 rfl rfl (Nat.le_of_ble_eq_true rfl) rfl (f.hx V3) (by omega) fun i4 P4' => WOL.as rfl <| WOL.nil <| keep [(21,_),(22,_),(23,_),(24,_)] ⟨rfl,rfl,rfl,rfl,trivial⟩ ?_
 have v4':=P4'.next
 have J4:HX g9 i4:=P4'.hx _ J3 (by omega)
 have V4:=Y9.trans J4
 replace B23:=P4'.at_
 have r23:=(to.put P4' (by omega) (by omega)).trcC
 clear to
 replace B21:=B21.hx J4;replace r21:=r21.hx J4
 -- they agree
 refine WL.sr <| WOL.mv rfl <| WOL.mv rfl <| WOL.add (m:=0) (n:=0) rfl rfl (by decide) (by decide) <| WOL.bt rfl rfl rfl rfl <| WOL.mv rfl <| WOL.now (b:=true) rfl rfl <| WOL.ld rfl (load_row tp1117 B21 rfl (Nat.le_of_ble_eq_true rfl)) <| WOL.now (b:=true) rfl rfl <| WOL.ld rfl (load_row tp1117 B23 rfl (Nat.le_of_ble_eq_true rfl)) <| WOL.now (b:=true) rfl rfl ?_
 refine WOL.lq1 [g9.next] rfl rfl rfl fun M hM => ((k1150 (h:=i4.withLock M) H ((f.on V4).held hM (fun b hb => by simp at hb;omega))).mono ?_)
 rintro v i5 ⟨rfl,I5⟩
 replace I5:=I5.relock
 generalize i5.withLock i4.lock = i5 at *
 have V5:=V4.trans I5
 refine WOL.now (b:=true) rfl rfl <| WOL.cl1 rfl rfl ((k1150 H (f.on V5)).mono ?_)
 rintro v i6 ⟨rfl,I6⟩
 have V6:=V5.trans I6
 have I46:=I5.trans I6
 refine WOL.now (b:=true) rfl rfl <| WOL.cl2 rfl rfl rfl ((k1151 (n:=n + ((s * p:Nat):Int)) H (r21.hx I46) (r23.hx I46) tw tx (by rw [valC_len,valC_len,lW,lX]) (by omega) (by omega) (fun i hi => ag i (by rwa [valC_len,lW] at hi)) (f.on V6)).mono ?_)
 rintro v i7 ⟨rfl,I7⟩
 refine WOL.pkt rfl rfl <| WOL.mv rfl <| WOL.now (b:=true) rfl rfl <| WOL.cl0 rfl ((k11t K _).mono ?_)
 rintro v i8 ⟨rfl,rfl⟩
 exact WOL.pkt rfl rfl <| WOL.as rfl <| WOL.nil <| WL.ret (WL.end_ rfl rfl)
end
end Go.Tidy
namespace Go.Tidy
open Go Go.Proofs Tab
variable {tp:TProg}
section
variable {h h0:TH} {n a b:Int} {v1 v2:Value} {L:List Int} {S:List (Int × Int)} {c3 c4 p q z:Nat}
theorem k1127w (H:Has tp) (hp:1 ≤ p) (hp':p ≤ 32) (hq:1 ≤ q) (hq':q ≤ 32) (f:Free0 h.next h) :
  CallW Tryz.prog tp (.func (.func 27) #[] #[]) #[.agg #[zi (p:Nat),zi (q:Nat)]] h fun v h' => HX h h' ∧ ∃ c,v = .tuple #[slA c (p + q - 1),zi 0] ∧ h.next ≤ c ∧ At h' c (.cells (cat encI (wts p q)) true true 3):=by
 refine CallW.fnL (H.fn 27 f1127 rfl rfl) ?_
 refine WL.sr <| WOL.box rfl fun h1 N1 => WOL.as rfl <| WOL.as rfl <| WOL.nil <| keep [(1,_)] ⟨rfl,trivial⟩ ?_
 have q1:=N1.next
 have A1:At h1 h.next (.cells [zi (p:Nat),zi (q:Nat)] true true 44):=N1.at_
 have k:CallW Tryz.prog tp (.func (.func 95) #[] #[]) #[.agg #[zi (p:Nat),zi (q:Nat)],.func (.func 96) #[] #[]] h1 fun v h' => HX h1 h' ∧ ∃ c,v = .tuple #[slA c (p + q - 1),zi 0] ∧ h1.next ≤ c ∧ At h' c (.cells (cat encI (wts p q)) true true 3):=by
  refine CallW.fnL (H.fn 95 f1195 rfl rfl) ?_
  have fo:=f.on N1.hx
  refine WL.sr <| WOL.box rfl fun i1 M1 => WOL.as rfl <| WOL.as rfl <| WOL.nil <| keep [(1,_),(2,_)] ⟨rfl,rfl,trivial⟩ ?_
  have q2:=M1.next
  have A2:At i1 h1.next (.cells [zi (p:Nat),zi (q:Nat)] true true 44):=M1.at_
  refine WL.seq <| WL.sr <| WOL.ld rfl (load_row tp1128 A2 rfl (Nat.le_of_ble_eq_true rfl)) <| WOL.cl1 rfl rfl ((k1121 H (p:Nat) (q:Nat) _).mono ?_)
  rintro v i2 ⟨rfl,X2⟩
  have Y2:=M1.hx.trans X2
  have y2:=Y2.next
  replace A2:=A2.hx X2
  refine WOL.as rfl <| WOL.nil <| keep [(1,_),(2,_),(6,_)] ⟨rfl,rfl,rfl,trivial⟩ ?_
  rw [chordE_in (by omega) (by omega) (by omega) (by omega)]
  refine WL.sr <| WOL.mv rfl <| WOL.bf rfl rfl rfl rfl <| WOL.nil <| WL.no rfl <| WL.skip ?_
  refine WL.sr <| WOL.mv rfl <| WOL.ld rfl (load_row tp1128 A2 rfl (Nat.le_of_ble_eq_true rfl)) <| WOL.cl1 rfl rfl ((k1196 H hp hp' hq hq' (fo.on Y2)).mono ?_)
  rintro v i3 ⟨X3,c,rfl,hc,Ac⟩
  exact WOL.as rfl <| WOL.as rfl <| WOL.nil <| WL.ret (WL.end_ rfl ⟨Y2.trans X3,c,rfl,by omega,Ac⟩)
 refine WL.sr <| WOL.ld rfl (load_row tp1128 A1 rfl (Nat.le_of_ble_eq_true rfl)) <| WOL.cl2 rfl rfl rfl (k.mono ?_)
 rintro v h2 ⟨X2,c,rfl,hc,Ac⟩
 exact WOL.ex rfl rfl <| WOL.ex rfl rfl <| WOL.as rfl <| WOL.as rfl <| WOL.nil <| WL.ret (WL.end_ rfl ⟨N1.hx.trans X2,c,rfl,by omega,Ac⟩)
def cd1106b:TCode:=.seq (.reg r1106_9) (.seq (.seq (.reg r1106_10) (.block 0 (.loop (.seq (.reg r1106_11) (.seq (.cond (.tmp 86) .skip (.exit 0)) (.seq (.block 1 (.seq (.reg r1106_12) (.reg r1106_13))) (.reg r1106_14))))))) (.seq (.seq (.reg r1106_15) (.cond (.tmp 118) (.seq (.reg r1106_16) .ret) .skip)) cd1106c))
set_option maxHeartbeats 8000000 in
set_option maxRecDepth 10000 in
theorem k1106b (H:Has tp) (K:Awk tp) (X0:HX h0 h) (f:Free0 h0.next h0) (A3:At h c3 (.cells [zi (p:Nat),zi (q:Nat)] true true 23)) (A4:At h c4 (.cells [zi n,v1,v2] true true 27)) (r:TrcH h v1 v2 L S) (hp:1 ≤ p) (hp':p ≤ 5) (hq:1 ≤ q) (hq':q ≤ 5) (te:traceE n L S = 0) (hl:L.length ≤ 60) (hpq:p + q < L.length) (hS:S.length ≤ 900000) (lim:∀ j,-20000 ≤ L.getD j 0 ∧ L.getD j 0 ≤ 20000) (hz:z < 256) :
  ∀ y,Kn [(2,.int .u8 (z:Nat)),(3,ptr c3),(4,ptr c4)] y → W Tryz.prog tp false (.seq (.reg r1106_3) (.seq (.reg r1106_4) (.seq (.reg r1106_5) (.seq (.seq (.reg r1106_6) (.cond (.tmp 74) (.seq (.reg r1106_7) .ret) .skip)) (.seq (.reg r1106_8) cd1106b))))) y h (Fin Tryz.prog [.tmp 6] fun v _ => v = .bool true):=by
 have lc3:=A3.lt
 have lc4:=A4.lt
 have x0:=X0.next
 obtain ⟨⟨m1,m2⟩,m3,m4,m5,m6,m7⟩:=trace_ok te
 obtain ⟨b1,k1,e1,_⟩:=id r.l
 obtain ⟨b2,k2,e2,_⟩:=id r.s
 subst e1 e2
 -- the curvature
 refine WL.sr <| WOL.ld rfl (load_row tp1114 A4 rfl (Nat.le_of_ble_eq_true rfl)) <| WOL.cl1 rfl rfl ((k1115 (n:=n) H r (by omega) (by omega) (f.on X0)).mono ?_)
 rintro v g1 ⟨G1,u1,u2,rfl,ru,_,_⟩
 have Y1:=X0.trans G1
 refine WOL.cl1 rfl rfl ((k1126 (n:=n) H ru (by omega) (by omega) (f.on Y1)).mono ?_)
 rintro v g2 ⟨G2,R⟩
 have Y2:=Y1.trans G2
 have w1:=G1.next
 have w2:=G2.next
 obtain ⟨bv,b5,m5',k5,rfl,hv,to⟩:=R.ok (errV_in (by rw [te];rfl) (by omega)) (vers_small (by omega) (by omega) lim)
 clear R
 have lC:(tapC L S (vTn 1 1) (L.length - 2)).length = L.length - 2:=tapC_len
 have tm:=traceE_made (C:=tapC L S (vTn 1 1) (L.length - 2)) (n:=n + 1) (vers_small (by omega) (by omega) lim) (by omega) (by rw [lC];omega) (by rw [lC];omega)
 have ag:=fun M' hM i => long_agree (L:=L) (S:=S) (M:=L.length - 2) (c:=1) (M':=M') hp hp' hq hq' hM (i:=i)
 have sm:=fun M' hM => wgt_small (L:=L) (S:=S) (M:=L.length - 2) (c:=1) (M':=M') hp hp' hq hq' (by omega) hM lim
 have lh:=holesOf_le ((tapC L S (vTn 1 1) (L.length - 2)).map fun c => c.2)
 rw [List.length_map,lC] at lh
 have lV:=valC_len (C:=tapC L S (vTn 1 1) (L.length - 2))
 rw [lC] at lV
 rw [Nat.one_mul,Nat.one_mul] at ag
 generalize tapC L S (vTn 1 1) (L.length - 2) = C at *
 refine WOL.mv rfl <| WOL.ex rfl rfl <| WOL.ex rfl rfl <| WOL.al tp1117 fun g3 G3 => WOL.sto (vs:=[zi (n + 1),slA bv _,.slice b5 m5' k5]) rfl rfl tp1117 G3.at_ rfl rfl (Nat.le_of_ble_eq_true rfl) rfl (f.hx (Y2.trans G3.hx)) (by omega) fun g4 P4 => WOL.as rfl <| WOL.nil <| keep [(2,_),(3,_),(4,_),(7,_),(8,_)] ⟨rfl,rfl,rfl,rfl,rfl,trivial⟩ ?_
 have w3:=G3.next
 have w4:=P4.next
 have Z4:HX h g4:=P4.hx _ ((G1.trans G2).trans G3.hx) (by omega)
 have Y4:=X0.trans Z4
 have B7:=P4.at_
 have to4:TrcO g1.next g4 bv _ (valC C) _:=⟨P4.oth _ _ (by have:=to.v.lt;omega) (to.v.hx G3.hx),(to.s.hx G3.hx).keep fun z y hz a => P4.oth _ _ (by have:=(to.s.lt hz).2;omega) a⟩
 have r7:=to4.trcC
 clear to to4
 replace A3:=A3.hx Z4;replace A4:=A4.hx Z4
 have r4:=r.hx Z4
 -- the weights
 refine WL.sr <| WOL.ld rfl (load_row tp1112 A3 rfl (Nat.le_of_ble_eq_true rfl)) <| WOL.cl1 rfl rfl ((k1127w H hp (by omega) hq (by omega) (f.on Y4)).mono ?_)
 rintro v g5 ⟨G5,c9,rfl,hc9,A9⟩
 have w5:=G5.next
 have Y5:=Y4.trans G5
 refine WOL.mv rfl <| WOL.ex rfl rfl <| WOL.ex rfl rfl <| WOL.as rfl <| WOL.as rfl <| WOL.nil <| keep [(2,_),(3,_),(4,_),(7,_),(8,_),(9,_),(10,_)] ⟨rfl,rfl,rfl,rfl,rfl,rfl,rfl,trivial⟩ ?_
 replace A3:=A3.hx G5;replace A4:=A4.hx G5;replace B7:=B7.hx G5;replace r7:=r7.hx G5;replace r4:=r4.hx G5
 have l7:=B7.lt
 -- the versines
 refine WL.sr <| WOL.ld rfl (load_row tp1112 A3 rfl (Nat.le_of_ble_eq_true rfl)) <| WOL.ld rfl (load_row tp1114 A4 rfl (Nat.le_of_ble_eq_true rfl)) <| WOL.al tp1117 fun i1 I1 => ?_
 have v1':=I1.next
 have V1:=Y5.trans I1.hx
 refine WOL.lq1 [g5.next,c3] rfl rfl rfl fun M hM => ((k1115 (n:=n) H ((r4.hx I1.hx).relock M) (by omega) (by omega) ((f.on V1).held hM (fun b hb => by simp at hb;omega))).mono ?_)
 rintro v i2 ⟨I2,u5,u6,rfl,ru2,_,_⟩
 replace I2:=I2.relock
 replace ru2:=ru2.relock i1.lock
 generalize i2.withLock i1.lock = i2 at *
 have v2':=I2.next
 have V2:=V1.trans I2
 refine WOL.lq2 [g5.next] rfl rfl rfl rfl fun M hM => ((k1125 (n:=n) (a:=(p:Int)) (b:=(q:Int)) H (ru2.relock M) (by omega) (by omega) ((f.on V2).held hM (fun b hb => by simp at hb;omega))).mono ?_)
 rintro v i3 ⟨I3,R⟩
 replace I3:=I3.relock
 rw [Int.toNat_natCast,Int.toNat_natCast] at R
 have sb:=vers_small (L:=L) (S:=S) (M:=L.length - (p + q)) (p:=p) (q:=q) (by omega) (by omega) lim
 obtain ⟨bx,b7,m7',k7,rfl,hx,to⟩:=R.ok (errV_in (by rw [chordE_in (by omega) (by omega) (by omega) (by omega),te];rfl) (by omega)) sb
 clear R
 replace to:TrcO i2.next (i3.withLock i2.lock) bx _ _ _:=to.relock i2.lock
 replace hx:i2.next ≤ bx:=hx
 generalize i3.withLock i2.lock = i3 at *
 have lX:(tapC L S (vTn p q) (L.length - (p + q))).length = L.length - (p + q):=tapC_len
 have tx:=traceE_made (C:=tapC L S (vTn p q) (L.length - (p + q))) (n:=n + (p:Nat)) sb (by omega) (by rw [lX];omega) (by rw [lX];omega)
 have lhx:=holesOf_le ((tapC L S (vTn p q) (L.length - (p + q))).map fun c => c.2)
 rw [List.length_map,lX] at lhx
 replace ag:=ag (L.length - (p + q)) (by omega)
 replace sm:=sm (L.length - (p + q)) (by omega)
 generalize tapC L S (vTn p q) (L.length - (p + q)) = CX at *
 have v3':=I3.next
 have V3:=V2.trans I3
 have J3:=(I1.hx.trans I2).trans I3
 have B11:=(I1.at_.hx I2).hx I3
 refine WOL.mv rfl <| WOL.ex rfl rfl <| WOL.ex rfl rfl <| WOL.sto (vs:=[zi (n + (p:Nat)),slA bx _,.slice b7 m7' k7]) rfl rfl tp1117 B11 rfl rfl (Nat.le_of_ble_eq_true rfl) rfl (f.hx V3) (by omega) fun i4 P4' => WOL.as rfl <| WOL.nil <| keep [(2,_),(3,_),(4,_),(7,_),(8,_),(9,_),(10,_),(11,_),(12,_)] ⟨rfl,rfl,rfl,rfl,rfl,rfl,rfl,rfl,rfl,trivial⟩ ?_
 have v4':=P4'.next
 have J4:HX g5 i4:=P4'.hx _ J3 (by omega)
 have V4:=Y5.trans J4
 replace B11:=P4'.at_
 have r11:=(to.put P4' (by omega) (by omega)).trcC
 clear to
 replace A3:=A3.hx J4;replace A4:=A4.hx J4;replace B7:=B7.hx J4;replace r7:=r7.hx J4;replace r4:=r4.hx J4;replace A9:=A9.hx J4
 have l11:=B11.lt
 -- no error
 refine WL.seq <| WL.sr <| WOL.mv rfl <| WOL.mv rfl <| WOL.add (m:=0) (n:=0) rfl rfl (by decide) (by decide) <| WOL.mv rfl <| WOL.add (m:=0) (n:=0) rfl rfl (by decide) (by decide) <| WOL.bf rfl rfl rfl rfl <| WOL.mv rfl <| WOL.now (b:=false) rfl rfl <| WOL.mv rfl <| WOL.now (b:=false) rfl rfl <| WOL.len rfl (SlL.own eI A9 wts_len) u29 <| WOL.now (b:=false) rfl rfl <| WOL.fa rfl (fa_of fo1112_0) <| WOL.now (b:=false) rfl rfl <| WOL.ld rfl (load_one tp3 A3 rfl) <| WOL.now (b:=false) rfl rfl <| WOL.fa rfl (fa_of fo1112_1) <| WOL.now (b:=false) rfl rfl <| WOL.ld rfl (load_one tp3 A3 rfl) <| WOL.now (b:=false) rfl rfl <| WOL.add (m:=(p:Int)) (n:=(q:Int)) rfl rfl (by omega) (by omega) <| WOL.now (b:=false) rfl rfl <| WOL.sub (m:=(p:Int) + (q:Int)) (n:=1) rfl rfl (by omega) (by omega) <| WOL.now (b:=false) rfl rfl <| WOL.bf rfl rfl rfl (bne_eq_false_iff_eq.2 (by rw [wts_len];omega)) <| WOL.pkf rfl rfl <| WOL.nil <| WL.no rfl <| WL.skip <| keep [(2,_),(3,_),(4,_),(7,_),(9,_),(11,_)] ⟨rfl,rfl,rfl,rfl,rfl,rfl,trivial⟩ ?_
 -- weighted
 refine WL.sr <| WOL.ld rfl (load_row tp1112 A3 rfl (Nat.le_of_ble_eq_true rfl)) <| WOL.ld rfl (load_row tp1117 B7 rfl (Nat.le_of_ble_eq_true rfl)) <| WOL.al tp1117 fun j1 J1 => ?_
 have z1:=J1.next
 have U1:=V4.trans J1.hx
 refine WOL.lq1 [i4.next,c3] rfl rfl rfl fun M hM => ((k1150 (h:=j1.withLock M) H ((f.on U1).held hM (fun b hb => by simp at hb;omega))).mono ?_)
 rintro v j2 ⟨rfl,J2⟩
 replace J2:=J2.relock
 generalize j2.withLock j1.lock = j2 at *
 have z2:=J2.next
 have U2:=U1.trans J2
 have T2:=J1.hx.trans J2
 refine WOL.lq1 [i4.next,c3] rfl rfl rfl fun M hM => ((k1115 (n:=n + 1) H ((r7.hx T2).relock M) (by omega) (by omega) ((f.on U2).held hM (fun b hb => by simp at hb;omega))).mono ?_)
 rintro v j3 ⟨J3',u3,u4,rfl,ru7,_,_⟩
 replace J3':=J3'.relock
 replace ru7:=ru7.relock j2.lock
 generalize j3.withLock j2.lock = j3 at *
 have z3:=J3'.next
 have U3:=U2.trans J3'
 refine WOL.lq2 [i4.next] rfl rfl rfl rfl fun M hM => ((k1131 (n:=n + 1) (a:=(p:Int)) (b:=(q:Int)) H (ru7.relock M) (by omega) (by omega) ((f.on U3).held hM (fun b hb => by simp at hb;omega))).mono ?_)
 rintro v j4 ⟨J4',R⟩
 replace J4':=J4'.relock
 rw [Int.toNat_natCast,Int.toNat_natCast,lV,show n + 1 - (1 - (p:Nat)) * 1 = n + (p:Nat) by omega] at R
 have hM':L.length - 2 - (p + q - 2) * 1 = L.length - (p + q):=by omega
 rw [hM'] at R
 obtain ⟨bw,b6,m6',k6,rfl,hw,to⟩:=R.ok (errV_in (by rw [chordE_in (by omega) (by omega) (by omega) (by omega),tm];rfl) (by omega)) sm
 clear R
 replace to:TrcO j3.next (j4.withLock j3.lock) bw _ _ _:=to.relock j3.lock
 replace hw:j3.next ≤ bw:=hw
 generalize j4.withLock j3.lock = j4 at *
 have lW:(tapC (valC C) (holesOf (C.map fun c => c.2)) (wTp p q 1) (L.length - (p + q))).length = L.length - (p + q):=tapC_len
 have tw:=traceE_made (C:=tapC (valC C) (holesOf (C.map fun c => c.2)) (wTp p q 1) (L.length - (p + q))) (n:=n + (p:Nat)) sm (by omega) (by rw [lW];omega) (by rw [lW];omega)
 have lhw:=holesOf_le ((tapC (valC C) (holesOf (C.map fun c => c.2)) (wTp p q 1) (L.length - (p + q))).map fun c => c.2)
 rw [List.length_map,lW] at lhw
 generalize tapC (valC C) (holesOf (C.map fun c => c.2)) (wTp p q 1) (L.length - (p + q)) = CW at *
 have z4:=J4'.next
 have U4:=U3.trans J4'
 have T4:=(T2.trans J3').trans J4'
 have B13:=(J1.at_.hx J2).hx J3' |>.hx J4'
 refine WOL.mv rfl <| WOL.ex rfl rfl <| WOL.ex rfl rfl <| WOL.sto (vs:=[zi (n + (p:Nat)),slA bw _,.slice b6 m6' k6]) rfl rfl tp1117 B13 rfl rfl (Nat.le_of_ble_eq_true rfl) rfl (f.hx U4) (by omega) fun j5 P5 => WOL.as rfl <| WOL.nil <| keep [(2,_),(3,_),(4,_),(9,_),(11,_),(13,_),(14,_)] ⟨rfl,rfl,rfl,rfl,rfl,rfl,rfl,trivial⟩ ?_
 have z5:=P5.next
 have T5:HX i4 j5:=P5.hx _ T4 (by omega)
 have U5:=V4.trans T5
 replace B13:=P5.at_
 have r13:=(to.put P5 (by omega) (by omega)).trcC
 clear to
 replace A3:=A3.hx T5;replace A4:=A4.hx T5;replace B11:=B11.hx T5;replace r11:=r11.hx T5;replace r4:=r4.hx T5;replace A9:=A9.hx T5
 -- the weights' sum
 unfold cd1106b
 refine WL.sr <| WOL.as rfl <| WOL.nil ?_
 have s9:SlL encI 1 j5 (slA c9 (p + q - 1)) (wts p q):=SlL.own eI A9 wts_len
 have s9':=s9
 refine WL.seq <| WL.sr <| WOL.mv rfl <| WOL.len rfl s9 u29 <| WOL.mv rfl <| WOL.nil <| keep [(2,_),(3,_),(4,_),(11,_),(13,_),(14,_),(15,_),(83,_),(84,_),(85,_)] ⟨rfl,rfl,rfl,rfl,rfl,rfl,rfl,rfl,rfl,rfl,trivial⟩ ?_
 refine WL.upto (α:=Int) (wts p q).length (fun j s g => g = j5 ∧ s = ((wts p q).take j).foldl (fun s x => s + x) 0 ∧ 0 ≤ s ∧ s ≤ 4096 * (j:Nat)) (fun _ s => [(2,.int .u8 (z:Nat)),(3,ptr c3),(4,ptr c4),(11,ptr g5.next),(13,ptr i4.next),(14,zi 0),(15,zi s),(83,slA c9 (p + q - 1)),(84,zi ((wts p q).length:Nat))]) 0 rfl rfl (by rw [wts_len];omega) ⟨rfl,rfl,by omega,by omega⟩ ⟨rfl,rfl,rfl,rfl,rfl,rfl,rfl,rfl,rfl,rfl,trivial⟩ (fun _ _ => rfl) (fun _ _ _ => ⟨rfl,rfl,rfl,rfl,rfl,rfl,rfl,rfl,rfl,rfl,trivial⟩) (fun _ _ _ => ⟨rfl,rfl,rfl,rfl,rfl,rfl,rfl,rfl,rfl,rfl,trivial⟩) ?_ ?_
 ·rintro j s g hj ⟨rfl,hs,s0,s1⟩
  have hp_:(wts p q)[j]? = some (wgt p q j):=by
   unfold wts
   rw [List.getElem?_map,List.getElem?_range (by rw [wts_len] at hj;exact hj)];rfl
  have ht:(wts p q).take (j + 1) = (wts p q).take j ++ [wgt p q j]:=by
   rw [List.take_add_one,hp_];rfl
  obtain ⟨l0,l1⟩:=wgt_lim (p:=p) (q:=q) (i:=j) (by omega) (by omega) (by rw [wts_len] at hj;omega)
  have hj':j ≤ 10:=by rw [wts_len] at hj;omega
  obtain ⟨_,_,cc,fix,wr,el,g1,g2,g3,g4,g5⟩:=s9.at eI u29 tp3 hp_ .i64
  have gx:=g5 0 (by decide)
  rw [Nat.add_zero] at gx
  refine WL.sr <| WOL.ix rfl rfl g1 <| WOL.ld rfl (load_one tp3 g2 gx) <| WOL.as rfl <| WOL.nil ?_
  refine WL.reg <| WOL.mv rfl <| WOL.mv rfl <| WOL.add rfl rfl (by omega) (by omega) <| WOL.as rfl <| WOL.nil fun y k => ⟨s + wgt p q j,⟨rfl,?_,by omega,by omega⟩,k.sub ⟨rfl,rfl,rfl,rfl,rfl,rfl,rfl,rfl,rfl,rfl,trivial⟩⟩
  rw [ht,List.foldl_append,← hs];rfl
 rintro s g ⟨rfl,hs,s0,s1⟩
 rw [List.take_length] at hs
 have sc:=sum_core hp hp' hq hq'
 rw [← hs] at sc
 clear hs
 have pq:((p:Nat):Int) * (q:Nat) ≤ 25:=by
  rw [← Int.natCast_mul]
  have:=Nat.mul_le_mul hp' hq'
  omega
 have pq0:0 ≤ ((p:Nat):Int) * (q:Nat):=by rw [← Int.natCast_mul];omega
 have hl9:(wts p q).length ≤ 10:=by rw [wts_len];omega
 -- twice the sum,and what agrees
 refine WL.seq <| WL.sr <| WOL.mv rfl <| WOL.bf rfl rfl rfl rfl <| WOL.mv rfl <| WOL.now (b:=false) rfl rfl <| WOL.mv rfl <| WOL.now (b:=false) rfl rfl <| WOL.mul (m:=2) (n:=s) rfl rfl (by omega) (by omega) <| WOL.now (b:=false) rfl rfl <| WOL.fa rfl (fa_of fo1112_0) <| WOL.now (b:=false) rfl rfl <| WOL.ld rfl (load_one tp3 A3 rfl) <| WOL.now (b:=false) rfl rfl <| WOL.fa rfl (fa_of fo1112_1) <| WOL.now (b:=false) rfl rfl <| WOL.ld rfl (load_one tp3 A3 rfl) <| WOL.now (b:=false) rfl rfl <| WOL.mul (m:=(p:Int)) (n:=(q:Int)) rfl rfl (by omega) (by omega) <| WOL.now (b:=false) rfl rfl <| WOL.fa rfl (fa_of fo1112_0) <| WOL.now (b:=false) rfl rfl <| WOL.ld rfl (load_one tp3 A3 rfl) <| WOL.now (b:=false) rfl rfl <| WOL.fa rfl (fa_of fo1112_1) <| WOL.now (b:=false) rfl rfl <| WOL.ld rfl (load_one tp3 A3 rfl) <| WOL.now (b:=false) rfl rfl <| WOL.add (m:=(p:Int)) (n:=(q:Int)) rfl rfl (by omega) (by omega) <| WOL.now (b:=false) rfl rfl <| WOL.mul (m:=(p:Int) * (q:Int)) (n:=(p:Int) + (q:Int)) rfl rfl (by omega) (by omega) <| WOL.now (b:=false) rfl rfl <| WOL.bf rfl rfl rfl (bne_eq_false_iff_eq.2 sc) <| WOL.pkf rfl rfl <| WOL.mv rfl <| WOL.now (b:=false) rfl rfl <| WOL.ld rfl (load_row tp1117 B13 rfl (Nat.le_of_ble_eq_true rfl)) <| WOL.now (b:=false) rfl rfl <| WOL.ld rfl (load_row tp1117 B11 rfl (Nat.le_of_ble_eq_true rfl)) <| WOL.now (b:=false) rfl rfl ?_
 refine WOL.lq1 [g5.next] rfl rfl rfl fun M hM => ((k1150 (h:=TH.withLock _ M) H ((f.on U5).held hM (fun b hb => by simp at hb;omega))).mono ?_)
 rintro v g6 ⟨rfl,G6⟩
 replace G6:=G6.relock
 generalize TH.withLock g6 _ = g6 at *
 have U6:=U5.trans G6
 refine WOL.now (b:=false) rfl rfl <| WOL.cl1 rfl rfl ((k1150 H (f.on U6)).mono ?_)
 rintro v g7 ⟨rfl,G7⟩
 have U7:=U6.trans G7
 have T7:=G6.trans G7
 refine WOL.now (b:=false) rfl rfl <| WOL.cl2 rfl rfl rfl ((k1151 (n:=n + (p:Nat)) H (r13.hx T7) (r11.hx T7) tw tx (by rw [valC_len,valC_len,lW,lX]) (by omega) (by omega) (fun i hi => ag i (by rwa [valC_len,lW] at hi)) (f.on U7)).mono ?_)
 rintro v g8 ⟨rfl,G8⟩
 have T8:=T7.trans G8
 have U8:=U7.trans G8
 refine WOL.now (b:=false) rfl rfl <| WOL.nt rfl <| WOL.pkf rfl rfl <| WOL.nil <| WL.no rfl <| WL.skip ?_
 exact kto (fun y k => k1106c H K U8 f (A3.hx T8) (A4.hx T8) (r4.hx T8) hp hp' hq hq' te hl hS lim y k hz) ⟨rfl,rfl,rfl,trivial⟩
set_option maxHeartbeats 4000000 in
set_option maxRecDepth 10000 in
theorem k1106 (H:Has tp) (K:Awk tp) (r:TrcH h v1 v2 L S) (hz:z < 256) (f:Free0 h.next h) :
  CallW Tryz.prog tp (.func (.func 9) #[] #[]) #[.agg #[zi a,zi b],.agg #[zi n,v1,v2],.int .u8 (z:Nat)] h fun v _ => v = .bool true:=by
 obtain ⟨b1,k1,e1,_⟩:=id r.l
 obtain ⟨b2,k2,e2,_⟩:=id r.s
 subst e1 e2
 refine CallW.fnL (H.fn 9 f1106 rfl rfl) ?_
 refine WL.sr <| WOL.box rfl fun h1 N1 => WOL.box rfl fun h2 N2 => WOL.as rfl <| WOL.nil <| keep [(2,_),(3,_),(4,_)] ⟨rfl,rfl,rfl,trivial⟩ ?_
 have A3:At h2 h.next (.cells [zi a,zi b] true true 23):=N1.at_.hx N2.hx
 have A4:At h2 h1.next (.cells [zi n,.slice b1 L.length k1,.slice b2 S.length k2] true true 27):=N2.at_
 have X2:=N1.hx.trans N2.hx
 refine WL.seq <| WL.sr <| WOL.ld rfl (load_row tp1112 A3 rfl (Nat.le_of_ble_eq_true rfl)) <| WOL.ld rfl (load_row tp1114 A4 rfl (Nat.le_of_ble_eq_true rfl)) <| WOL.cl2 rfl rfl rfl ((k1149 (n:=n) (a:=a) (b:=b) H (r.hx X2) (f.on X2)).mono ?_)
 rintro v h3 ⟨X3,ok,rfl,hok⟩
 cases ok with
 | false =>
  refine WOL.nt rfl <| WOL.mv rfl <| WOL.skp (b:=true) rfl rfl <| WOL.skp (b:=true) rfl rfl <| WOL.skp (b:=true) rfl rfl <| WOL.pkt rfl rfl <| WOL.mv rfl <| WOL.skp (b:=true) rfl rfl <| WOL.skp (b:=true) rfl rfl <| WOL.skp (b:=true) rfl rfl <| WOL.pkt rfl rfl <| WOL.nil <| WL.yes rfl <| WL.sr <| WOL.cl0 rfl ((k11t K _).mono ?_)
  rintro v h4 ⟨rfl,rfl⟩
  exact WOL.as rfl <| WOL.nil <| WL.ret (WL.end_ rfl rfl)
 | true =>
  obtain ⟨ce,te,hl,hab,lim⟩:=hok rfl
  obtain ⟨p1,p2,p3,p4⟩:=chord_ok ce
  obtain ⟨_,_,m4,_⟩:=trace_ok te
  have hS:S.length ≤ 900000:=by
   have e:=holes_back m4
   have:=holesOf_le (knownL S L.length)
   rw [e,knownL_len] at this
   omega
  have Y3:=X2.trans X3
  replace A3:=A3.hx X3;replace A4:=A4.hx X3
  refine WOL.nt rfl <| WOL.mv rfl <| WOL.now (b:=false) rfl rfl <| WOL.fa rfl (fa_of fo1112_0) <| WOL.now (b:=false) rfl rfl <| WOL.ld rfl (load_one tp3 A3 rfl) <| WOL.now (b:=false) rfl rfl ?_
  by_cases c1:a > 5
  ·refine WOL.bt rfl rfl rfl (decide_eq_true c1) <| WOL.pkf rfl rfl <| WOL.mv rfl <| WOL.skp (b:=true) rfl rfl <| WOL.skp (b:=true) rfl rfl <| WOL.skp (b:=true) rfl rfl <| WOL.pkt rfl rfl <| WOL.nil <| WL.yes rfl <| WL.sr <| WOL.cl0 rfl ((k11t K _).mono ?_)
   rintro v h4 ⟨rfl,rfl⟩
   exact WOL.as rfl <| WOL.nil <| WL.ret (WL.end_ rfl rfl)
  refine WOL.bf rfl rfl rfl (decide_eq_false c1) <| WOL.pkf rfl rfl <| WOL.mv rfl <| WOL.now (b:=false) rfl rfl <| WOL.fa rfl (fa_of fo1112_1) <| WOL.now (b:=false) rfl rfl <| WOL.ld rfl (load_one tp3 A3 rfl) <| WOL.now (b:=false) rfl rfl ?_
  by_cases c2:b > 5
  ·refine WOL.bt rfl rfl rfl (decide_eq_true c2) <| WOL.pkf rfl rfl <| WOL.nil <| WL.yes rfl <| WL.sr <| WOL.cl0 rfl ((k11t K _).mono ?_)
   rintro v h4 ⟨rfl,rfl⟩
   exact WOL.as rfl <| WOL.nil <| WL.ret (WL.end_ rfl rfl)
  refine WOL.bf rfl rfl rfl (decide_eq_false c2) <| WOL.pkf rfl rfl <| WOL.nil <| WL.no rfl <| WL.skip ?_
  obtain ⟨p,rfl⟩:∃ p:Nat,a = p:=⟨a.toNat,by omega⟩
  obtain ⟨q,rfl⟩:∃ q:Nat,b = q:=⟨b.toNat,by omega⟩
  exact kto (k1106b H K Y3 f A3 A4 (r.hx Y3) (by omega) (by omega) (by omega) (by omega) te hl (by omega) hS lim hz) ⟨rfl,rfl,rfl,trivial⟩
end
theorem u8_nat' {z:Int} (h:(Lit.int .u8 z).wf = true):∃ b:Nat,z = (b:Int) ∧ b < 256:=by
 have h:(decide (0 ≤ z) && decide (z ≤ 255)) = true:=h
 rw [Bool.and_eq_true] at h
 have h1:=of_decide_eq_true h.1
 have h2:=of_decide_eq_true h.2
 exact ⟨z.toNat,by omega,by omega⟩
theorem val_byte {v:Value}:valOf Tryz.prog 5 [v] = v:=by unfold valOf;rw [Tryz.underlying5];rfl
set_option maxRecDepth 100000 in
theorem law1106:Law tpE 9 5 [23,27,5]:=by
 intro h us f ha
 obtain ⟨x0,x1,x2,rfl,⟨p0,y0,e0⟩,⟨p1,y1,e1⟩,⟨p2,y2,e2⟩⟩:=args3 ha
 have q0:=tyg_struct Tryz.underlying23 y0
 rw [val_agg (.inl ⟨_,Tryz.underlying23⟩)] at e0
 rw [val_agg (.inl ⟨_,Tryz.underlying27⟩)] at e1
 obtain ⟨c0,d0,rfl,_,t0,c1,d1,rfl,_,t1,rfl⟩:=q0
 obtain ⟨a,rfl,_⟩:=ty_int t0
 obtain ⟨b,rfl,_⟩:=ty_int t1
 obtain ⟨n1,v1,v2,L1,S1,rfl,r1⟩:=ty_trc (n:=1) y1
 obtain ⟨z,rfl,hz⟩:=tyg_int Tryz.underlying5 y2
 obtain ⟨z',ez,hz'⟩:=u8_nat' hz
 subst ez
 rw [val_byte] at e2
 subst e0 e1 e2
 exact k1106 hasE awkE r1 hz' f
end Go.Tidy
