/- A part of the proof. -/
import Derived.Test.YtjibbhaeaikhpaaGreatDoorPa6
import Derived.Test.YtjibbhaeaikhpaaGreatDoorPa2
import Derived.Test.YtjibbhaeaikhpaaGreatDoorPa5
set_option linter.all false
namespace Go.Tidy
open Go Go.Proofs Tab
variable {tp:TProg}
theorem rnd_zero {b:Int} (hb:0 < b):rnd 0 b = 0:=by
 unfold rnd
 exact Int.ediv_eq_zero_of_lt (by omega) (by omega)
def scCell (m d:Int) (c:Int × Bool):Int × Bool:=(rnd (c.1 * m) d,c.2)
def scC (m d:Int) (C:List (Int × Bool)):List (Int × Bool):=C.map (scCell m d)
theorem mul_small {x m:Int} {B N:Nat} (hx:x.natAbs ≤ B) (hm:m.natAbs ≤ N):(x * m).natAbs ≤ B * N:=by
 rw [Int.natAbs_mul]; exact Nat.mul_le_mul hx hm
theorem k102 (H:Has tp) {c:Int × Bool} {m d:Int} {c4 c5:Nat} {h:TH} (hc:c.1.natAbs ≤ 16384) (A4:At h c4 (.cells [zi m] true true 3)) (A5:At h c5 (.cells [zi d] true true 3)) (hm:m.natAbs ≤ 1000) (hd:0 < d) (hd2:d ≤ 1000) (f:Free0 h.next h) :
  CallW Tryz.prog tp (.func (.func 118) #[] #[ptr c4,ptr c5]) #[.agg #[.int .i64 c.1,.bool c.2]] h fun v h' => v = .agg #[.int .i64 (scCell m d c).1,.bool (scCell m d c).2] ∧ HX h h':=by
 have hp:(c.1 * m).natAbs ≤ 16384 * 1000:=mul_small hc hm
 refine CallW.fnC (H.fn 118 f102 rfl rfl) ?_
 refine WL.sr <| WOL.box rfl fun h1 N1 => ?_
 refine WOL.al tp134 fun h2 N2 => ?_
 refine WOL.nil <| keep [(1,_),(2,_),(3,_),(4,_)] ⟨rfl,rfl,rfl,rfl,trivial⟩ ?_
 have X2:=N1.hx.trans N2.hx
 have A3:=N1.at_.hx N2.hx
 refine WL.sr <| WOL.fa rfl (fa_of fo134_0) ?_
 refine WOL.ld rfl (load_one tp3 A3 rfl) ?_
 refine WOL.ld rfl (load_one tp3 (A4.hx X2) rfl) ?_
 refine WOL.mul rfl rfl (by omega) (by omega) ?_
 refine WOL.ld rfl (load_one tp3 (A5.hx X2) rfl) ?_
 refine WOL.fa rfl (fa_of fo134_1) ?_
 refine WOL.ld rfl (load_one tp4 A3 rfl) ?_
 refine WOL.lk2 rfl rfl rfl fun M => ((k103 H (a:=c.1 * m) (b:=d) (by omega) hd (by omega)).mono ?_)
 rintro v h3 ⟨rfl,rfl⟩
 have X3:HX h2 ((h2.withLock M).withLock h2.lock):=(HX.refl _).relock
 generalize (h2.withLock M).withLock h2.lock = h3 at *
 have Y3:=X2.trans X3
 refine WOL.bd rfl bd134 ?_
 have n1:=N1.next
 refine WOL.sto rfl rfl tp134 (N2.at_.hx X3) rfl rfl (Nat.le_of_ble_eq_true rfl) rfl (f.hx Y3) (by omega) fun h4 P4 => ?_
 refine WOL.nil <| keep [(4,_)] ⟨rfl,trivial⟩ ?_
 exact WL.ret (WL.endC rfl (load_row tp134 P4.at_ rfl (Nat.le_of_ble_eq_true rfl)) ⟨rfl,P4.hx _ Y3 (by omega)⟩)
theorem k101 (H:Has tp) {v:Value} {C:List (Int × Bool)} {m d:Int} {c4 c5:Nat} {h:TH} (s:SlL encC 2 h v C) (hS:∀ c,c ∈ C → c.1.natAbs ≤ 16384) (hC:C.length ≤ 1000000) (A4:At h c4 (.cells [zi m] true true 3)) (A5:At h c5 (.cells [zi d] true true 3)) (hm:m.natAbs ≤ 1000) (hd:0 < d) (hd2:d ≤ 1000) (f:Free0 h.next h) :
  CallW Tryz.prog tp (.func (.func 117) #[] #[]) #[v,.func (.func 118) #[] #[ptr c4,ptr c5]] h fun v' h' => ∃ b,v' = .slice (some ⟨b,0,none⟩) C.length C.length ∧ h.next ≤ b ∧ At h' b (.cells (cat encC (scC m d C)) true true 161) ∧ HX h h':=by
 refine CallW.fnL (H.fn 117 f101 rfl rfl) ?_
 refine WL.sr <| WOL.as rfl <| WOL.nil <| keep [(0,_),(1,_)] ⟨rfl,rfl,trivial⟩ ?_
 refine WL.sr <| WOL.mv rfl ?_
 refine WOL.len rfl s u135 ?_
 refine WOL.ms rfl rfl u135 tp134 (by decide) (by omega) fun h1 N1 => ?_
 refine WOL.as rfl <| WOL.nil <| keep [(0,_),(1,_),(5,_)] ⟨rfl,rfl,rfl,trivial⟩ ?_
 refine WL.seq ?_
 refine WL.sr <| WOL.mv rfl ?_
 refine WOL.len rfl (s.hx N1.hx) u135 ?_
 refine WOL.mv rfl <| WOL.nil <| keep [(1,_),(5,_),(11,_),(12,_),(13,_)] ⟨rfl,rfl,rfl,rfl,rfl,trivial⟩ ?_
 have hlen:(scC m d C).length = C.length:=by simp [scC]
 have A1:At h1 h.next (.cells (cat encC ((scC m d C).take 0 ++ List.replicate ((scC m d C).length - 0) ((0:Int),false))) true true 161):=by
  rw [fill_zero,hlen,← Enc.rep]; exact N1.at_
 refine WL.block ?_
 refine WL.loop (fun k a h2 => ∃ j:Nat,j ≤ C.length ∧ k = C.length - j ∧ HX h h2 ∧ At h2 h.next (.cells (cat encC ((scC m d C).take j ++ List.replicate ((scC m d C).length - j) ((0:Int),false))) true true 161) ∧ Kn [(1,.func (.func 118) #[] #[ptr c4,ptr c5]),(5,.slice (some ⟨h.next,0,none⟩) C.length C.length),(11,v),(12,zi C.length),(13,zi (j:Nat))] a) C.length (fun a q => ⟨0,by omega,by omega,N1.hx,A1,q.sub ⟨rfl,rfl,rfl,rfl,rfl,trivial⟩⟩) ?_
 rintro k a h2 ⟨j,hj,rfl,X2,A2,q⟩
 refine q.go ?_
 refine WL.sr ?_
 refine WOL.bi (v:=.bool (decide ((j:Int) < C.length))) rfl rfl rfl ?_
 refine WOL.nil <| keep [(1,_),(5,_),(11,_),(12,_),(13,_),(14,_)] ⟨rfl,rfl,rfl,rfl,rfl,rfl,trivial⟩ ?_
 refine WL.seq ?_
 by_cases hlt:j < C.length
 ·rw [show decide ((j:Int) < (C.length:Int)) = true by simpa using hlt]
  refine WL.yes rfl <| WL.skip ?_
  have hC1:C[j]? = some C[j]:=List.getElem?_eq_getElem hlt
  have hl1:=hS _ (List.mem_of_getElem? hC1)
  generalize C[j] = c at *
  have hR1:(scC m d C)[j]? = some (scCell m d c):=by unfold scC; rw [List.getElem?_map,hC1]; rfl
  obtain ⟨b,o,cc,fix,wr,el,e1,e2,e3,e4,e5⟩:=(s.hx X2).at eC u135 tp134 hC1 .i64
  refine WL.seq ?_
  refine WL.block ?_
  refine WL.sr <| WOL.mv rfl ?_
  refine WOL.ix rfl rfl e1 ?_
  refine WOL.ld rfl (load_row tp134 e2 e4 e3) ?_
  refine WOL.al tp134 fun h3 N3 => ?_
  refine WOL.as rfl ?_
  refine WOL.sto rfl rfl tp134 N3.at_ rfl rfl (Nat.le_of_ble_eq_true rfl) rfl (f.hx (X2.trans N3.hx)) X2.next fun h4 P4 => ?_
  have X4:=P4.hx _ (X2.trans N3.hx) X2.next
  have l2:h.next < h2.next:=A2.lt
  have A4':=P4.oth _ _ (by omega) (A2.hx N3.hx)
  refine WOL.nil <| keep [(1,_),(5,_),(6,_),(7,_),(11,_),(12,_),(13,_)] ⟨rfl,rfl,rfl,rfl,rfl,rfl,rfl,trivial⟩ ?_
  refine WL.reg <| WOL.mv rfl <| WOL.mv rfl <| WOL.mv rfl ?_
  refine WOL.ld rfl (load_row tp134 P4.at_ rfl (Nat.le_of_ble_eq_true rfl)) ?_
  refine WOL.cl1 rfl rfl ((k102 H (c:=c) (m:=m) (d:=d) hl1 (A4.hx X4) (A5.hx X4) hm hd hd2 (f.on X4)).mono ?_)
  rintro v5 h5 ⟨rfl,X5⟩
  have Y5:=X4.trans X5
  refine WOL.ix rfl rfl (indexAddr_tp u135 tp134 hlt) ?_
  refine WOL.sto rfl rfl tp134 (A4'.hx X5) rfl rfl (by rw [eC.cat_len,fill_len _ _ _ (by omega)]; omega) rfl (f.hx Y5) (Nat.le_refl _) fun h6 P6 => ?_
  have A6:=P6.at_
  rw [show (0:Nat) + j * 2 = j * 2 by omega,show (Value.agg #[.int .i64 (scCell m d c).1,.bool (scCell m d c).2]).cells.toList = encC (scCell m d c) from rfl,eC.set (by rw [fill_len _ _ _ (by omega)]; omega)] at A6
  have hi:j < (scC m d C).length:=by omega
  rw [show scCell m d c = (scC m d C)[j] from Option.some.inj (by rw [← hR1,List.getElem?_eq_getElem hi]),fill_set _ _ _ hi] at A6
  refine WOL.nil <| keep [(1,_),(5,_),(11,_),(12,_),(13,_)] ⟨rfl,rfl,rfl,rfl,rfl,trivial⟩ ?_
  refine WL.reg ?_
  refine WOL.bi (v:=zi ((j + 1:Nat):Int)) rfl rfl (by show some (Value.int .i64 (fwrap .i64 ((j:Int) + 1))) = _; rw [fwrap_i64 (by omega) (by omega)]; rfl) ?_
  refine WOL.mv rfl <| WOL.nil ?_
  exact fun a q => ⟨C.length - (j + 1),by omega,j + 1,by omega,rfl,P6.hx _ Y5 (Nat.le_refl _),A6,q.sub ⟨rfl,rfl,rfl,rfl,rfl,trivial⟩⟩
 ·rw [show decide ((j:Int) < (C.length:Int)) = false by simpa using hlt]
  refine WL.no rfl <| WL.exit ?_
  obtain rfl:j = C.length:=by omega
  refine WL.sr <| WOL.mv rfl <| WOL.as rfl <| WOL.nil <| keep [(4,_)] ⟨rfl,trivial⟩ ?_
  rw [← hlen,fill_all] at A2
  exact WL.ret (WL.end_ rfl ⟨h.next,rfl,Nat.le_refl _,A2,X2⟩)
def scErr (e:Int) (C:List (Int × Bool)):Int:=cond (e != 0) e (cond (allOk C) 0 4)
theorem scC_ok {m d:Int} {C:List (Int × Bool)}:(scC m d C).length = C.length:=by simp [scC]
set_option maxHeartbeats 1000000 in
set_option maxRecDepth 10000 in
theorem k43 (H:Has tp) (X:HasX tp) {s:ByteArray} {n m d:Int} {v1 v2:Value} {F:List Nat} {S:List (Int × Int)} {es L:List Int} {h:TH} (r:RunH h v1 v2 F S) (hE:SErr F es) (hL:firstNZ es = 0 → Lev F L)
  (hF:F.length ≤ 900000) (hS:S.length ≤ 900000) (f:Free0 h.next h) :
  CallW Tryz.prog tp (.func (.func 45) #[] #[]) #[runV s n v1 v2,zi m,zi d] h fun v h' => RunR h h' v s n (scC m d (cellsL L S)) (scErr (firstNZ [runE s n F.length S es L,outB m (-1000) 1000,outB d 1 1000]) (scC m d (cellsL L S))):=by
 obtain ⟨bv1,kv1,rfl⟩:=r.f.form
 obtain ⟨bv2,kv2,rfl⟩:=r.s.form
 refine CallW.fnL (H.fn 45 f43 rfl rfl) ?_
 refine WL.sr <| WOL.box rfl fun h1 N1 => ?_
 refine WOL.box rfl fun h2 N2 => ?_
 refine WOL.box rfl fun h3 N3 => ?_
 refine WOL.al tp52 fun h4 N4 => ?_
 refine WOL.as rfl <| WOL.nil <| keep [(3,_),(4,_),(5,_),(6,_)] ⟨rfl,rfl,rfl,rfl,trivial⟩ ?_
 have n1:=N1.next
 have n2:=N2.next
 have n3:=N3.next
 have n4:=N4.next
 have X4:HX h h4:=((N1.hx.trans N2.hx).trans N3.hx).trans N4.hx
 have A3:=((N1.at_.hx N2.hx).hx N3.hx).hx N4.hx
 have A4:At h4 h1.next (.cells [zi m] true true 3):=(N2.at_.hx N3.hx).hx N4.hx
 have A5:At h4 h2.next (.cells [zi d] true true 3):=N3.at_.hx N4.hx
 have A6:=N4.at_
 refine WL.sr ?_
 refine WOL.ld rfl (load_row tp52 A3 rfl (Nat.le_of_ble_eq_true rfl)) ?_
 refine WOL.ld rfl (load_one tp3 A4 rfl) ?_
 refine WOL.ld rfl (load_one tp3 A5 rfl) ?_
 refine WOL.lq1 [h2.next,h1.next] rfl rfl rfl fun M hM => ((k41 H X (s:=s) (n:=n) ((r.hx X4).relock' M) hE hL (by omega) (by omega) ((f.on X4).held hM (fun b hb => by simp at hb; omega))).mono ?_)
 rintro v h5 ⟨rfl,X5⟩
 replace X5:=X5.relock
 generalize h5.withLock h4.lock = h5 at *
 refine WOL.lk3 rfl rfl rfl rfl fun M => ((k72 H _ _ _ _).mono ?_)
 rintro v h6 ⟨rfl,rfl⟩
 have X6:HX h5 ((h5.withLock M).withLock h5.lock):=(HX.refl _).relock
 generalize (h5.withLock M).withLock h5.lock = h6 at *
 refine WOL.cl3 rfl rfl rfl rfl ((k72 H _ _ _ _).mono ?_)
 rintro v h6 ⟨rfl,rfl⟩
 refine WOL.bsl rfl u166 tp30 (by decide) (by decide) (by decide) (filled_ints3 _ _ _) fun h8 N8 => ?_
 refine WOL.cl1 rfl rfl ((k71 H (l:=[_,_,_]) N8.at_.get (by simp)).mono ?_)
 rintro v h8 ⟨rfl,rfl⟩
 have Z8:HX h4 h8:=(X5.trans X6).trans N8.hx
 have Y8:=X4.trans Z8
 have z8:=Z8.next
 generalize hEE:firstNZ [runE s n F.length S es L,outB m (-1000) 1000,outB d 1 1000] = E
 refine WOL.as rfl <| WOL.nil <| keep [(3,_),(4,_),(5,_),(6,_),(8,_)] ⟨rfl,rfl,rfl,rfl,rfl,trivial⟩ ?_
 refine WL.seq ?_
 refine WL.sr <| WOL.mv rfl ?_
 refine WOL.bi rfl rfl nzero ?_
 refine WOL.nil <| keep [(3,_),(4,_),(5,_),(6,_),(8,_),(19,_)] ⟨rfl,rfl,rfl,rfl,rfl,rfl,trivial⟩ ?_
 rcases nz_cases E with h0 | h0
 ·rw [h0]
  have z:=firstNZ_zero (hEE.trans h0)
  have V:=valid_of (s:=s) (n:=n) (S:=S) hL (z _ (by simp))
  have b1:=outB_zero (z (outB m (-1000) 1000) (by simp))
  have b2:=outB_zero (z (outB d 1 1000) (by simp))
  have Vm:=V.m
  have hcl:(cellsL L S).length = F.length:=cells_len V.lev V.in_
  have lim:=cells_lim V.lev S
  have hE0:E = 0:=h0
  refine WL.no rfl <| WL.skip ?_
  refine WL.sr ?_
  refine WOL.ld rfl (load_row tp52 (A3.hx Z8) rfl (Nat.le_of_ble_eq_true rfl)) ?_
  refine WOL.cl1 rfl rfl ((k85 H (s:=s) (n:=n) (r.hx Y8) V.lev (by omega) (by omega) V.in_ (f.on Y8)).mono ?_)
  rintro v h10 ⟨b9,rfl,o9,A9,X10⟩
  have Y10:=Y8.trans X10
  have Z10:=Z8.trans X10
  refine WOL.mf rfl ?_
  refine WOL.cl2 rfl rfl rfl ((k101 H (SlL.own eC A9 hcl) lim (by omega) (A4.hx Z10) (A5.hx Z10) (by omega) (by omega) (by omega) (f.on Y10)).mono ?_)
  rintro v h11 ⟨b11,rfl,o11,A11,X11⟩
  have Y11:=Y10.trans X11
  have Z11:=Z10.trans X11
  have sl11:SlL encC 2 h11 (.slice (some ⟨b11,0,none⟩) (cellsL L S).length (cellsL L S).length) (scC m d (cellsL L S)):=SlL.own eC A11 (by rw [scC_ok])
  refine WOL.as rfl <| WOL.nil <| keep [(3,_),(6,_),(9,_)] ⟨rfl,rfl,rfl,trivial⟩ ?_
  refine WL.seq ?_
  refine WL.sr <| WOL.mv rfl ?_
  refine WOL.cl1 rfl rfl ((k104 H sl11 (by rw [scC_ok]; omega)).mono ?_)
  rintro v h12 ⟨rfl,X12⟩
  have Y12:=Y11.trans X12
  have Z12:=Z11.trans X12
  refine WOL.nt rfl <| WOL.nil <| keep [(3,_),(6,_),(9,_),(28,_)] ⟨rfl,rfl,rfl,rfl,trivial⟩ ?_
  have z12:=Z12.next
  cases hok:allOk (scC m d (cellsL L S)) with
  | false =>
   refine WL.yes rfl <| WL.sr <| WOL.bd rfl bd52z ?_
   refine WOL.sto rfl rfl tp52 (A6.hx Z12) rfl rfl (Nat.le_of_ble_eq_true rfl) rfl (f.hx Y12) (by omega) fun h13 P13 => ?_
   refine WOL.as rfl <| WOL.nil ?_
   refine WL.ret (WL.endC1 (t:=6) (s:=7) rfl rfl (load_row tp52 P13.at_ rfl (Nat.le_of_ble_eq_true rfl)) ⟨P13.hx _ Y12 (by omega),.inl ⟨?_,?_⟩⟩)
   ·unfold scErr; rw [hok]; decide
   ·unfold scErr; rw [hok]; rfl
  | true =>
   refine WL.no rfl <| WL.skip ?_
   refine WL.sr <| WOL.fa rfl (fa_of fo52_0) ?_
   refine WOL.ld rfl (load_one tp9 (A3.hx Z12) rfl) ?_
   refine WOL.fa rfl (fa_of fo52_1) ?_
   refine WOL.ld rfl (load_one tp3 (A3.hx Z12) rfl) ?_
   refine WOL.mv rfl ?_
   refine WOL.cl3 rfl rfl rfl rfl ((k89 H (s:=s) (n:=n) (sl11.hx X12) (allOk_iff.1 hok) (by rw [scC_ok]; omega) (f.on Y12)).mono ?_)
   rintro v h14 ⟨q1,q2,rfl,X14,O14⟩
   have Y14:=Y12.trans X14
   obtain ⟨bo1,k1,rfl⟩:=O14.r.f.form
   obtain ⟨bo2,k2,rfl⟩:=O14.r.s.form
   refine WOL.sto rfl rfl tp52 ((A6.hx Z12).hx X14) rfl rfl (Nat.le_of_ble_eq_true rfl) rfl (f.hx Y14) (by omega) fun h15 P15 => ?_
   refine WOL.as rfl <| WOL.nil ?_
   have y12:=Y12.next
   refine WL.ret (WL.endC1 (t:=6) (s:=7) rfl rfl (load_row tp52 P15.at_ rfl (Nat.le_of_ble_eq_true rfl)) ⟨P15.hx _ Y14 (by omega),.inr ⟨?_,_,_,rfl,(O14.away P15 (by omega)).le (by omega)⟩⟩)
   unfold scErr; rw [hok]; rfl
 ·rw [h0]
  refine WL.yes rfl <| WL.sr <| WOL.bd rfl bd52z <| WOL.mv rfl ?_
  refine WOL.sto rfl rfl tp52 (A6.hx Z8) rfl rfl (Nat.le_of_ble_eq_true rfl) rfl (f.hx Y8) (by omega) fun h9 P9 => ?_
  refine WOL.as rfl <| WOL.nil ?_
  have hse:scErr E (scC m d (cellsL L S)) = E:=by unfold scErr; rw [h0]; rfl
  rw [hse]
  exact WL.ret (WL.endC1 (t:=6) (s:=7) rfl rfl (load_row tp52 P9.at_ rfl (Nat.le_of_ble_eq_true rfl)) ⟨P9.hx _ Y8 (by omega),.inl ⟨by simpa using h0,rfl⟩⟩)
end Go.Tidy
namespace Go.Tidy
open Go Go.Proofs Tab
variable {tp:TProg}
section
variable {α:Type} {enc:α → List Value} {n0:Nat} {h h':TH} {v:Value} {e:TypeId} {l:List α}
theorem own_block (o:OwnL enc n0 h v e l) (hl:0 < l.length):∃ b,v = .slice (some ⟨b,0,none⟩) l.length l.length ∧ n0 ≤ b ∧ At h b (.cells (cat enc l) false true e):=by
 rcases o with ⟨_,rfl⟩ | ⟨_,h⟩
 ·simp at hl
 ·exact h
theorem own_of {b m:Nat} (hm:l.length = m) (hn:n0 ≤ b) (a:At h b (.cells (cat enc l) false true e)) (hl:0 < m):OwnL enc n0 h (.slice (some ⟨b,0,none⟩) m m) e l:=by
 subst hm
 exact .inr ⟨fun h => by rw [h] at hl; simp at hl,b,rfl,hn,a⟩
theorem own_put {c:Nat} {x:TB} (o:OwnL enc n0 h v e l) (p:Put h h' c x) (hc:bl v ≠ some c):OwnL enc n0 h' v e l:=o.keep fun d y hd ha => p.oth _ _ (fun q => hc (by rw [hd,q])) ha
end
theorem own_ne {α β:Type} {enc:α → List Value} {enc':β → List Value} {n0 n1:Nat} {h:TH} {v w:Value} {e e':TypeId} {l:List α} {m:List β} (o:OwnL enc n0 h v e l) (p:OwnL enc' n1 h w e' m) (he:e ≠ e'):∀ c,bl v = some c → bl w ≠ some c:=by
 intro c h1 h2
 rcases o with ⟨rfl,_⟩ | ⟨_,b,rfl,_,a⟩
 ·cases h1
 ·rcases p with ⟨rfl,_⟩ | ⟨_,b',rfl,_,a'⟩
  ·cases h2
  ·cases h1; cases h2
   have:=a'.get.symm.trans a.get
   obtain ⟨_,_,_,q⟩:=TB.cells.inj (Option.some.inj this)
   exact he q.symm
def okTo (Z:List Int) (Y:List Bool) (j:Nat):Prop:=∀ (i:Nat) (z:Int),i < j → Z[i]? = some z → Y[i]? = some true → okI z = true
theorem splice1 {α:Type} {enc:α → List Value} (E:Enc enc 1) {l:List α} {i:Nat} (h:i < l.length) (a:α):splice (cat enc l) (0 + i * 1) (enc a) = cat enc (l.set i a):=by
 rw [Nat.zero_add]; exact E.set h a
end Go.Tidy
namespace Go.Tidy
open Go Go.Proofs Tab
variable {tp:TProg}
def SumR (h h':TH) (v:Value) (s:ByteArray) (n:Int) (Z:List Int) (Y:List Bool) (sh:Bool):Prop :=
  HX h h' ∧ ((sh = false ∧ v = .tuple #[run0,.int .i64 2]) ∨ (sh = true ∧ ¬ okTo Z Y Z.length ∧ v = .tuple #[run0,.int .i64 4]) ∨
    (sh = true ∧ okTo Z Y Z.length ∧ ∃ w1 w2,v = .tuple #[runV s n w1 w2,.int .i64 0] ∧ RunO h.next h' w1 w2 (madeF Z Y) (holesOf Y)))
theorem cellsK_get {L:List Int} {K:List Bool} {i:Nat} {x:Int} {p:Bool} (hx:L[i]? = some x) (hp:K[i]? = some p):(cellsK L K)[i]? = some (if p = true then (x,true) else (0,false)):=by
 unfold cellsK; rw [List.getElem?_zipWith,hx,hp]
theorem cellsK_ln {L:List Int} {K:List Bool} (h:K.length = L.length):(cellsK L K).length = L.length:=by simp [cellsK,h]
theorem ok_cells {Z:List Int} {Y:List Bool} (h:Y.length = Z.length):allOk (cellsK Z Y) = true ↔ okTo Z Y Z.length:=by
 rw [allOk_iff]
 constructor
 ·intro ok i z hi hz hy
  have:=ok _ (List.mem_of_getElem? (cellsK_get hz hy))
  exact okI_iff.2 this
 ·intro ok c hc
  obtain ⟨i,hi,hci⟩:=List.getElem_of_mem hc
  have hl:=cellsK_ln h
  have hz:Z[i]? = some Z[i]:=List.getElem?_eq_getElem (by omega)
  have hy:Y[i]? = some Y[i]:=List.getElem?_eq_getElem (by omega)
  have:=cellsK_get hz hy
  rw [List.getElem?_eq_getElem hi,hci] at this
  obtain rfl:=Option.some.inj this
  cases hb:Y[i] with
  | false => simp
  | true => rw [hb] at hy; simpa using okI_iff.1 (ok i _ (by omega) hz hy)
end Go.Tidy
namespace Go.Tidy
open Go Go.Proofs Tab
variable {tp:TProg}
structure Rows3 (h:TH) (b:Nat) (Xs:List Value) (Cs:List (List (Int × Bool))):Prop where
 at_:At h b (.cells Xs true true 162)
 len:Xs.length = Cs.length
 sl:∀ (i:Nat) (x:Value) (C:List (Int × Bool)),Xs[i]? = some x → Cs[i]? = some C → SlL encC 2 h x C
theorem Rows3.hx {h h':TH} {b:Nat} {Xs:List Value} {Cs:List (List (Int × Bool))} (r:Rows3 h b Xs Cs) (x:HX h h'):Rows3 h' b Xs Cs:=⟨r.at_.hx x,r.len,fun i y C h1 h2 => (r.sl i y C h1 h2).hx x⟩
end Go.Tidy
namespace Go.Tidy
open Go Go.Proofs Tab
variable {tp:TProg}
theorem Rows3.relock {h:TH} {b:Nat} {Xs:List Value} {Cs:List (List (Int × Bool))} (r:Rows3 h b Xs Cs) (M:List Nat):Rows3 (h.withLock M) b Xs Cs:=⟨r.at_.relock M,r.len,fun i y C h1 h2 => (r.sl i y C h1 h2).relock M⟩
end Go.Tidy
namespace Go.Tidy
open Go Go.Proofs Tab
variable {tp:TProg}
section
variable {P:Program} {α:Type} {enc:α → List Value} {n n0:Nat} {h:TH} {v:Value} {e:TypeId} {l:List α} {z:List Value} {row:Bool}
theorem HX.locked {h h':TH} (x:HX h h') (M:List Nat):HX (h.withLock M) (h'.withLock M):=⟨x.next,x.floor,rfl,x.old⟩
theorem HX.unlock {h h' g:TH} {M:List Nat} (x:HX (h.withLock M) g) (hl:h'.lock = h.lock):HX h (g.withLock h'.lock):=by rw [hl]; exact x.relock
end
def JoinR (h h':TH) (v:Value) (s:ByteArray) (n:Int) (Z:List Int) (Y:List Bool) (e:Int):Prop :=
 HX h h' ∧ ((e ≠ 0 ∧ v = .tuple #[run0,.int .i64 e]) ∨ (e = 0 ∧ ∃ w1 w2,v = .tuple #[runV s n w1 w2,.int .i64 0] ∧ RunO h.next h' w1 w2 (madeF Z Y) (holesOf Y)))
theorem cellsK_app:∀ {L M:List Int} {K J:List Bool},K.length = L.length → cellsK (L ++ M) (K ++ J) = cellsK L K ++ cellsK M J
 | [],_,[],_,_ => rfl
 | [],_,_ :: _,_,h => by simp at h
 | _ :: _,_,[],_,h => by simp at h
 | l :: L,M,k :: K,J,h => by
  have:=cellsK_app (L:=L) (M:=M) (K:=K) (J:=J) (by simpa using h)
  unfold cellsK at this ⊢
  simp only [List.cons_append,List.zipWith_cons_cons,this]
end Go.Tidy
namespace Go.Tidy
open Go Go.Proofs Tab
variable {tp:TProg}
def scL (m d:Int) (L:List Int):List Int:=L.map fun x => rnd (x * m) d
theorem scL_get {m d:Int} {L:List Int} {j:Nat} {x:Int} (h:L[j]? = some x):(scL m d L)[j]? = some (rnd (x * m) d):=by
 unfold scL; rw [List.getElem?_map,h]; rfl
theorem scL_len {m d:Int} {L:List Int}:(scL m d L).length = L.length:=by simp [scL]
theorem sc_cells {m d:Int} (hd:0 < d):∀ {L:List Int} {K:List Bool},scC m d (cellsK L K) = cellsK (scL m d L) K
 | [],_ => rfl
 | _ :: _,[] => rfl
 | x :: L,k :: K => by
  have:=sc_cells (m:=m) hd (L:=L) (K:=K)
  unfold scC cellsK scL at *
  simp only [List.zipWith_cons_cons,List.map_cons,this]
  congr 1
  cases k
  ·show (rnd (0 * m) d,false) = ((0:Int),false); rw [Int.zero_mul,rnd_zero hd]
  ·rfl
def okZ (Z:List Int) (j:Nat):Prop:=∀ (i:Nat) (z:Int),i < j → Z[i]? = some z → okI z = true
set_option maxHeartbeats 1000000 in
set_option maxRecDepth 10000 in
theorem k46 (H:Has tp) {s:ByteArray} {n m d:Int} {v1 v2:Value} {F:List Nat} {S:List (Int × Int)} {L:List Int} {h:TH} (r:RunH h v1 v2 F S) (V:Valid s n F S L) (hS:S.length ≤ 900000) (hm:m.natAbs ≤ 1000) (hd:0 < d) (hd2:d ≤ 1000) (f:Free0 h.next h) :
    CallW Tryz.prog tp (.func (.func 48) #[] #[]) #[runV s n v1 v2,zi m,zi d] h fun v h' => JoinR h h' v s n (scL m d L) (knownL S F.length) (cond (allOk (cellsK (scL m d L) (knownL S F.length))) 0 4):=by
  obtain ⟨bv1,kv1,rfl⟩:=r.f.form
  obtain ⟨bv2,kv2,rfl⟩:=r.s.form
  have Vm:=V.m
  have kl:=V.kl
  have ll:=V.lev.1
  have dk:=V.dark
  refine CallW.fnL (H.fn 48 f46 rfl rfl) ?_
  refine WL.sr <| WOL.box rfl fun h1 N1 => ?_
  refine WOL.al tp46 fun h2 N2 => ?_
  refine WOL.as rfl <| WOL.nil <| keep [(1,_),(2,_),(3,_),(6,_)] ⟨rfl,rfl,rfl,rfl,trivial⟩ ?_
  have n1:=N1.next
  have n2:=N2.next
  have X2:=N1.hx.trans N2.hx
  have A3:=N1.at_.hx N2.hx
  have A6:=N2.at_
  refine WL.sr ?_
  refine WOL.ld rfl (load_row tp46 A3 rfl (Nat.le_of_ble_eq_true rfl)) ?_
  refine WOL.cl1 rfl rfl ((k96 H (s:=s) (n:=n) (r.hx X2) V.lev (by omega) (by omega) (f.on X2)).mono ?_)
  rintro v h3 ⟨w8,w9,rfl,O8,O9,X3⟩
  refine WOL.mv rfl <| WOL.ex rfl rfl <| WOL.ex rfl rfl <| WOL.as rfl <| WOL.as rfl <| WOL.nil <| keep [(1,_),(2,_),(3,_),(6,_),(8,_),(9,_)] ⟨rfl,rfl,rfl,rfl,rfl,rfl,trivial⟩ ?_
  refine WL.seq ?_
  refine WL.sr <| WOL.as rfl <| WOL.nil <| keep [(1,_),(2,_),(3,_),(6,_),(8,_),(9,_),(10,_)] ⟨rfl,rfl,rfl,rfl,rfl,rfl,rfl,trivial⟩ ?_
  refine WL.block ?_
  refine WL.loop (fun k a hh => ∃ j:Nat,j ≤ L.length ∧ k = L.length - j ∧ HX h2 hh ∧ okZ (scL m d L) j ∧ OwnL encI h2.next hh w8 3 ((scL m d L).take j ++ L.drop j) ∧ OwnL encB h2.next hh w9 4 (knownL S F.length) ∧ Kn [(1,zi m),(2,zi d),(3,ptr h.next),(6,ptr h1.next),(8,w8),(9,w9),(10,zi (j:Nat))] a) L.length (fun a q => ⟨0,by omega,by omega,X3,fun i z hi => by omega,by simpa using O8,O9,q.sub ⟨rfl,rfl,rfl,rfl,rfl,rfl,rfl,trivial⟩⟩) ?_
  rintro k a hh ⟨j,hj,rfl,Xh,ok,P8,P9,q⟩
  refine q.go ?_
  have Yh:=X2.trans Xh
  have xn:=Xh.next
  refine WL.seq ?_
  refine WL.sr <| WOL.mv rfl <| WOL.mv rfl ?_
  refine WOL.len rfl (P8.sl eI) u29 ?_
  rw [mix_len scL_len j]
  refine WOL.bi (v:=.bool (decide ((j:Int) < L.length))) rfl rfl rfl ?_
  refine WOL.nil <| keep [(1,_),(2,_),(3,_),(6,_),(8,_),(9,_),(10,_),(19,_)] ⟨rfl,rfl,rfl,rfl,rfl,rfl,rfl,rfl,trivial⟩ ?_
  by_cases hlt:j < L.length
  · rw [show decide ((j:Int) < (L.length:Int)) = true by simpa using hlt]
    refine WL.yes rfl <| WL.skip ?_
    have hL:L[j]? = some L[j]:=List.getElem?_eq_getElem hlt
    have l1:=lev_lim V.lev _ (List.mem_of_getElem? hL)
    have hK:(knownL S F.length)[j]? = some (knownL S F.length)[j]:=List.getElem?_eq_getElem (by omega)
    have hdk:(knownL S F.length)[j]? = some false → L[j] = 0:=fun e => dk.2 j _ hL e
    generalize L[j] = x at *
    generalize (knownL S F.length)[j] = kj at *
    have hz:=scL_get (m:=m) (d:=d) hL
    have hp:(x * m).natAbs ≤ 16384 * 1000:=mul_small l1 hm
    have hml:((scL m d L).take j ++ L.drop j).length = L.length:=mix_len scL_len j
    have hg0:((scL m d L).take j ++ L.drop j)[j]? = some x:=by rw [mix_get scL_len hlt,hL]
    obtain ⟨b8,rfl,q8,a8⟩:=own_block P8 (by omega)
    have lt8:=a8.lt
    have d89:=own_ne P8 P9 (by decide)
    have ix8:indexAddrT Tryz.prog 29 (.slice (some ⟨b8,0,none⟩) ((scL m d L).take j ++ L.drop j).length ((scL m d L).take j ++ L.drop j).length) (.int .i64 (j:Nat)) = some (.pointer (some ⟨b8,0 + j * 1,none⟩)):=indexAddr_tp u29 tp3 (by omega)
    obtain ⟨bb,o,cc,fix,wr,el,e1,e2,e3,e4,e5⟩:=(P8.sl eI).at eI u29 tp3 hg0 .i64
    refine WL.seq ?_
    refine WL.block ?_
    refine WL.sr <| WOL.mv rfl <| WOL.mv rfl <| WOL.mv rfl <| WOL.mv rfl ?_
    refine WOL.ix rfl rfl e1 ?_
    refine WOL.ld rfl (load_one tp3 e2 (e5 0 (by decide))) ?_
    refine WOL.mv rfl ?_
    refine WOL.mul rfl rfl (by omega) (by omega) ?_
    refine WOL.mv rfl ?_
    refine WOL.cl2 rfl rfl rfl ((k106 H (a:=x * m) (b:=d) (by omega) hd (by omega)).mono ?_)
    rintro v hh ⟨rfl,rfl⟩
    refine WOL.ix rfl rfl ix8 ?_
    refine WOL.sto rfl rfl tp3 a8 rfl rfl (by rw [eI.cat_len]; omega) rfl (f.hx Yh) (by omega) fun h5 P5 => ?_
    have X5:HX h2 h5:=P5.hx _ Xh (by omega)
    have Y5:=X2.trans X5
    have b8':=P5.at_
    rw [show (Value.int .i64 (rnd (x * m) d)).cells.toList = encI (rnd (x * m) d) from rfl,splice1 eI (by omega),mix_set scL_len hz] at b8'
    have hml':((scL m d L).take (j + 1) ++ L.drop (j + 1)).length = L.length:=mix_len scL_len (j + 1)
    have P8':OwnL encI h2.next h5 (.slice (some ⟨b8,0,none⟩) ((scL m d L).take j ++ L.drop j).length ((scL m d L).take j ++ L.drop j).length) 3 ((scL m d L).take (j + 1) ++ L.drop (j + 1)):=own_of (by omega) q8 b8' (by omega)
    have P9':=own_put P9 P5 (d89 b8 rfl)
    have hg1:((scL m d L).take (j + 1) ++ L.drop (j + 1))[j]? = some (rnd (x * m) d):=by
      rw [List.getElem?_append_left (by simp [scL_len]; omega),List.getElem?_take_of_lt (by omega),hz]
    refine WOL.nil <| keep [(1,_),(2,_),(3,_),(6,_),(8,_),(9,_),(10,_)] ⟨rfl,rfl,rfl,rfl,rfl,rfl,rfl,trivial⟩ ?_
    obtain ⟨bb',o',cc',fix',wr',el',g1,g2,g3,g4,g5⟩:=(P8'.sl eI).at eI u29 tp3 hg1 .i64
    refine WL.sr <| WOL.mv rfl <| WOL.mv rfl ?_
    refine WOL.ix rfl rfl g1 ?_
    refine WOL.ld rfl (load_one tp3 g2 (g5 0 (by decide))) ?_
    refine WOL.cl1 rfl rfl ((k107 H _ _).mono ?_)
    rintro v h5 ⟨rfl,rfl⟩
    refine WOL.nil <| keep [(1,_),(2,_),(3,_),(6,_),(8,_),(9,_),(10,_),(37,_)] ⟨rfl,rfl,rfl,rfl,rfl,rfl,rfl,rfl,trivial⟩ ?_
    cases ho:okI (rnd (x * m) d) with
    | false =>
      have hk:kj = true:=by
        cases kj with
        | true => rfl
        | false =>
          have:=hdk hK
          subst this
          rw [Int.zero_mul,rnd_zero hd] at ho
          cases ho
      have hno:allOk (cellsK (scL m d L) (knownL S F.length)) = false:=by
        cases hb:allOk (cellsK (scL m d L) (knownL S F.length)) with
        | false => rfl
        | true =>
          have:=(ok_cells (by rw [scL_len,kl])).1 hb j _ (by rw [scL_len]; exact hlt) hz (by rw [hK,hk])
          rw [ho] at this
          cases this
      refine WL.yes rfl <| WL.sr <| WOL.bd rfl bd46z ?_
      refine WOL.sto rfl rfl tp46 (A6.hx X5) rfl rfl (Nat.le_of_ble_eq_true rfl) rfl (f.hx Y5) (by omega) fun h7 P7 => ?_
      refine WOL.as rfl <| WOL.nil ?_
      rw [hno]
      exact WL.ret (WL.endC1 (t:=6) (s:=7) rfl rfl (load_row tp46 P7.at_ rfl (Nat.le_of_ble_eq_true rfl)) ⟨P7.hx _ Y5 (by omega),.inl ⟨by decide,rfl⟩⟩)
    | true =>
      refine WL.no rfl <| WL.skip ?_
      refine WL.reg <| WOL.mv rfl ?_
      refine WOL.bi (v:=zi ((j + 1:Nat):Int)) rfl rfl (by show some (Value.int .i64 (fwrap .i64 ((j:Int) + 1))) = _; rw [fwrap_i64 (by omega) (by omega)]; rfl) ?_
      refine WOL.as rfl <| WOL.nil ?_
      refine fun a q => ⟨L.length - (j + 1),by omega,j + 1,by omega,rfl,X5,fun i z hi h1 => ?_,P8',P9',q.sub ⟨rfl,rfl,rfl,rfl,rfl,rfl,rfl,trivial⟩⟩
      by_cases hij:i = j
      · subst hij
        rw [hz] at h1
        cases h1
        exact ho
      · exact ok i z (by omega) h1
  · rw [show decide ((j:Int) < (L.length:Int)) = false by simpa using hlt]
    refine WL.no rfl <| WL.exit ?_
    obtain rfl:j = L.length:=by omega
    rw [List.drop_length,List.append_nil,List.take_of_length_le (by rw [scL_len]; omega)] at P8
    have hok:allOk (cellsK (scL m d L) (knownL S F.length)) = true:=(ok_cells (by rw [scL_len,kl])).2 fun i z hi h1 _ => ok i z (by rw [scL_len] at hi; exact hi) h1
    have hlim:∀ z,z ∈ scL m d L → z.natAbs ≤ 16384:=fun z hz => by
      obtain ⟨i,hi,e⟩:=List.getElem_of_mem hz
      exact okI_iff.1 (ok i z (by rw [scL_len] at hi; exact hi) (by rw [List.getElem?_eq_getElem hi,e]))
    have D3:=A3.hx Xh
    refine WL.sr <| WOL.fa rfl (fa_of fo46_0) ?_
    refine WOL.ld rfl (load_one tp9 D3 rfl) ?_
    refine WOL.fa rfl (fa_of fo46_1) ?_
    refine WOL.ld rfl (load_one tp3 D3 rfl) ?_
    refine WOL.mv rfl <| WOL.mv rfl ?_
    refine WOL.cl4 rfl rfl rfl rfl rfl ((k97 H (s:=s) (n:=n) (P8.sl eI) (P9.sl eB) (by rw [scL_len,kl]) hlim (by rw [scL_len]; omega) (f.on Yh)).mono ?_)
    rintro v h8 ⟨q1,q2,rfl,X8,O8'⟩
    have Y8:=Yh.trans X8
    have yn:=Yh.next
    obtain ⟨bo1,k1,rfl⟩:=O8'.r.f.form
    obtain ⟨bo2,k2,rfl⟩:=O8'.r.s.form
    refine WOL.sto rfl rfl tp46 ((A6.hx Xh).hx X8) rfl rfl (Nat.le_of_ble_eq_true rfl) rfl (f.hx Y8) (by omega) fun h9 P10 => ?_
    refine WOL.as rfl <| WOL.nil ?_
    rw [hok]
    exact WL.ret (WL.endC1 (t:=6) (s:=7) rfl rfl (load_row tp46 P10.at_ rfl (Nat.le_of_ble_eq_true rfl)) ⟨P10.hx _ Y8 (by omega),.inr ⟨rfl,_,_,rfl,(O8'.away P10 (by omega)).le (by omega)⟩⟩)
end Go.Tidy
namespace Go.Tidy
open Go Go.Proofs Tab
variable {tp:TProg}
def thinTo {α:Type} (k:Nat) (l:List α):Nat → List α
 | 0 => []
 | i + 1 => thinTo k l i ++ if i % k = 0 then l[i]?.toList else []
def thin {α:Type} (k:Nat) (l:List α):List α:=thinTo k l l.length
section
variable {α:Type} {k:Nat} {l:List α}
theorem thin_hit {i:Nat} {x:α} (hi:i % k = 0) (hx:l[i]? = some x):thinTo k l (i + 1) = thinTo k l i ++ [x]:=by
 show _ ++ (if _ then _ else _) = _
 rw [if_pos hi,hx]; rfl
theorem thin_miss {i:Nat} (hi:i % k ≠ 0):thinTo k l (i + 1) = thinTo k l i:=by
 show _ ++ (if _ then _ else _) = _
 rw [if_neg hi,List.append_nil]
theorem thin_past {i:Nat} (hi:l.length ≤ i):thinTo k l (i + 1) = thinTo k l i:=by
 show _ ++ (if _ then _ else _) = _
 rw [List.getElem?_eq_none hi]
 simp
theorem thin_all {i:Nat} (hi:l.length ≤ i):thinTo k l i = thin k l:=by
 unfold thin
 obtain ⟨c,rfl⟩:∃ c,i = l.length + c:=⟨i - l.length,by omega⟩
 induction c with
 | zero => rfl
 | succ c ih => rw [show l.length + (c + 1) = l.length + c + 1 by omega,thin_past (by omega),ih (by omega)]
theorem thin_step {i:Nat} {x:α} (hi:i % k = 0) (hx:l[i]? = some x):∀ c,c < k → thinTo k l (i + 1 + c) = thinTo k l i ++ [x]
 | 0,_ => thin_hit hi hx
 | c + 1,h => by
  rw [show i + 1 + (c + 1) = i + 1 + c + 1 by omega,thin_miss,thin_step hi hx c (by omega)]
  rw [show i + 1 + c = i + (1 + c) by omega,Nat.add_mod,hi,Nat.zero_add,Nat.mod_mod,Nat.mod_eq_of_lt (by omega)]
  omega
theorem thin_len:∀ i,(thinTo k l i).length ≤ i
  | 0 => Nat.le_refl _
  | i + 1 => by
    have:=thin_len i
    unfold thinTo
    rw [List.length_append]
    have:(if i % k = 0 then l[i]?.toList else []).length ≤ 1:=by
      split
      · cases l[i]? <;> simp
      · simp
    omega
theorem thin_mem {x:α}:∀ {i},x ∈ thinTo k l i → x ∈ l
  | 0,h => by cases h
  | i + 1,h => by
    rcases List.mem_append.1 h with h | h
    · exact thin_mem h
    · split at h
      · exact List.mem_of_getElem? (Option.mem_toList.1 h)
      · cases h
end
theorem thin_both {k:Nat} {L:List Int} {K:List Bool} (hK:K.length = L.length):∀ i,(thinTo k K i).length = (thinTo k L i).length ∧ thinTo k (cellsK L K) i = cellsK (thinTo k L i) (thinTo k K i)
  | 0 => ⟨rfl,rfl⟩
  | i + 1 => by
    obtain ⟨h1,h2⟩:=thin_both hK i
    by_cases hi:i % k = 0
    · by_cases hl:i < L.length
      · have hx:L[i]? = some L[i]:=List.getElem?_eq_getElem hl
        have hp:K[i]? = some K[i]:=List.getElem?_eq_getElem (by omega)
        rw [thin_hit hi hx,thin_hit hi hp,thin_hit hi (cellsK_get hx hp),cellsK_app h1,h2]
        exact ⟨by simp [h1],rfl⟩
      · rw [thin_past (by omega),thin_past (by omega),thin_past (by rw [cellsK_ln hK]; omega)]
        exact ⟨h1,h2⟩
    · rw [thin_miss hi,thin_miss hi,thin_miss hi]
      exact ⟨h1,h2⟩
theorem thin_cells {k:Nat} {L:List Int} {K:List Bool} (hK:K.length = L.length):thin k (cellsK L K) = cellsK (thin k L) (thin k K) ∧ (thin k K).length = (thin k L).length:=by
 unfold thin
 rw [cellsK_ln hK,hK]
 exact ⟨(thin_both hK _).2,(thin_both hK _).1⟩
theorem WO.remI {P:Program} {tp:TProg} {a:Regs} {h:TH} {K:Regs → TH → Prop} {rest:List TOper} {d:Option Tmp} {ty:TypeId} {i:Nat} {x y:Operand} {t u:TypeId} {m n:Int} (hx:getO a x = some (.int .i64 m)) (hy:getO a y = some (.int .i64 n)) (hn:n ≠ 0)
  (w:WO P tp rest (a.put d (.int .i64 (m.tmod n))) h K):WO P tp (⟨d,.binOp .rem t x y u,ty,none,[],i⟩ :: rest) a h K:=by
 refine WO.bi hx hy ?_ w
 have hk:Nat.beq (kindNo .i64) (kindNo .i64) = true:=Nat.beq_refl _
 have hb:(n == 0) = false:=by simpa using hn
 simp only [fastBin,hk,fastInt,hb,Bool.cond_true,Bool.cond_false]
theorem WOL.rem {P:Program} {tp:TProg} {h:TH} {K:Regs → TH → Prop} {rest:List TOper} {d:Option Tmp} {ty:TypeId} {i:Nat} {x y:Operand} {t u:TypeId} {L:Rg} {m n:Int} (hx:getL L x = some (.int .i64 m)) (hy:getL L y = some (.int .i64 n)) (hm:0 ≤ m) (hn:0 < n) (w:∀ a,Kn (putL L d (.int .i64 (m % n))) a → WO P tp rest a h K):∀ a,Kn L a → WO P tp (⟨d,.binOp .rem t x y u,ty,none,[],i⟩ :: rest) a h K:=fun a k => by
 refine WO.remI (k.o hx) (k.o hy) (by omega) ?_
 rw [Int.tmod_eq_emod_of_nonneg hm]
 exact w _ (k.put d _)
def thErr (e n k:Int):Int:=cond (e != 0) e (cond (n % k != 0) 21 0)
set_option maxHeartbeats 1000000 in
set_option maxRecDepth 10000 in
theorem k44 (H:Has tp) (X:HasX tp) {s:ByteArray} {n z:Int} {v1 v2:Value} {F:List Nat} {S:List (Int × Int)} {es L:List Int} {h:TH} (r:RunH h v1 v2 F S) (hE:SErr F es) (hL:firstNZ es = 0 → Lev F L)
    (hF:F.length ≤ 900000) (hS:S.length ≤ 900000) (f:Free0 h.next h) :
    CallW Tryz.prog tp (.func (.func 46) #[] #[]) #[runV s n v1 v2,zi z] h fun v h' => RunR h h' v s (n / z) (thin z.toNat (cellsL L S)) (thErr (firstNZ [runE s n F.length S es L,outB z 1 64]) n z):=by
  obtain ⟨bv1,kv1,rfl⟩:=r.f.form
  obtain ⟨bv2,kv2,rfl⟩:=r.s.form
  refine CallW.fnL (H.fn 46 f44 rfl rfl) ?_
  refine WL.sr <| WOL.box rfl fun h1 N1 => ?_
  refine WOL.al tp52 fun h2 N2 => ?_
  refine WOL.as rfl <| WOL.nil <| keep [(1,_),(2,_),(4,_)] ⟨rfl,rfl,rfl,trivial⟩ ?_
  have n1:=N1.next
  have n2:=N2.next
  have X2:=N1.hx.trans N2.hx
  have A2:=N1.at_.hx N2.hx
  have A4:=N2.at_
  refine WL.seq ?_
  refine WL.sr ?_
  refine WOL.ld rfl (load_row tp52 A2 rfl (Nat.le_of_ble_eq_true rfl)) ?_
  refine WOL.cl1 rfl rfl ((k41 H X (s:=s) (n:=n) (r.hx X2) hE hL (by omega) (by omega) (f.on X2)).mono ?_)
  rintro v h3 ⟨rfl,X3⟩
  refine WOL.mv rfl ?_
  refine WOL.cl3 rfl rfl rfl rfl ((k72 H _ _ _ _).mono ?_)
  rintro v h3 ⟨rfl,rfl⟩
  refine WOL.bsl rfl u166 tp30 (by decide) (by decide) (by decide) (filled_ints _ _) fun h5 N5 => ?_
  refine WOL.cl1 rfl rfl ((k71 H (l:=[_,_]) N5.at_.get (by simp)).mono ?_)
  rintro v h5 ⟨rfl,rfl⟩
  have Z5:=X3.trans N5.hx
  have Y5:=X2.trans Z5
  have z5:=Z5.next
  have B2:=A2.hx Z5
  have B4:=A4.hx Z5
  generalize hEE:firstNZ [runE s n F.length S es L,outB z 1 64] = E
  refine WOL.as rfl <| WOL.nil <| keep [(1,_),(2,_),(4,_),(6,_)] ⟨rfl,rfl,rfl,rfl,trivial⟩ ?_
  refine WL.sr <| WOL.mv rfl ?_
  refine WOL.bi rfl rfl nzero ?_
  refine WOL.nil <| keep [(1,_),(2,_),(4,_),(6,_),(17,_)] ⟨rfl,rfl,rfl,rfl,rfl,trivial⟩ ?_
  rcases nz_cases E with h0 | h0
  · rw [h0]
    have z0:=firstNZ_zero (hEE.trans h0)
    have V:=valid_of (s:=s) (n:=n) (S:=S) hL (z0 _ (by simp))
    have b1:=outB_zero (z0 (outB z 1 64) (by simp))
    have Vm:=V.m
    have V0:=V.n0
    have V1:=V.n1
    have hcl:(cellsL L S).length = F.length:=cells_len V.lev V.in_
    have lim:=cells_lim V.lev S
    refine WL.no rfl <| WL.skip ?_
    refine WL.seq ?_
    refine WL.sr <| WOL.fa rfl (fa_of fo52_1) ?_
    refine WOL.ld rfl (load_one tp3 B2 rfl) ?_
    refine WOL.mv rfl ?_
    refine WOL.rem rfl rfl V0 (by omega) ?_
    refine WOL.bi rfl rfl nzero ?_
    refine WOL.nil <| keep [(1,_),(2,_),(4,_),(24,_)] ⟨rfl,rfl,rfl,rfl,trivial⟩ ?_
    have hth:thErr 0 n z = cond (n % z != 0) 21 0:=rfl
    rw [hth]
    cases hnz:n % z != 0 with
    | true =>
      refine WL.yes rfl <| WL.sr <| WOL.bd rfl bd52z ?_
      refine WOL.sto rfl rfl tp52 B4 rfl rfl (Nat.le_of_ble_eq_true rfl) rfl (f.hx Y5) (by omega) fun h7 P7 => ?_
      refine WOL.as rfl <| WOL.nil ?_
      exact WL.ret (WL.endC1 (t:=4) (s:=5) rfl rfl (load_row tp52 P7.at_ rfl (Nat.le_of_ble_eq_true rfl)) ⟨P7.hx _ Y5 (by omega),.inl ⟨by decide,rfl⟩⟩)
    | false =>
      refine WL.no rfl <| WL.skip ?_
      refine WL.sr <| WOL.as rfl <| WOL.nil <| keep [(1,_),(2,_),(4,_),(7,_)] ⟨rfl,rfl,rfl,rfl,trivial⟩ ?_
      refine WL.seq ?_
      refine WL.sr ?_
      refine WOL.ld rfl (load_row tp52 B2 rfl (Nat.le_of_ble_eq_true rfl)) ?_
      refine WOL.cl1 rfl rfl ((k85 H (s:=s) (n:=n) (r.hx Y5) V.lev (by omega) (by omega) V.in_ (f.on Y5)).mono ?_)
      rintro v h8 ⟨b27,rfl,o27,A27,X8⟩
      have Y8:=Y5.trans X8
      have sl27:SlL encC 2 h8 (.slice (some ⟨b27,0,none⟩) F.length F.length) (cellsL L S):=SlL.own eC A27 hcl
      rw [← hcl]
      rw [← hcl] at sl27
      refine WOL.len rfl sl27 u135 ?_
      refine WOL.mv rfl <| WOL.nil <| keep [(1,_),(2,_),(4,_),(7,_),(27,_),(28,_),(29,_)] ⟨rfl,rfl,rfl,rfl,rfl,rfl,rfl,trivial⟩ ?_
      generalize hC:cellsL L S = C at *
      obtain ⟨k,rfl⟩:∃ k:Nat,z = (k:Int):=⟨z.toNat,by omega⟩
      rw [Int.toNat_natCast]
      refine WL.block ?_
      refine WL.loop (L:=[(1,zi (k:Nat)),(2,ptr h.next),(4,ptr h1.next),(7,.slice none 0 0),(27,.slice (some ⟨b27,0,none⟩) C.length C.length),(28,zi C.length),(29,zi 0)]) (fun q a hh => ∃ (j:Nat) (w7:Value),j ≤ C.length ∧ q = C.length - j ∧ HX h8 hh ∧ OwnL encC h8.next hh w7 161 (thinTo k C j) ∧ Kn [(1,zi (k:Nat)),(2,ptr h.next),(4,ptr h1.next),(7,w7),(27,.slice (some ⟨b27,0,none⟩) C.length C.length),(28,zi C.length),(29,zi (j:Nat))] a) C.length (fun a q => ⟨0,_,by omega,by omega,HX.refl _,OwnL.nil,q.sub ⟨rfl,rfl,rfl,rfl,rfl,rfl,rfl,trivial⟩⟩) ?_
      rintro q a hh ⟨j,w7,hj,rfl,Xh,O7,q⟩
      refine q.go ?_
      have Yh:=Y8.trans Xh
      have xh:=Xh.next
      have x8:=X8.next
      refine WL.sr ?_
      refine WOL.bi (v:=.bool (decide ((j:Int) < C.length))) rfl rfl rfl ?_
      refine WOL.nil <| keep [(1,_),(2,_),(4,_),(7,_),(27,_),(28,_),(29,_),(30,_)] ⟨rfl,rfl,rfl,rfl,rfl,rfl,rfl,rfl,trivial⟩ ?_
      refine WL.seq ?_
      by_cases hlt:j < C.length
      · rw [show decide ((j:Int) < (C.length:Int)) = true by simpa using hlt]
        refine WL.yes rfl <| WL.skip ?_
        have hC1:C[j]? = some C[j]:=List.getElem?_eq_getElem hlt
        generalize C[j] = c at *
        obtain ⟨b,o,cc,fix,wr,el,e1,e2,e3,e4,e5⟩:=(sl27.hx Xh).at eC u135 tp134 hC1 .i64
        refine WL.seq ?_
        refine WL.block ?_
        refine WL.sr <| WOL.mv rfl ?_
        refine WOL.ix rfl rfl e1 ?_
        refine WOL.ld rfl (load_row tp134 e2 e4 e3) ?_
        refine WOL.al tp134 fun h9 N9 => ?_
        refine WOL.as rfl ?_
        refine WOL.sto rfl rfl tp134 N9.at_ rfl rfl (Nat.le_of_ble_eq_true rfl) rfl (f.hx (Yh.trans N9.hx)) Yh.next fun g P => ?_
        have Xg:HX h8 g:=P.hx _ (Xh.trans N9.hx) xh
        have Yg:=Y8.trans Xg
        have O7':OwnL encC h8.next g w7 161 (thinTo k C j):=own_put (O7.hx N9.hx) P (fun e => by have:=(O7.lt e).2; omega)
        have B9:At g hh.next (.cells [.int .i64 c.1,.bool c.2] true true 161):=P.at_
        refine WOL.nil <| keep [(1,_),(2,_),(4,_),(7,_),(8,_),(9,_),(27,_),(28,_),(29,_)] ⟨rfl,rfl,rfl,rfl,rfl,rfl,rfl,rfl,rfl,trivial⟩ ?_
        refine WL.sr <| WOL.mv rfl <| WOL.mv rfl ?_
        refine WOL.rem rfl rfl (by omega) (by omega) ?_
        refine WOL.bi rfl rfl ezero ?_
        refine WOL.nil <| keep [(1,_),(2,_),(4,_),(7,_),(9,_),(27,_),(28,_),(29,_),(37,_)] ⟨rfl,rfl,rfl,rfl,rfl,rfl,rfl,rfl,rfl,trivial⟩ ?_
        have fin:∀ {Q:Exit → Regs → TH → Prop} g' w7',HX h8 g' → OwnL encC h8.next g' w7' 161 (thinTo k C (j + 1)) → ∀ a,Kn [(1,zi (k:Nat)),(2,ptr h.next),(4,ptr h1.next),(7,w7'),(27,.slice (some ⟨b27,0,none⟩) C.length C.length),(28,zi C.length),(29,zi (j:Nat))] a → W Tryz.prog tp false (.reg r44_12) a g' (andThen (fun a hh => ∃ q',q' < C.length - j ∧ ∃ (j:Nat) (w7:Value),j ≤ C.length ∧ q' = C.length - j ∧ HX h8 hh ∧ OwnL encC h8.next hh w7 161 (thinTo k C j) ∧ Kn [(1,zi (k:Nat)),(2,ptr h.next),(4,ptr h1.next),(7,w7),(27,.slice (some ⟨b27,0,none⟩) C.length C.length),(28,zi C.length),(29,zi (j:Nat))] a) Q):=by
          intro Q g' w7' X' O'
          refine WL.reg ?_
          refine WOL.bi (v:=zi ((j + 1:Nat):Int)) rfl rfl (by show some (Value.int .i64 (fwrap .i64 ((j:Int) + 1))) = _; rw [fwrap_i64 (by omega) (by omega)]; rfl) ?_
          refine WOL.mv rfl <| WOL.nil ?_
          exact fun a q => ⟨C.length - (j + 1),by omega,j + 1,w7',by omega,rfl,X',O',q.sub ⟨rfl,rfl,rfl,rfl,rfl,rfl,rfl,trivial⟩⟩
        have hmod:((j:Int) % (k:Int) == 0) = decide (j % k = 0):=by
          rw [← Int.natCast_emod]
          by_cases hh0:j % k = 0
          · simp [hh0]
          · simp [hh0]
            omega
        rw [hmod]
        by_cases hjk:j % k = 0
        · rw [decide_eq_true hjk]
          refine WL.yes rfl <| WL.reg <| WOL.mv rfl ?_
          refine WOL.ld rfl (load_row tp134 B9 rfl (Nat.le_of_ble_eq_true rfl)) ?_
          refine WOL.bs2 rfl u135 tp134 fun i1 M1 => ?_
          have X1':=Xg.trans M1.hx
          obtain ⟨q8,i2,ap8,o8,x8',keep8,b8,m8⟩:=own_push (sT:=162) (x:=c) eC u135 tp134 (O7'.hx M1.hx) (SlC.own (sz:=2) (m:=1) rfl M1.at_) ((f.on Y8).hx X1') (by have:=thin_len (k:=k) (l:=C) j; omega) X1'.next
          refine WOL.ap rfl rfl ap8 <| WOL.as rfl <| WOL.nil ?_
          rw [← thin_hit hjk hC1] at o8
          exact kto (fin i2 q8 (x8' _ X1' (Nat.le_refl _)) o8) ⟨rfl,rfl,rfl,rfl,rfl,rfl,rfl,trivial⟩
        · rw [decide_eq_false hjk]
          refine WL.no rfl <| WL.skip ?_
          rw [← thin_miss (l:=C) hjk] at O7'
          exact kto (fin g w7 Xg O7') ⟨rfl,rfl,rfl,rfl,rfl,rfl,rfl,trivial⟩
      · rw [show decide ((j:Int) < (C.length:Int)) = false by simpa using hlt]
        refine WL.no rfl <| WL.exit ?_
        obtain rfl:j = C.length:=by omega
        have D2:=(B2.hx X8).hx Xh
        have hq0:0 ≤ n / (k:Int):=Int.ediv_nonneg V0 (by omega)
        refine WL.sr <| WOL.fa rfl (fa_of fo52_0) ?_
        refine WOL.ld rfl (load_one tp9 D2 rfl) ?_
        refine WOL.fa rfl (fa_of fo52_1) ?_
        refine WOL.ld rfl (load_one tp3 D2 rfl) ?_
        refine WOL.mv rfl ?_
        refine WOL.quo rfl rfl V0 (by omega) (by omega) ?_
        refine WOL.mv rfl ?_
        have hle:=thin_len (k:=k) (l:=C) C.length
        refine WOL.cl3 rfl rfl rfl rfl ((k89 H (s:=s) (n:=n / (k:Int)) (O7.sl eC) (fun c hc => lim c (thin_mem hc)) (by omega) (f.on Yh)).mono ?_)
        rintro v h11 ⟨q1,q2,rfl,X11,O11⟩
        have Y11:=Yh.trans X11
        obtain ⟨bo1,k1,rfl⟩:=O11.r.f.form
        obtain ⟨bo2,k2,rfl⟩:=O11.r.s.form
        have yh:=Yh.next
        refine WOL.sto rfl rfl tp52 (((B4.hx X8).hx Xh).hx X11) rfl rfl (Nat.le_of_ble_eq_true rfl) rfl (f.hx Y11) (by omega) fun h12 P12 => ?_
        refine WOL.as rfl <| WOL.nil ?_
        exact WL.ret (WL.endC1 (t:=4) (s:=5) rfl rfl (load_row tp52 P12.at_ rfl (Nat.le_of_ble_eq_true rfl)) ⟨P12.hx _ Y11 (by omega),.inr ⟨rfl,_,_,rfl,(O11.away P12 (by omega)).le (by omega)⟩⟩)
  · rw [h0]
    refine WL.yes rfl <| WL.sr <| WOL.bd rfl bd52z <| WOL.mv rfl ?_
    refine WOL.sto rfl rfl tp52 B4 rfl rfl (Nat.le_of_ble_eq_true rfl) rfl (f.hx Y5) (by omega) fun h9 P9 => ?_
    refine WOL.as rfl <| WOL.nil ?_
    have hse:thErr E n z = E:=by unfold thErr; rw [h0]; rfl
    rw [hse]
    exact WL.ret (WL.endC1 (t:=4) (s:=5) rfl rfl (load_row tp52 P9.at_ rfl (Nat.le_of_ble_eq_true rfl)) ⟨P9.hx _ Y5 (by omega),.inl ⟨by simpa using h0,rfl⟩⟩)
end Go.Tidy
namespace Go.Tidy
open Go Go.Proofs Tab
variable {tp:TProg}
set_option maxHeartbeats 1000000 in
set_option maxRecDepth 10000 in
theorem k47 (H:Has tp) {s:ByteArray} {n:Int} {k:Nat} {v1 v2:Value} {F:List Nat} {S:List (Int × Int)} {L:List Int} {h:TH} (r:RunH h v1 v2 F S) (V:Valid s n F S L) (hS:S.length ≤ 900000) (hk:0 < k) (hk2:k ≤ 64) (f:Free0 h.next h) :
    CallW Tryz.prog tp (.func (.func 49) #[] #[]) #[runV s n v1 v2,zi (k:Nat)] h fun v h' => JoinR h h' v s (n / (k:Nat)) (thin k L) (thin k (knownL S F.length)) (cond (n % (k:Nat) != 0) 21 0):=by
  obtain ⟨bv1,kv1,rfl⟩:=r.f.form
  obtain ⟨bv2,kv2,rfl⟩:=r.s.form
  have Vm:=V.m
  have V0:=V.n0
  have V1:=V.n1
  have kl:=V.kl
  have ll:=V.lev.1
  refine CallW.fnL (H.fn 49 f47 rfl rfl) ?_
  refine WL.sr <| WOL.box rfl fun h1 N1 => ?_
  refine WOL.al tp46 fun h2 N2 => ?_
  refine WOL.as rfl <| WOL.nil <| keep [(1,_),(2,_),(4,_)] ⟨rfl,rfl,rfl,trivial⟩ ?_
  have n1:=N1.next
  have n2:=N2.next
  have X2:=N1.hx.trans N2.hx
  have A2:=N1.at_.hx N2.hx
  have A4:=N2.at_
  refine WL.seq ?_
  refine WL.sr <| WOL.fa rfl (fa_of fo46_1) ?_
  refine WOL.ld rfl (load_one tp3 A2 rfl) ?_
  refine WOL.mv rfl ?_
  refine WOL.rem rfl rfl V0 (by omega) ?_
  refine WOL.bi rfl rfl nzero ?_
  refine WOL.nil <| keep [(1,_),(2,_),(4,_),(15,_)] ⟨rfl,rfl,rfl,rfl,trivial⟩ ?_
  cases hnz:n % (k:Int) != 0 with
  | true =>
    refine WL.yes rfl <| WL.sr <| WOL.bd rfl bd46z ?_
    refine WOL.sto rfl rfl tp46 A4 rfl rfl (Nat.le_of_ble_eq_true rfl) rfl (f.hx X2) (by omega) fun h3 P3 => ?_
    refine WOL.as rfl <| WOL.nil ?_
    exact WL.ret (WL.endC1 (t:=4) (s:=5) rfl rfl (load_row tp46 P3.at_ rfl (Nat.le_of_ble_eq_true rfl)) ⟨P3.hx _ X2 (by omega),.inl ⟨by decide,rfl⟩⟩)
  | false =>
    refine WL.no rfl <| WL.skip ?_
    refine WL.sr ?_
    refine WOL.ld rfl (load_row tp46 A2 rfl (Nat.le_of_ble_eq_true rfl)) ?_
    refine WOL.cl1 rfl rfl ((k96 H (s:=s) (n:=n) (r.hx X2) V.lev (by omega) (by omega) (f.on X2)).mono ?_)
    rintro v h4 ⟨w6,w7,rfl,O6,O7,X4⟩
    have Y4:=X2.trans X4
    have f4:=f.on Y4
    have x4:=X4.next
    refine WOL.mv rfl <| WOL.ex rfl rfl <| WOL.ex rfl rfl <| WOL.as rfl <| WOL.as rfl <| WOL.nil <| keep [(1,_),(2,_),(4,_),(6,_),(7,_)] ⟨rfl,rfl,rfl,rfl,rfl,trivial⟩ ?_
    refine WL.sr <| WOL.as rfl <| WOL.nil <| keep [(1,_),(2,_),(4,_),(6,_),(7,_),(8,_)] ⟨rfl,rfl,rfl,rfl,rfl,rfl,trivial⟩ ?_
    refine WL.sr <| WOL.as rfl <| WOL.nil <| keep [(1,_),(2,_),(4,_),(6,_),(7,_),(8,_),(9,_)] ⟨rfl,rfl,rfl,rfl,rfl,rfl,rfl,trivial⟩ ?_
    refine WL.seq ?_
    refine WL.sr <| WOL.as rfl <| WOL.nil <| keep [(1,_),(2,_),(4,_),(6,_),(7,_),(8,_),(9,_),(10,_)] ⟨rfl,rfl,rfl,rfl,rfl,rfl,rfl,rfl,trivial⟩ ?_
    refine WL.block ?_
    refine WL.loop (L:=[(1,zi (k:Nat)),(2,ptr h.next),(4,ptr h1.next),(6,w6),(7,w7),(8,.slice none 0 0),(9,.slice none 0 0),(10,zi 0)]) (fun q a hh => ∃ (j:Nat) (w8 w9:Value),j % k = 0 ∧ j ≤ L.length + k ∧ q = L.length + k - j ∧ HX h4 hh ∧ OwnL encI h4.next hh w8 3 (thinTo k L j) ∧ OwnL encB h4.next hh w9 4 (thinTo k (knownL S F.length) j) ∧ (∀ c,bl w8 = some c → bl w9 ≠ some c) ∧ Kn [(1,zi (k:Nat)),(2,ptr h.next),(4,ptr h1.next),(6,w6),(7,w7),(8,w8),(9,w9),(10,zi (j:Nat))] a) (L.length + k) (fun a q => ⟨0,_,_,Nat.zero_mod _,by omega,by omega,HX.refl _,OwnL.nil,OwnL.nil,fun c hc => (by cases hc),q.sub ⟨rfl,rfl,rfl,rfl,rfl,rfl,rfl,rfl,trivial⟩⟩) ?_
    rintro q a hh ⟨j,w8,w9,hjk,hj,rfl,Xh,P8,P9,hd,q⟩
    refine q.go ?_
    have Yh:=Y4.trans Xh
    have xh:=Xh.next
    refine WL.seq ?_
    refine WL.sr <| WOL.mv rfl <| WOL.mv rfl ?_
    refine WOL.len rfl ((O6.hx Xh).sl eI) u29 ?_
    refine WOL.bi (v:=.bool (decide ((j:Int) < L.length))) rfl rfl rfl ?_
    refine WOL.nil <| keep [(1,_),(2,_),(4,_),(6,_),(7,_),(8,_),(9,_),(10,_),(25,_)] ⟨rfl,rfl,rfl,rfl,rfl,rfl,rfl,rfl,rfl,trivial⟩ ?_
    by_cases hlt:j < L.length
    · rw [show decide ((j:Int) < (L.length:Int)) = true by simpa using hlt]
      refine WL.yes rfl <| WL.skip ?_
      have hL1:L[j]? = some L[j]:=List.getElem?_eq_getElem hlt
      have hK1:(knownL S F.length)[j]? = some (knownL S F.length)[j]:=List.getElem?_eq_getElem (by omega)
      generalize L[j] = x at *
      generalize (knownL S F.length)[j] = y at *
      have e8:=thin_step hjk hL1 (k - 1) (by omega)
      have e9:=thin_step hjk hK1 (k - 1) (by omega)
      rw [show j + 1 + (k - 1) = j + k by omega] at e8 e9
      obtain ⟨b,o,cc,fix,wr,el,e1,e2,e3,e4,e5⟩:=(O6.sl eI).at eI u29 tp3 hL1 .i64
      obtain ⟨b',o',cc',fix',wr',el',g1,g2,g3,g4,g5⟩:=(O7.sl eB).at eB u145 tp4 hK1 .i64
      have lb':=g2.lt
      have t8:=thin_len (k:=k) (l:=L) j
      have t9:=thin_len (k:=k) (l:=knownL S F.length) j
      refine WL.seq ?_
      refine WL.block ?_
      refine WL.reg <| WOL.mv rfl <| WOL.mv rfl <| WOL.mv rfl ?_
      refine WOL.ix rfl rfl e1 ?_
      refine WOL.ld rfl (load_one tp3 (e2.hx Xh) (e5 0 (by decide))) ?_
      refine WOL.bs1 rfl u29 tp3 rfl fun h6 N6 => ?_
      have X6:=Xh.trans N6.hx
      refine WOL.mv rfl <| WOL.mv rfl <| WOL.mv rfl ?_
      refine WOL.ix rfl rfl g1 ?_
      refine WOL.ld rfl (load_one tp4 (g2.hx X6) (g5 0 (by decide))) ?_
      refine WOL.bs1 rfl u145 tp4 rfl fun h7 N7 => ?_
      have X7:=X6.trans N7.hx
      have O67:=(P8.hx N6.hx).hx N7.hx
      have n6:=N6.next
      have n7:=N7.next
      have x6n:=X6.next
      refine WOL.apQ [h6.next,b'] rfl rfl rfl fun LL hLL => ?_
      obtain ⟨u8,h8,ap,O8,x8,keep8,b8,m8⟩:=own_pushL (sT:=29) (x:=x) (L:=LL) eI u29 tp3 O67 (SlC.own (sz:=1) (m:=1) rfl (N6.at_.hx N7.hx)) (by rw [X7.floor]; exact f4.floor) (fun c hcb hm => by
        have h1':=O67.lt hcb
        have h2':=P8.lt hcb
        rcases hLL c hm with hm | hm
        · simp at hm; omega
        · rw [X7.lock] at hm; have:=f4.lock c hm; omega) (by omega) X7.next
      refine ⟨u8,h8,ap,?_⟩
      generalize h8.withLock h7.lock = h8 at *
      have X8:=x8 _ X7 (Nat.le_refl _)
      have O78:OwnL encB h4.next h8 w9 4 (thinTo k (knownL S F.length) j):=((P9.hx N6.hx).hx N7.hx).keep fun c y hcb ha => keep8 c y (fun hc' => hd c hc' hcb) ha
      have N78:At h8 h6.next (.cells [.bool y] true true 4):=keep8 _ _ (fun hcb => by have:=(P8.lt hcb).2; omega) N7.at_
      obtain ⟨u9,h9,ap9,O9,x9,keep9,b9,m9⟩:=own_push (sT:=172) (x:=y) eB u145 tp4 O78 (SlC.own (sz:=1) (m:=1) rfl N78) (f4.hx X8) (by omega) X8.next
      refine WOL.ap rfl rfl ap9 <| WOL.as rfl <| WOL.as rfl <| WOL.nil <| keep [(1,_),(2,_),(4,_),(6,_),(7,_),(8,_),(9,_),(10,_)] ⟨rfl,rfl,rfl,rfl,rfl,rfl,rfl,rfl,trivial⟩ ?_
      refine WL.reg <| WOL.mv rfl <| WOL.mv rfl ?_
      refine WOL.add rfl rfl (by omega) (by omega) ?_
      refine WOL.as rfl <| WOL.nil ?_
      rw [← e8] at O8
      rw [← e9] at O9
      refine fun a q => ⟨L.length + k - (j + k),by omega,j + k,u8,u9,by rw [Nat.add_mod_right]; exact hjk,by omega,rfl,x9 _ X8 (Nat.le_refl _),O8.keep fun c y hcb ha => keep9 c y (fun hcb' => ?_) ha,O9,fun c hcb hcb' => ?_,q.sub ⟨rfl,rfl,rfl,rfl,rfl,rfl,rfl,rfl,trivial⟩⟩
      · have:=(((P9.hx N6.hx).hx N7.hx).lt hcb').2
        rw [b8] at hcb
        have:=Option.some.inj hcb
        omega
      · rw [b8] at hcb
        rw [b9] at hcb'
        have:=Option.some.inj hcb
        have:=Option.some.inj hcb'
        have:=O8.lt b8
        omega
    · rw [show decide ((j:Int) < (L.length:Int)) = false by simpa using hlt]
      refine WL.no rfl <| WL.exit ?_
      rw [thin_all (by omega)] at P8 P9
      have t8:=thin_len (k:=k) (l:=L) L.length
      have D2:=(A2.hx X4).hx Xh
      refine WL.sr <| WOL.fa rfl (fa_of fo46_0) ?_
      refine WOL.ld rfl (load_one tp9 D2 rfl) ?_
      refine WOL.fa rfl (fa_of fo46_1) ?_
      refine WOL.ld rfl (load_one tp3 D2 rfl) ?_
      refine WOL.mv rfl ?_
      refine WOL.quo rfl rfl V0 (by omega) (by omega) ?_
      refine WOL.mv rfl <| WOL.mv rfl ?_
      refine WOL.cl4 rfl rfl rfl rfl rfl ((k97 H (s:=s) (n:=n / (k:Int)) (P8.sl eI) (P9.sl eB) (thin_cells kl).2 (fun z hz => lev_lim V.lev z (thin_mem hz)) (by unfold thin; omega) (f.on Yh)).mono ?_)
      rintro v h8 ⟨q1,q2,rfl,X8,O8'⟩
      have Y8:=Yh.trans X8
      have yn:=Yh.next
      obtain ⟨bo1,k1,rfl⟩:=O8'.r.f.form
      obtain ⟨bo2,k2,rfl⟩:=O8'.r.s.form
      refine WOL.sto rfl rfl tp46 (((A4.hx X4).hx Xh).hx X8) rfl rfl (Nat.le_of_ble_eq_true rfl) rfl (f.hx Y8) (by omega) fun h9 P10 => ?_
      refine WOL.as rfl <| WOL.nil ?_
      exact WL.ret (WL.endC1 (t:=4) (s:=5) rfl rfl (load_row tp46 P10.at_ rfl (Nat.le_of_ble_eq_true rfl)) ⟨P10.hx _ Y8 (by omega),.inr ⟨rfl,_,_,rfl,(O8'.away P10 (by omega)).le (by omega)⟩⟩)
end Go.Tidy
namespace Go.Tidy
open Go Go.Proofs Tab
variable {tp:TProg}
section
variable {P:Program} {h:TH} {v:Value} {t e:TypeId} {n:Nat} {z:List Value} {row:Bool} {K:Regs → TH → Prop} {rest:List TOper} {d:Option Tmp} {ty:TypeId} {i:Nat} {x y lo hi:Operand} {L:Rg}
theorem copy_into {sT:TypeId} {b k m:Nat} {c new:List Value} {fix:Bool} {el:TypeId} (hu:P.underlying sT = some (.slice e)) (he:Tp P e n z row) (hg:At h b (.cells c fix true el)) (hc:c.length = k * n) (s:SlC h v n k new) (h1:new.all oneCell = true) (f:Free0 m h) (hb:m ≤ b) :
  ∃ h',copyT P #[sT,sT] #[.slice (some ⟨b,0,none⟩) k k,v] h = some (.int .i64 (k:Nat),h') ∧ Put h h' b (.cells new fix true el):=by
 obtain ⟨inf,q1,q2,q3,_⟩:=he.i
 have hf:=firstT_C s
 have hnl:new.length = k * n:=by obtain ⟨bo,cap,_,_,h3,_⟩:=s; exact h3
 obtain ⟨bo,cap',rfl,_⟩:=s
 have hmin:Nat.min k k = k:=Nat.min_self k
 by_cases hk:k = 0
 ·subst hk
  obtain rfl:new = []:=List.eq_nil_of_length_eq_zero (by omega)
  obtain rfl:c = []:=List.eq_nil_of_length_eq_zero (by omega)
  refine ⟨h,?_,Put.same hg⟩
  simp only [copyT,elemInfo,List.getElem?_toArray,List.getElem?_cons_zero,List.getElem?_cons_succ,hu,Option.bind_some,q1,Option.map_some,lenT,q2,hmin,hf]
  rfl
 ·have e1:Nat.beq k 0 = false:=beq_no hk
  have e4:Nat.ble (0 + new.length) c.length = true:=ble_yes (by omega)
  have hp:h.put b (.cells (splice c 0 new) fix true el) = some (h.upd b (.cells (splice c 0 new) fix true el)):=f.put hb hg.lt
  have hs:splice c 0 new = new:=by
   unfold splice
   rw [List.drop_eq_nil_of_le (by omega)]
   simp
  rw [hs] at hp
  refine ⟨h.upd b (.cells new fix true el),?_,Put.mk' hg _⟩
  simp only [copyT,elemInfo,List.getElem?_toArray,List.getElem?_cons_zero,List.getElem?_cons_succ,hu,Option.bind_some,q1,Option.map_some,lenT,q2,hmin,hf,e1,Bool.cond_false,hg.get,putCells,e4,h1,Bool.and_self,Bool.cond_true,hs,hp,Option.map_some]
theorem WOL.cp {h1:TH} {ts:Array TypeId} {vx vy:Value} (hx:getL L x = some vx) (hy:getL L y = some vy) (hm:copyT P ts #[vx,vy] h = some (v,h1)) (w:∀ a,Kn (putL L d v) a → WO P tp rest a h1 K):∀ a,Kn L a → WO P tp (⟨d,.call ⟨.builtin .copy,#[x,y],ts⟩,ty,none,[],i⟩ :: rest) a h K:=fun a k =>
 WO.op rfl rfl (fun call => by
  have hp:plainOp P ⟨d,.call ⟨.builtin .copy,#[x,y],ts⟩,ty,none,[],i⟩ a.eval = none:=rfl
  simp [stepOp,heapFirst,fastOp,valueOp,hp,heapOp,getO_eval (k.o hx),getO_eval (k.o hy),hm]) (w _ (k.put d _))
theorem WOL.sl {q:Addr} {m cap:Nat} {vlo vhi:Value} (hx:getL L x = some (.slice (some q) m cap)) (hl:getL L lo = some vlo) (hh:getL L hi = some vhi) (hv:sliceT P t (.slice (some q) m cap) (some vlo) (some vhi) none h = some v) (w:∀ a,Kn (putL L d v) a → WO P tp rest a h K):∀ a,Kn L a → WO P tp (⟨d,.slice t x (some lo) (some hi) none,ty,none,[],i⟩ :: rest) a h K :=
 fun a k => WO.sl (k.o hx) (k.o hl) (k.o hh) hv (k.nx w)
end
def setN {α:Type} (l:List α) (p:Nat) (g:Nat → α):Nat → List α
 | 0 => l
 | i + 1 => (setN l p g i).set (p + i) (g i)
section
variable {α:Type} {l:List α} {p:Nat} {g:Nat → α}
theorem setN_len:∀ i,(setN l p g i).length = l.length
 | 0 => rfl
 | i + 1 => by show ((setN l p g i).set _ _).length = _; rw [List.length_set,setN_len i]
theorem setN_out {q:Nat}:∀ i,(q < p ∨ p + i ≤ q) → (setN l p g i)[q]? = l[q]?
 | 0,_ => rfl
 | i + 1,h => by
  show ((setN l p g i).set _ _)[q]? = _
  rw [List.getElem?_set_ne (by omega),setN_out i (by omega)]
theorem setN_mem {x:α}:∀ i,x ∈ setN l p g i → x ∈ l ∨ ∃ j,j < i ∧ x = g j
  | 0,h => .inl h
  | i + 1,h => by
    rcases List.mem_or_eq_of_mem_set h with h | h
    · rcases setN_mem i h with h | ⟨j,h1,h2⟩
      · exact .inl h
      · exact .inr ⟨j,by omega,h2⟩
    · exact .inr ⟨i,by omega,h⟩
end
def fillG (a b:Int) (w i:Nat):Int:=rnd (a * ((w:Int) + 1) + (b - a) * ((i:Int) + 1)) ((w:Int) + 1)
theorem Free0.of {n:Nat} {hb h h':TH} (f:Free0 n h) (x:HX hb h) (y:HX hb h'):Free0 n h':=⟨by rw [y.floor,← x.floor]; exact f.floor,by rw [y.lock,← x.lock]; exact f.lock⟩
theorem fillG_in {a b:Int} {w i:Nat} (ha:a.natAbs ≤ 16384) (hb:b.natAbs ≤ 16384) (hw:w ≤ 4096) (hi:i < w):(a * ((w:Int) + 1)).natAbs ≤ 16384 * 4097 ∧ ((b - a) * ((i:Int) + 1)).natAbs ≤ 32768 * 4097:=by
 exact ⟨mul_small ha (by omega),mul_small (by omega) (by omega)⟩
theorem fillG_lim {a b:Int} {w i:Nat} (ha:a.natAbs ≤ 16384) (hb:b.natAbs ≤ 16384) (hi:i < w):(fillG a b w i).natAbs ≤ 16384:=by
 have e:a * ((w:Int) + 1) + (b - a) * ((i:Int) + 1) = a * ((w - i:Nat):Int) + b * ((i + 1:Nat):Int):=by
  obtain ⟨c,rfl⟩:∃ c,w = i + c:=⟨w - i,by omega⟩
  rw [show i + c - i = c by omega,Int.sub_mul,Int.natCast_add,Int.natCast_add,Int.mul_add,Int.mul_add,Int.mul_add,Int.mul_add,Int.mul_add]
  omega
 have h1:(a * ((w - i:Nat):Int)).natAbs ≤ 16384 * (w - i):=mul_small ha (by omega)
 have h2:(b * ((i + 1:Nat):Int)).natAbs ≤ 16384 * (i + 1):=mul_small hb (by omega)
 unfold fillG rnd
 rw [e]
 generalize a * ((w - i:Nat):Int) = u at *
 generalize b * ((i + 1:Nat):Int) = v at *
 have h3:(2 * (u + v) + ((w:Int) + 1)) / (2 * ((w:Int) + 1)) < 16385:=Int.ediv_lt_of_lt_mul (by omega) (by omega)
 have h4:-16384 ≤ (2 * (u + v) + ((w:Int) + 1)) / (2 * ((w:Int) + 1)):=Int.le_ediv_of_mul_le (by omega) (by omega)
 omega
set_option maxHeartbeats 1000000 in
theorem k105 (H:Has tp) {b p w cap:Nat} {D:List (Int × Bool)} {x y:Int} {h hb:TH} (hx:x.natAbs ≤ 16384) (hy:y.natAbs ≤ 16384) (A:At h b (.cells (cat encC D) true true 161)) (hpw:p + w ≤ D.length) (hw:w ≤ 4096) (hcap:w ≤ cap) (X:HX hb h) (f:Free0 hb.next h) (ho:hb.next ≤ b) :
  CallW Tryz.prog tp (.func (.func 121) #[] #[]) #[.slice (some ⟨b,p * 2,none⟩) w cap,zi x,zi y] h fun _ h' => HX hb h' ∧ At h' b (.cells (cat encC (setN D p (fun i => (fillG x y w i,true)) w)) true true 161):=by
 have sl:∀ {g:TH} {E:List (Int × Bool)},At g b (.cells (cat encC E) true true 161) → E.length = D.length → SlC g (.slice (some ⟨b,p * 2,none⟩) w cap) 2 w (((cat encC E).drop (p * 2)).take (w * 2)):=fun {g E} ha he => by
  have hl:(cat encC E).length = E.length * 2:=eC.cat_len E
  exact ⟨_,_,rfl,hcap,by rw [List.length_take,List.length_drop]; omega,.inr ⟨b,p * 2,_,_,_,_,rfl,ha,rfl,by omega⟩⟩
 refine CallW.fnL (H.fn 121 f105 rfl rfl) ?_
 refine WL.sr <| WOL.mv rfl ?_
 refine WOL.len rfl (sl A rfl) u135 ?_
 refine WOL.add rfl rfl (by omega) (by omega) ?_
 refine WOL.as rfl <| WOL.nil <| keep [(0,_),(1,_),(2,_),(6,_)] ⟨rfl,rfl,rfl,rfl,trivial⟩ ?_
 refine WL.sr <| WOL.mv rfl ?_
 refine WOL.len rfl (sl A rfl) u135 ?_
 refine WOL.mv rfl <| WOL.nil <| keep [(0,_),(1,_),(2,_),(6,_),(12,_),(13,_)] ⟨rfl,rfl,rfl,rfl,rfl,rfl,trivial⟩ ?_
 refine WL.block ?_
 refine WL.loop (fun k a h2 => ∃ j:Nat,j ≤ w ∧ k = w - j ∧ HX hb h2 ∧ At h2 b (.cells (cat encC (setN D p (fun i => (fillG x y w i,true)) j)) true true 161) ∧ Kn [(0,.slice (some ⟨b,p * 2,none⟩) w cap),(1,zi x),(2,zi y),(6,zi ((w:Int) + 1)),(12,zi (w:Nat)),(13,zi (j:Nat))] a) w (fun a q => ⟨0,by omega,by omega,X,A,q.sub ⟨rfl,rfl,rfl,rfl,rfl,rfl,trivial⟩⟩) ?_
 rintro k a h2 ⟨j,hj,rfl,X2,A2,q⟩
 refine q.go ?_
 refine WL.sr ?_
 refine WOL.bi (v:=.bool (decide ((j:Int) < w))) rfl rfl rfl ?_
 refine WOL.nil <| keep [(0,_),(1,_),(2,_),(6,_),(12,_),(13,_),(14,_)] ⟨rfl,rfl,rfl,rfl,rfl,rfl,rfl,trivial⟩ ?_
 refine WL.seq ?_
 by_cases hlt:j < w
 ·rw [show decide ((j:Int) < (w:Int)) = true by simpa using hlt]
  refine WL.yes rfl <| WL.skip ?_
  obtain ⟨b1,b2⟩:=fillG_in hx hy hw hlt
  have sn:=setN_len (l:=D) (p:=p) (g:=fun i => (fillG x y w i,true)) j
  refine WL.seq ?_
  refine WL.block ?_
  refine WL.sr <| WOL.mv rfl <| WOL.as rfl <| WOL.nil <| keep [(0,_),(1,_),(2,_),(6,_),(7,_),(12,_),(13,_)] ⟨rfl,rfl,rfl,rfl,rfl,rfl,rfl,trivial⟩ ?_
  refine WL.reg <| WOL.mv rfl <| WOL.mv rfl <| WOL.mv rfl <| WOL.mv rfl ?_
  refine WOL.mul rfl rfl (by omega) (by omega) ?_
  refine WOL.mv rfl <| WOL.mv rfl ?_
  refine WOL.sub rfl rfl (by omega) (by omega) ?_
  refine WOL.mv rfl ?_
  refine WOL.add rfl rfl (by omega) (by omega) ?_
  refine WOL.mul rfl rfl (by omega) (by omega) ?_
  refine WOL.add rfl rfl (by omega) (by omega) ?_
  refine WOL.mv rfl ?_
  refine WOL.cl2 rfl rfl rfl ((k103 H (a:=x * ((w:Int) + 1) + (y - x) * ((j:Int) + 1)) (b:=(w:Int) + 1) (by omega) (by omega) (by omega)).mono ?_)
  rintro v h2 ⟨rfl,rfl⟩
  refine WOL.bd rfl bd134 ?_
  refine WOL.ix rfl rfl (indexAddr_tp u135 tp134 hlt) ?_
  refine WOL.sto rfl rfl tp134 A2 rfl rfl (by rw [eC.cat_len,sn]; omega) rfl (f.of X X2) ho fun h3 P3 => ?_
  have A3:=P3.at_
  rw [show p * 2 + j * 2 = (p + j) * 2 by omega,show (Value.agg #[.int .i64 (rnd (x * ((w:Int) + 1) + (y - x) * ((j:Int) + 1)) ((w:Int) + 1)),.bool true]).cells.toList = encC (fillG x y w j,true) from rfl,eC.set (by rw [sn]; omega)] at A3
  refine WOL.nil <| keep [(0,_),(1,_),(2,_),(6,_),(12,_),(13,_)] ⟨rfl,rfl,rfl,rfl,rfl,rfl,trivial⟩ ?_
  refine WL.reg ?_
  refine WOL.add rfl rfl (by omega) (by omega) ?_
  refine WOL.mv rfl <| WOL.nil ?_
  exact fun a q => ⟨w - (j + 1),by omega,j + 1,by omega,rfl,P3.hx _ X2 ho,A3,q.sub ⟨rfl,rfl,rfl,rfl,rfl,rfl,trivial⟩⟩
 ·rw [show decide ((j:Int) < (w:Int)) = false by simpa using hlt]
  refine WL.no rfl <| WL.exit ?_
  obtain rfl:j = w:=by omega
  exact WL.endn (vs:=[]) rfl ⟨X2,A2⟩
end Go.Tidy
namespace Go.Tidy
open Go Go.Proofs Tab
variable {tp:TProg}
def fillOn (z:Int) (m:Nat) (p:Int × Int):Bool:=(decide (p.2 - p.1 ≤ z) && decide (p.1 > 0)) && decide (p.2 < m)
def fillS {α:Type} (z:Int) (m:Nat) (g:Int × Int → Nat → α) (D:List α) (p:Int × Int):List α:=cond (fillOn z m p) (setN D p.1.toNat (g p) (p.2 - p.1).toNat) D
theorem fillS_len {α:Type} {z:Int} {m:Nat} {g:Int × Int → Nat → α} {D:List α} {p:Int × Int}:(fillS z m g D p).length = D.length:=by
 unfold fillS
 cases fillOn z m p
 ·rfl
 ·exact setN_len _
theorem fills_len {α:Type} {z:Int} {m:Nat} {g:Int × Int → Nat → α}:∀ {S:List (Int × Int)} {D:List α},(S.foldl (fillS z m g) D).length = D.length
 | [],_ => rfl
 | p :: S,D => by rw [List.foldl_cons,fills_len,fillS_len]
def fillV (L:List Int) (p:Int × Int) (i:Nat):Int:=fillG (L.getD (p.1 - 1).toNat 0) (L.getD p.2.toNat 0) (p.2 - p.1).toNat i
def fillC (L:List Int) (p:Int × Int) (i:Nat):Int × Bool:=(fillV L p i,true)
theorem getD_lim {L:List Int} (h:∀ x,x ∈ L → x.natAbs ≤ 16384) (i:Nat):(L.getD i 0).natAbs ≤ 16384:=by
 rw [List.getD_eq_getElem?_getD]
 cases hi:L[i]? with
 | none => decide
 | some x => exact h x (List.mem_of_getElem? hi)
theorem fills_lim {L:List Int} (h:∀ x,x ∈ L → x.natAbs ≤ 16384) {z:Int} {m:Nat}:∀ {S:List (Int × Int)} {D:List (Int × Bool)},(∀ c,c ∈ D → c.1.natAbs ≤ 16384) → ∀ c,c ∈ S.foldl (fillS z m (fillC L)) D → c.1.natAbs ≤ 16384
  | [],_,hD => hD
  | p :: S,D,hD => by
    rw [List.foldl_cons]
    refine fills_lim h (fun c hc => ?_)
    unfold fillS at hc
    cases ho:fillOn z m p with
    | false => rw [ho] at hc; exact hD c hc
    | true =>
      rw [ho] at hc
      rcases setN_mem _ hc with hc | ⟨j,hj,rfl⟩
      · exact hD c hc
      · exact fillG_lim (getD_lim h _) (getD_lim h _) hj
theorem Valid.cell {s:ByteArray} {n:Int} {F:List Nat} {S:List (Int × Int)} {L:List Int} (V:Valid s n F S L) {i:Nat} (hi:i < F.length):∃ k,(cellsL L S)[i]? = some (L.getD i 0,k):=by
 have kl:=V.kl
 have ll:=V.lev.1
 have hx:L[i]? = some L[i]:=List.getElem?_eq_getElem (by omega)
 have hp:(knownL S F.length)[i]? = some (knownL S F.length)[i]:=List.getElem?_eq_getElem (by omega)
 have hd:=V.dark.2 i _ hx
 have hg:L.getD i 0 = L[i]:=by rw [List.getD_eq_getElem?_getD,hx]; rfl
 rw [V.cells,cellsK_get hx hp,hg]
 generalize (knownL S F.length)[i] = k at *
 cases k with
 | true => exact ⟨true,rfl⟩
 | false => exact ⟨false,by rw [hd hp]; rfl⟩
set_option maxHeartbeats 2000000 in
set_option maxRecDepth 10000 in
theorem k45 (H:Has tp) (X:HasX tp) {s:ByteArray} {n z:Int} {v1 v2:Value} {F:List Nat} {S:List (Int × Int)} {es L:List Int} {h:TH} (r:RunH h v1 v2 F S) (hE:SErr F es) (hL:firstNZ es = 0 → Lev F L)
    (hF:F.length ≤ 900000) (hS:S.length ≤ 900000) (f:Free0 h.next h) :
    CallW Tryz.prog tp (.func (.func 47) #[] #[]) #[runV s n v1 v2,zi z] h fun v h' => RunR h h' v s n (S.foldl (fillS z F.length (fillC L)) (cellsL L S)) (firstNZ [runE s n F.length S es L,outB z 0 4096]):=by
  obtain ⟨bv1,kv1,rfl⟩:=r.f.form
  obtain ⟨bv2,kv2,rfl⟩:=r.s.form
  refine CallW.fnL (H.fn 47 f45 rfl rfl) ?_
  refine WL.sr <| WOL.box rfl fun h1 N1 => ?_
  refine WOL.al tp52 fun h2 N2 => ?_
  refine WOL.as rfl <| WOL.nil <| keep [(1,_),(2,_),(4,_)] ⟨rfl,rfl,rfl,trivial⟩ ?_
  have n1:=N1.next
  have n2:=N2.next
  have X2:=N1.hx.trans N2.hx
  have A2:=N1.at_.hx N2.hx
  have A4:=N2.at_
  refine WL.seq ?_
  refine WL.sr ?_
  refine WOL.ld rfl (load_row tp52 A2 rfl (Nat.le_of_ble_eq_true rfl)) ?_
  refine WOL.cl1 rfl rfl ((k41 H X (s:=s) (n:=n) (r.hx X2) hE hL (by omega) (by omega) (f.on X2)).mono ?_)
  rintro v h3 ⟨rfl,X3⟩
  refine WOL.mv rfl ?_
  refine WOL.cl3 rfl rfl rfl rfl ((k72 H _ _ _ _).mono ?_)
  rintro v h3 ⟨rfl,rfl⟩
  refine WOL.bsl rfl u166 tp30 (by decide) (by decide) (by decide) (filled_ints _ _) fun h5 N5 => ?_
  refine WOL.cl1 rfl rfl ((k71 H (l:=[_,_]) N5.at_.get (by simp)).mono ?_)
  rintro v h5 ⟨rfl,rfl⟩
  have Z5:=X3.trans N5.hx
  have Y5:=X2.trans Z5
  have z5:=Z5.next
  have B2:=A2.hx Z5
  have B4:=A4.hx Z5
  generalize hEE:firstNZ [runE s n F.length S es L,outB z 0 4096] = E
  refine WOL.as rfl <| WOL.nil <| keep [(1,_),(2,_),(4,_),(6,_)] ⟨rfl,rfl,rfl,rfl,trivial⟩ ?_
  refine WL.sr <| WOL.mv rfl ?_
  refine WOL.bi rfl rfl nzero ?_
  refine WOL.nil <| keep [(1,_),(2,_),(4,_),(6,_),(18,_)] ⟨rfl,rfl,rfl,rfl,rfl,trivial⟩ ?_
  rcases nz_cases E with h0 | h0
  · rw [h0]
    have z0:=firstNZ_zero (hEE.trans h0)
    have V:=valid_of (s:=s) (n:=n) (S:=S) hL (z0 _ (by simp))
    have b1:=outB_zero (z0 (outB z 0 4096) (by simp))
    have Vm:=V.m
    have Vin:=V.in_
    have hcl:(cellsL L S).length = F.length:=cells_len V.lev V.in_
    have lim:=cells_lim V.lev S
    have liml:=lev_lim V.lev
    refine WL.no rfl <| WL.skip ?_
    refine WL.sr ?_
    refine WOL.ld rfl (load_row tp52 B2 rfl (Nat.le_of_ble_eq_true rfl)) ?_
    refine WOL.cl1 rfl rfl ((k85 H (s:=s) (n:=n) (r.hx Y5) V.lev (by omega) (by omega) V.in_ (f.on Y5)).mono ?_)
    rintro v h7 ⟨b7,rfl,o7,A7,X7⟩
    have Y7:=Y5.trans X7
    have cell:=fun i hi => V.cell (i:=i) hi
    have sl7:SlL encC 2 h7 (.slice (some ⟨b7,0,none⟩) F.length F.length) (cellsL L S):=SlL.own eC A7 hcl
    generalize hCC:cellsL L S = C at *
    refine WOL.as rfl <| WOL.nil <| keep [(1,_),(2,_),(4,_),(7,_)] ⟨rfl,rfl,rfl,rfl,trivial⟩ ?_
    refine WL.sr <| WOL.mv rfl ?_
    rw [← hcl] at sl7
    rw [← hcl]
    refine WOL.len rfl sl7 u135 ?_
    refine WOL.ms rfl rfl u135 tp134 (by decide) (by omega) fun h8 N8 => ?_
    have Y8:=Y7.trans N8.hx
    have y7:=Y7.next
    refine WOL.as rfl <| WOL.nil <| keep [(1,_),(2,_),(4,_),(7,_),(8,_)] ⟨rfl,rfl,rfl,rfl,rfl,trivial⟩ ?_
    refine WL.sr <| WOL.mv rfl <| WOL.mv rfl ?_
    obtain ⟨h9,cp,P9⟩:=copy_into (sT:=162) (k:=C.length) u135 tp134 N8.at_ (by rw [List.length_flatten]; simp) (SlC.hx sl7 N8.hx) (eC.all C) (f.hx Y8) y7
    refine WOL.cp rfl rfl cp ?_
    have X9:HX h7 h9:=P9.hx _ N8.hx (Nat.le_refl _)
    have A9:=P9.at_
    have Y9:=Y7.trans X9
    refine WOL.nil <| keep [(1,_),(2,_),(4,_),(7,_),(8,_)] ⟨rfl,rfl,rfl,rfl,rfl,trivial⟩ ?_
    refine WL.seq ?_
    have D2:=(B2.hx X7).hx X9
    refine WL.sr <| WOL.fa rfl (fa_of fo52_3) ?_
    refine WOL.ld rfl (load_one tp44 D2 rfl) ?_
    refine WOL.len rfl (r.s.hx Y9) u44 ?_
    refine WOL.mv rfl <| WOL.nil <| keep [(1,_),(2,_),(4,_),(7,_),(8,_),(30,_),(31,_),(32,_)] ⟨rfl,rfl,rfl,rfl,rfl,rfl,rfl,rfl,trivial⟩ ?_
    refine WL.block ?_
    refine WL.loop (fun q a hh => ∃ j:Nat,j ≤ S.length ∧ q = S.length - j ∧ HX h7 hh ∧ At hh h7.next (.cells (cat encC ((S.take j).foldl (fillS z C.length (fillC L)) C)) true true 161) ∧ Kn [(1,zi z),(2,ptr h.next),(4,ptr h1.next),(7,.slice (some ⟨b7,0,none⟩) C.length C.length),(8,.slice (some ⟨h7.next,0,none⟩) C.length C.length),(30,.slice bv2 S.length kv2),(31,zi S.length),(32,zi (j:Nat))] a) S.length (fun a q => ⟨0,by omega,by omega,X9,A9,q.sub ⟨rfl,rfl,rfl,rfl,rfl,rfl,rfl,rfl,trivial⟩⟩) ?_
    rintro q a hh ⟨j,hj,rfl,Xh,Ah,q⟩
    refine q.go ?_
    have Yh:=Y7.trans Xh
    have xh:=Xh.next
    refine WL.sr ?_
    refine WOL.bi (v:=.bool (decide ((j:Int) < S.length))) rfl rfl rfl ?_
    refine WOL.nil <| keep [(1,_),(2,_),(4,_),(7,_),(8,_),(30,_),(31,_),(32,_),(33,_)] ⟨rfl,rfl,rfl,rfl,rfl,rfl,rfl,rfl,rfl,trivial⟩ ?_
    refine WL.seq ?_
    by_cases hlt:j < S.length
    · rw [show decide ((j:Int) < (S.length:Int)) = true by simpa using hlt]
      refine WL.yes rfl <| WL.skip ?_
      have hS1:S[j]? = some S[j]:=List.getElem?_eq_getElem hlt
      obtain ⟨g1,g2,g3⟩:=Vin S[j] (List.getElem_mem hlt)
      have htk:(S.take (j + 1)).foldl (fillS z C.length (fillC L)) C = fillS z C.length (fillC L) ((S.take j).foldl (fillS z C.length (fillC L)) C) S[j]:=by
        rw [take_succ_get hS1,List.foldl_append]; rfl
      have hfl:=fills_len (z:=z) (m:=C.length) (g:=fillC L) (S:=S.take j) (D:=C)
      generalize S[j] = p at *
      obtain ⟨p1,p2⟩:=p
      obtain ⟨lo,rfl⟩:=Int.eq_ofNat_of_zero_le g1
      obtain ⟨hi,rfl⟩:=Int.eq_ofNat_of_zero_le (Int.le_trans g1 g2)
      have g2':lo ≤ hi:=Int.ofNat_le.1 g2
      have g3':hi ≤ F.length:=Int.ofNat_le.1 g3
      obtain ⟨b4,o,cc,fix,wr,el,e1,e2,e3,e4,e5⟩:=(r.s.hx Yh).at eS u44 tp48 hS1 .i64
      refine WL.seq ?_
      refine WL.block ?_
      refine WL.sr ?_
      refine WOL.ix rfl rfl e1 ?_
      refine WOL.ld rfl (load_row tp48 e2 e4 e3) ?_
      refine WOL.al tp48 fun i1 M1 => ?_
      refine WOL.sto rfl rfl tp48 M1.at_ rfl rfl (Nat.le_of_ble_eq_true rfl) rfl (f.hx (Yh.trans M1.hx)) Yh.next fun g P => ?_
      have Xg:HX h7 g:=P.hx _ (Xh.trans M1.hx) xh
      have Yg:=Y7.trans Xg
      have lth:=Ah.lt
      have Ag:=P.oth _ _ (by omega) (Ah.hx M1.hx)
      have G:At g hh.next (.cells [.int .i64 (lo:Nat),.int .i64 (hi:Nat)] true true 48):=P.at_
      refine WOL.nil <| keep [(1,_),(2,_),(4,_),(7,_),(8,_),(10,_),(30,_),(31,_),(32,_)] ⟨rfl,rfl,rfl,rfl,rfl,rfl,rfl,rfl,rfl,trivial⟩ ?_
      have fin:∀ {Q:Exit → Regs → TH → Prop} g',HX h7 g' → At g' h7.next (.cells (cat encC ((S.take (j + 1)).foldl (fillS z C.length (fillC L)) C)) true true 161) → ∀ a,Kn [(1,zi z),(2,ptr h.next),(4,ptr h1.next),(7,.slice (some ⟨b7,0,none⟩) C.length C.length),(8,.slice (some ⟨h7.next,0,none⟩) C.length C.length),(30,.slice bv2 S.length kv2),(31,zi S.length),(32,zi (j:Nat))] a → W Tryz.prog tp false (.reg r45_12) a g' (andThen (fun a hh => ∃ q',q' < S.length - j ∧ ∃ j:Nat,j ≤ S.length ∧ q' = S.length - j ∧ HX h7 hh ∧ At hh h7.next (.cells (cat encC ((S.take j).foldl (fillS z C.length (fillC L)) C)) true true 161) ∧ Kn [(1,zi z),(2,ptr h.next),(4,ptr h1.next),(7,.slice (some ⟨b7,0,none⟩) C.length C.length),(8,.slice (some ⟨h7.next,0,none⟩) C.length C.length),(30,.slice bv2 S.length kv2),(31,zi S.length),(32,zi (j:Nat))] a) Q):=by
        intro Q g' X' A'
        refine WL.reg ?_
        refine WOL.bi (v:=zi ((j + 1:Nat):Int)) rfl rfl (by show some (Value.int .i64 (fwrap .i64 ((j:Int) + 1))) = _; rw [fwrap_i64 (by omega) (by omega)]; rfl) ?_
        refine WOL.mv rfl <| WOL.nil ?_
        exact fun a q => ⟨S.length - (j + 1),by omega,j + 1,by omega,rfl,X',A',q.sub ⟨rfl,rfl,rfl,rfl,rfl,rfl,rfl,rfl,trivial⟩⟩
      have off:fillOn z C.length ((lo:Int),(hi:Int)) = false → (S.take (j + 1)).foldl (fillS z C.length (fillC L)) C = (S.take j).foldl (fillS z C.length (fillC L)) C:=fun e => by
        rw [htk]; unfold fillS; rw [e]; rfl
      have hon:fillOn z C.length ((lo:Int),(hi:Int)) = ((decide ((hi:Int) - lo ≤ z) && decide ((lo:Int) > 0)) && decide ((hi:Int) < C.length)):=rfl
      refine WL.sr <| WOL.fa rfl (fa_of fo48_1) ?_
      refine WOL.ld rfl (load_one tp3 G rfl) ?_
      refine WOL.fa rfl (fa_of fo48_0) ?_
      refine WOL.ld rfl (load_one tp3 G rfl) ?_
      refine WOL.sub rfl rfl (by omega) (by omega) ?_
      refine WOL.mv rfl ?_
      refine WOL.bi (v:=.bool (decide ((hi:Int) - lo ≤ z))) rfl rfl rfl ?_
      by_cases c1:(hi:Int) - lo ≤ z
      · rw [decide_eq_true c1] at hon ⊢
        refine WOL.mv rfl <| WOL.now (b:=true) rfl rfl <| WOL.fa rfl (fa_of fo48_0) <| WOL.now (b:=true) rfl rfl ?_
        refine WOL.ld rfl (load_one tp3 G rfl) ?_
        refine WOL.now (b:=true) rfl rfl ?_
        refine WOL.bi (v:=.bool (decide ((lo:Int) > 0))) rfl rfl rfl ?_
        refine WOL.pkt rfl rfl ?_
        by_cases c2:(lo:Int) > 0
        · rw [decide_eq_true c2] at hon ⊢
          refine WOL.mv rfl <| WOL.now (b:=true) rfl rfl <| WOL.fa rfl (fa_of fo48_1) <| WOL.now (b:=true) rfl rfl ?_
          refine WOL.ld rfl (load_one tp3 G rfl) ?_
          refine WOL.now (b:=true) rfl rfl <| WOL.mv rfl <| WOL.now (b:=true) rfl rfl ?_
          refine WOL.len rfl (sl7.hx Xg) u135 ?_
          refine WOL.now (b:=true) rfl rfl ?_
          refine WOL.bi (v:=.bool (decide ((hi:Int) < C.length))) rfl rfl rfl ?_
          refine WOL.pkt rfl rfl <| WOL.nil <| keep [(1,_),(2,_),(4,_),(7,_),(8,_),(10,_),(30,_),(31,_),(32,_),(54,_)] ⟨rfl,rfl,rfl,rfl,rfl,rfl,rfl,rfl,rfl,rfl,trivial⟩ ?_
          by_cases c3:(hi:Int) < C.length
          · rw [decide_eq_true c3] at hon ⊢
            have e0:(S.take (j + 1)).foldl (fillS z C.length (fillC L)) C = setN ((S.take j).foldl (fillS z C.length (fillC L)) C) lo (fun i => (fillG (L.getD (lo - 1) 0) (L.getD hi 0) (hi - lo) i,true)) (hi - lo):=by
              rw [htk]
              unfold fillS
              rw [hon]
              show setN _ ((lo:Int)).toNat (fillC L ((lo:Int),(hi:Int))) ((hi:Int) - lo).toNat = _
              have t1:((hi:Int) - lo).toNat = hi - lo:=by omega
              have t2:fillC L ((lo:Int),(hi:Int)) = fun i => (fillG (L.getD (lo - 1) 0) (L.getD hi 0) (hi - lo) i,true):=by
                funext i
                show (fillG (L.getD ((lo:Int) - 1).toNat 0) (L.getD ((hi:Int)).toNat 0) ((hi:Int) - lo).toNat i,true) = _
                rw [t1,show ((lo:Int) - 1).toNat = lo - 1 by omega,Int.toNat_natCast]
              rw [t1,t2,Int.toNat_natCast]
            obtain ⟨ka,ha⟩:=cell (lo - 1) (by omega)
            obtain ⟨kb,hb⟩:=cell hi (by omega)
            obtain ⟨ba,oa,ca,fa,wa,la,p1,p2,p3,p4,p5⟩:=(sl7.hx Xg).at eC u135 tp134 ha .i64
            obtain ⟨bb,ob,cb,fb,wb,lb,q1,q2,q3,q4,q5⟩:=(sl7.hx Xg).at eC u135 tp134 hb .i64
            refine WL.yes rfl ?_
            refine WL.reg <| WOL.mv rfl <| WOL.fa rfl (fa_of fo48_0) ?_
            refine WOL.ld rfl (load_one tp3 G rfl) ?_
            refine WOL.fa rfl (fa_of fo48_1) ?_
            refine WOL.ld rfl (load_one tp3 G rfl) ?_
            refine WOL.sl rfl rfl rfl (sliceT_at u135 tp134 (Nat.le_refl _) g2' (by omega) Ag (.inl rfl)) ?_
            refine WOL.mv rfl <| WOL.fa rfl (fa_of fo48_0) ?_
            refine WOL.ld rfl (load_one tp3 G rfl) ?_
            refine WOL.bi (v:=zi ((lo - 1:Nat):Int)) rfl rfl (by show some (Value.int .i64 (fwrap .i64 ((lo:Int) - 1))) = _; rw [fwrap_i64 (by omega) (by omega)]; congr 2; omega) ?_
            refine WOL.ix rfl rfl p1 ?_
            refine WOL.fa rfl (fa_of fo134_0) ?_
            refine WOL.ld rfl (load_one tp3 p2 (p5 0 (by decide))) ?_
            refine WOL.mv rfl <| WOL.fa rfl (fa_of fo48_1) ?_
            refine WOL.ld rfl (load_one tp3 G rfl) ?_
            refine WOL.ix rfl rfl q1 ?_
            refine WOL.fa rfl (fa_of fo134_0) ?_
            refine WOL.ld rfl (load_one tp3 q2 (q5 0 (by decide))) ?_
            rw [show 0 + lo * 2 = lo * 2 by omega]
            refine WOL.cl3 rfl rfl rfl rfl ((k105 H (p:=lo) (w:=hi - lo) (getD_lim liml (lo - 1)) (getD_lim liml hi) Ag (by rw [hfl]; omega) (by omega) (by omega) Xg ((f.on Y7).hx Xg) (Nat.le_refl _)).mono ?_)
            rintro v g' ⟨X',A'⟩
            refine WOL.nil ?_
            rw [← e0] at A'
            exact kto (fin g' X' A') ⟨rfl,rfl,rfl,rfl,rfl,rfl,rfl,rfl,trivial⟩
          · rw [decide_eq_false c3] at hon ⊢
            refine WL.no rfl <| WL.skip ?_
            rw [← off hon] at Ag
            exact kto (fin g Xg Ag) ⟨rfl,rfl,rfl,rfl,rfl,rfl,rfl,rfl,trivial⟩
        · rw [decide_eq_false c2] at hon ⊢
          refine WOL.mv rfl <| WOL.skp (b:=false) rfl rfl <| WOL.skp (b:=false) rfl rfl <| WOL.skp (b:=false) rfl rfl <| WOL.skp (b:=false) rfl rfl <| WOL.skp (b:=false) rfl rfl <| WOL.pkf rfl rfl <| WOL.nil <| keep [(1,_),(2,_),(4,_),(7,_),(8,_),(10,_),(30,_),(31,_),(32,_),(54,_)] ⟨rfl,rfl,rfl,rfl,rfl,rfl,rfl,rfl,rfl,rfl,trivial⟩ ?_
          refine WL.no rfl <| WL.skip ?_
          rw [← off (by rw [hon]; rfl)] at Ag
          exact kto (fin g Xg Ag) ⟨rfl,rfl,rfl,rfl,rfl,rfl,rfl,rfl,trivial⟩
      · rw [decide_eq_false c1] at hon ⊢
        refine WOL.mv rfl <| WOL.skp (b:=false) rfl rfl <| WOL.skp (b:=false) rfl rfl <| WOL.skp (b:=false) rfl rfl <| WOL.pkf rfl rfl ?_
        refine WOL.mv rfl <| WOL.skp (b:=false) rfl rfl <| WOL.skp (b:=false) rfl rfl <| WOL.skp (b:=false) rfl rfl <| WOL.skp (b:=false) rfl rfl <| WOL.skp (b:=false) rfl rfl <| WOL.pkf rfl rfl <| WOL.nil <| keep [(1,_),(2,_),(4,_),(7,_),(8,_),(10,_),(30,_),(31,_),(32,_),(54,_)] ⟨rfl,rfl,rfl,rfl,rfl,rfl,rfl,rfl,rfl,rfl,trivial⟩ ?_
        refine WL.no rfl <| WL.skip ?_
        rw [← off (by rw [hon]; rfl)] at Ag
        exact kto (fin g Xg Ag) ⟨rfl,rfl,rfl,rfl,rfl,rfl,rfl,rfl,trivial⟩
    · rw [show decide ((j:Int) < (S.length:Int)) = false by simpa using hlt]
      refine WL.no rfl <| WL.exit ?_
      obtain rfl:j = S.length:=by omega
      rw [List.take_length] at Ah
      have hfl:=fills_len (z:=z) (m:=C.length) (g:=fillC L) (S:=S) (D:=C)
      have slR:SlL encC 2 hh (.slice (some ⟨h7.next,0,none⟩) C.length C.length) (S.foldl (fillS z C.length (fillC L)) C):=SlL.own eC Ah hfl
      have E2:=(B2.hx X7).hx Xh
      refine WL.sr <| WOL.fa rfl (fa_of fo52_0) ?_
      refine WOL.ld rfl (load_one tp9 E2 rfl) ?_
      refine WOL.fa rfl (fa_of fo52_1) ?_
      refine WOL.ld rfl (load_one tp3 E2 rfl) ?_
      refine WOL.mv rfl ?_
      refine WOL.cl3 rfl rfl rfl rfl ((k89 H (s:=s) (n:=n) slR (fills_lim liml lim) (by rw [hfl]; omega) (f.on Yh)).mono ?_)
      rintro v h11 ⟨q1,q2,rfl,X11,O11⟩
      have Y11:=Yh.trans X11
      obtain ⟨bo1,k1,rfl⟩:=O11.r.f.form
      obtain ⟨bo2,k2,rfl⟩:=O11.r.s.form
      have yh:=Yh.next
      have x7:=X7.next
      refine WOL.sto rfl rfl tp52 (((B4.hx X7).hx Xh).hx X11) rfl rfl (Nat.le_of_ble_eq_true rfl) rfl (f.hx Y11) (by omega) fun h12 P12 => ?_
      refine WOL.as rfl <| WOL.nil ?_
      exact WL.ret (WL.endC1 (t:=4) (s:=5) rfl rfl (load_row tp52 P12.at_ rfl (Nat.le_of_ble_eq_true rfl)) ⟨P12.hx _ Y11 (by omega),.inr ⟨rfl,_,_,rfl,(O11.away P12 (by omega)).le (by omega)⟩⟩)
  · rw [h0]
    refine WL.yes rfl <| WL.sr <| WOL.bd rfl bd52z <| WOL.mv rfl ?_
    refine WOL.sto rfl rfl tp52 B4 rfl rfl (Nat.le_of_ble_eq_true rfl) rfl (f.hx Y5) (by omega) fun h9 P9 => ?_
    refine WOL.as rfl <| WOL.nil ?_
    exact WL.ret (WL.endC1 (t:=4) (s:=5) rfl rfl (load_row tp52 P9.at_ rfl (Nat.le_of_ble_eq_true rfl)) ⟨P9.hx _ Y5 (by omega),.inl ⟨by simpa using h0,rfl⟩⟩)
end Go.Tidy
namespace Go.Tidy
open Go Go.Proofs Tab
variable {tp:TProg}
theorem holeE_after {m:Nat}:∀ {S:List (Int × Int)} {prev:Int},holeE m prev S = 0 → ∀ p,p ∈ S → prev < p.1
  | [],_,_ => fun p hp => by cases hp
  | x :: r,prev,h => by
    have hlt:=holeE_lt h x (List.mem_cons_self ..)
    rw [holeE_cons] at h
    cases hb:badS m x with
    | true => rw [hb] at h; cases h
    | false =>
      rw [hb] at h
      by_cases hc:x.1 ≤ prev
      · rw [decide_eq_true hc] at h; cases h
      · rw [decide_eq_false hc] at h
        intro p hp
        rcases List.mem_cons.1 hp with rfl | hp
        · omega
        · have:=holeE_after (S:=r) (prev:=x.2) h p hp
          omega
theorem holeE_ord {m:Nat}:∀ {S:List (Int × Int)} {prev:Int},holeE m prev S = 0 → ∀ (j:Nat) (p:Int × Int),S[j]? = some p → ∀ q,q ∈ S.take j → q.2 < p.1
  | [],_,_,j,p,h,_,_ => by simp at h
  | x :: r,prev,h,0,p,_,q,hq => by simp at hq
  | x :: r,prev,h,j + 1,p,hp,q,hq => by
    rw [holeE_cons] at h
    cases hb:badS m x with
    | true => rw [hb] at h; cases h
    | false =>
      rw [hb] at h
      by_cases hc:x.1 ≤ prev
      · rw [decide_eq_true hc] at h; cases h
      · rw [decide_eq_false hc] at h
        have hp':r[j]? = some p:=by simpa using hp
        rw [List.take_succ_cons] at hq
        rcases List.mem_cons.1 hq with rfl | hq
        · exact holeE_after (S:=r) h p (List.mem_of_getElem? hp')
        · exact holeE_ord (S:=r) (prev:=x.2) h j p hp' q hq
theorem fills_out {α:Type} {z:Int} {m:Nat} {g:Int × Int → Nat → α} {i:Nat}:∀ {S:List (Int × Int)} {D:List α},(∀ q,q ∈ S → 0 ≤ q.1 ∧ q.1 ≤ q.2 ∧ q.2 ≤ (i:Int)) → (S.foldl (fillS z m g) D)[i]? = D[i]?
 | [],_,_ => rfl
 | p :: S,D,h => by
  rw [List.foldl_cons,fills_out fun q hq => h q (List.mem_cons_of_mem _ hq)]
  unfold fillS
  have:=h p (List.mem_cons_self ..)
  cases fillOn z m p with
  | false => rfl
  | true => exact setN_out _ (.inr (by omega))
theorem cellsK_set:∀ {Z:List Int} {Y:List Bool} {j:Nat} {x:Int},cellsK (Z.set j x) (Y.set j true) = (cellsK Z Y).set j (x,true)
 | [],_,_,_ => rfl
 | _ :: _,[],j,_ => by cases j <;> rfl
 | _ :: _,_ :: _,0,_ => rfl
 | z :: Z,y :: Y,j + 1,x => by
  have:=cellsK_set (Z:=Z) (Y:=Y) (j:=j) (x:=x)
  unfold cellsK at *
  simp only [List.set_cons_succ,List.zipWith_cons_cons,this]
theorem setN_cells {Z:List Int} {Y:List Bool} {p:Nat} {g:Nat → Int}:∀ i,cellsK (setN Z p g i) (setN Y p (fun _ => true) i) = setN (cellsK Z Y) p (fun i => (g i,true)) i
 | 0 => rfl
 | i + 1 => by
  show cellsK ((setN Z p g i).set _ _) ((setN Y p (fun _ => true) i).set _ _) = (setN _ _ _ i).set _ _
  rw [cellsK_set,setN_cells i]
theorem fill_cells {L:List Int} {z:Int} {m:Nat}:∀ {S:List (Int × Int)} {Z:List Int} {Y:List Bool},S.foldl (fillS z m (fillC L)) (cellsK Z Y) = cellsK (S.foldl (fillS z m (fillV L)) Z) (S.foldl (fillS z m fun _ _ => true) Y)
 | [],_,_ => rfl
 | p :: S,Z,Y => by
  rw [List.foldl_cons,List.foldl_cons,List.foldl_cons,← fill_cells]
  congr 1
  unfold fillS
  cases fillOn z m p with
  | false => rfl
  | true => exact (setN_cells _).symm
theorem fillsV_lim {L:List Int} (h:∀ x,x ∈ L → x.natAbs ≤ 16384) {z:Int} {m:Nat}:∀ {S:List (Int × Int)} {D:List Int},(∀ c,c ∈ D → c.natAbs ≤ 16384) → ∀ c,c ∈ S.foldl (fillS z m (fillV L)) D → c.natAbs ≤ 16384
  | [],_,hD => hD
  | p :: S,D,hD => by
    rw [List.foldl_cons]
    refine fillsV_lim h (fun c hc => ?_)
    unfold fillS at hc
    cases ho:fillOn z m p with
    | false => rw [ho] at hc; exact hD c hc
    | true =>
      rw [ho] at hc
      rcases setN_mem _ hc with hc | ⟨j,hj,rfl⟩
      · exact hD c hc
      · exact fillG_lim (getD_lim h _) (getD_lim h _) hj
theorem fo46_3':fieldOff Tryz.prog 46 3 = some 3:=by kernel_rfl
set_option maxHeartbeats 2000000 in
set_option maxRecDepth 10000 in
theorem k48 (H:Has tp) {s:ByteArray} {n z:Int} {v1 v2:Value} {F:List Nat} {S:List (Int × Int)} {L:List Int} {h:TH} (r:RunH h v1 v2 F S) (V:Valid s n F S L) (hS:S.length ≤ 900000) (f:Free0 h.next h) :
    CallW Tryz.prog tp (.func (.func 50) #[] #[]) #[runV s n v1 v2,zi z] h fun v h' => ∃ w1 w2,v = runV s n w1 w2 ∧ HX h h' ∧ RunO h.next h' w1 w2 (madeF (S.foldl (fillS z F.length (fillV L)) L) (S.foldl (fillS z F.length fun _ _ => true) (knownL S F.length))) (holesOf (S.foldl (fillS z F.length fun _ _ => true) (knownL S F.length))):=by
  obtain ⟨bv1,kv1,rfl⟩:=r.f.form
  obtain ⟨bv2,kv2,rfl⟩:=r.s.form
  have Vm:=V.m
  have Vin:=V.in_
  have kl:=V.kl
  have ll:=V.lev.1
  have liml:=lev_lim V.lev
  have ord:=holeE_ord V.hole
  have hltp:=holeE_lt V.hole
  refine CallW.fnL (H.fn 50 f48 rfl rfl) ?_
  refine WL.sr <| WOL.box rfl fun h1 N1 => ?_
  refine WOL.al tp46 fun h2 N2 => ?_
  refine WOL.nil <| keep [(1,_),(2,_),(4,_)] ⟨rfl,rfl,rfl,trivial⟩ ?_
  have n1:=N1.next
  have n2:=N2.next
  have X2:=N1.hx.trans N2.hx
  have A2:=N1.at_.hx N2.hx
  have A4:=N2.at_
  refine WL.sr ?_
  refine WOL.ld rfl (load_row tp46 A2 rfl (Nat.le_of_ble_eq_true rfl)) ?_
  refine WOL.cl1 rfl rfl ((k96 H (s:=s) (n:=n) (r.hx X2) V.lev (by omega) (by omega) (f.on X2)).mono ?_)
  rintro v h3 ⟨w5,w6,rfl,O5,O6,X3⟩
  generalize hKK:knownL S F.length = K at *
  refine WOL.mv rfl <| WOL.ex rfl rfl <| WOL.ex rfl rfl <| WOL.as rfl <| WOL.as rfl <| WOL.nil <| keep [(1,_),(2,_),(4,_),(5,_),(6,_)] ⟨rfl,rfl,rfl,rfl,rfl,trivial⟩ ?_
  refine WL.seq ?_
  refine WL.sr <| WOL.as rfl <| WOL.nil <| keep [(1,_),(2,_),(4,_),(5,_),(6,_),(7,_)] ⟨rfl,rfl,rfl,rfl,rfl,rfl,trivial⟩ ?_
  refine WL.block ?_
  refine WL.loop (fun q a hh => ∃ j:Nat,j ≤ S.length ∧ q = S.length - j ∧ HX h2 hh ∧ OwnL encI h2.next hh w5 3 ((S.take j).foldl (fillS z F.length (fillV L)) L) ∧ OwnL encB h2.next hh w6 4 ((S.take j).foldl (fillS z F.length fun _ _ => true) K) ∧ Kn [(1,zi z),(2,ptr h.next),(4,ptr h1.next),(5,w5),(6,w6),(7,zi (j:Nat))] a) S.length (fun a q => ⟨0,by omega,by omega,X3,O5,O6,q.sub ⟨rfl,rfl,rfl,rfl,rfl,rfl,trivial⟩⟩) ?_
  rintro q a hh ⟨j,hj,rfl,Xh,P5,P6,q⟩
  refine q.go ?_
  have Yh:=X2.trans Xh
  have xh:=Xh.next
  refine WL.seq ?_
  refine WL.sr <| WOL.mv rfl <| WOL.fa rfl (fa_of fo46_3') ?_
  refine WOL.ld rfl (load_one tp44 (A2.hx Xh) rfl) ?_
  refine WOL.len rfl (r.s.hx Yh) u44 ?_
  refine WOL.bi (v:=.bool (decide ((j:Int) < S.length))) rfl rfl rfl ?_
  refine WOL.nil <| keep [(1,_),(2,_),(4,_),(5,_),(6,_),(7,_),(22,_)] ⟨rfl,rfl,rfl,rfl,rfl,rfl,rfl,trivial⟩ ?_
  by_cases hlt:j < S.length
  · rw [show decide ((j:Int) < (S.length:Int)) = true by simpa using hlt]
    refine WL.yes rfl <| WL.skip ?_
    have hS1:S[j]? = some S[j]:=List.getElem?_eq_getElem hlt
    obtain ⟨g1,g2,g3⟩:=Vin S[j] (List.getElem_mem hlt)
    have g4:=hltp S[j] (List.getElem_mem hlt)
    have hord:=ord j S[j] hS1
    have htk:∀ {α:Type} (g:Int × Int → Nat → α) (D:List α),(S.take (j + 1)).foldl (fillS z F.length g) D = fillS z F.length g ((S.take j).foldl (fillS z F.length g) D) S[j]:=fun g D => by
      rw [take_succ_get hS1,List.foldl_append]; rfl
    have hZl:=fills_len (z:=z) (m:=F.length) (g:=fillV L) (S:=S.take j) (D:=L)
    have hYl:=fills_len (z:=z) (m:=F.length) (g:=fun _ _ => true) (S:=S.take j) (D:=K)
    have hout:∀ i:Nat,S[j].1 ≤ (i:Int) + 1 → ((S.take j).foldl (fillS z F.length (fillV L)) L)[i]? = L[i]?:=fun i hi => fills_out fun q hq => by
      have h1:=Vin q (List.mem_of_mem_take hq)
      have h2:=hord q hq
      exact ⟨h1.1,h1.2.1,by omega⟩
    generalize S[j] = p at *
    obtain ⟨p1,p2⟩:=p
    obtain ⟨lo,rfl⟩:=Int.eq_ofNat_of_zero_le g1
    obtain ⟨hi,rfl⟩:=Int.eq_ofNat_of_zero_le (Int.le_trans g1 g2)
    have g2':lo < hi:=Int.ofNat_lt.1 g4
    have g3':hi ≤ F.length:=Int.ofNat_le.1 g3
    obtain ⟨b4,o,cc,fix,wr,el,e1,e2,e3,e4,e5⟩:=(r.s.hx Yh).at eS u44 tp48 hS1 .i64
    refine WL.seq ?_
    refine WL.block ?_
    refine WL.sr <| WOL.fa rfl (fa_of fo46_3') ?_
    refine WOL.ld rfl (load_one tp44 (A2.hx Xh) rfl) ?_
    refine WOL.mv rfl ?_
    refine WOL.ix rfl rfl e1 ?_
    refine WOL.ld rfl (load_row tp48 e2 e4 e3) ?_
    refine WOL.al tp48 fun i1 M1 => ?_
    refine WOL.sto rfl rfl tp48 M1.at_ rfl rfl (Nat.le_of_ble_eq_true rfl) rfl (f.hx (Yh.trans M1.hx)) Yh.next fun g P => ?_
    have Xg:HX h2 g:=P.hx _ (Xh.trans M1.hx) xh
    have Yg:=X2.trans Xg
    have G:At g hh.next (.cells [.int .i64 (lo:Nat),.int .i64 (hi:Nat)] true true 48):=P.at_
    have gn:=P.next
    have m1:=M1.next
    have R5:=own_put (P5.hx M1.hx) P (fun e => by have:=(P5.lt e).2; omega)
    have R6:=own_put (P6.hx M1.hx) P (fun e => by have:=(P6.lt e).2; omega)
    have u5:∀ c,bl w5 = some c → c < hh.next:=fun c e => (P5.lt e).2
    have u6:∀ c,bl w6 = some c → c < hh.next:=fun c e => (P6.lt e).2
    clear P5 P6
    refine WOL.nil <| keep [(1,_),(2,_),(4,_),(5,_),(6,_),(7,_),(8,_)] ⟨rfl,rfl,rfl,rfl,rfl,rfl,rfl,trivial⟩ ?_
    have fin:∀ {Q:Exit → Regs → TH → Prop} g',HX h2 g' → OwnL encI h2.next g' w5 3 ((S.take (j + 1)).foldl (fillS z F.length (fillV L)) L) → OwnL encB h2.next g' w6 4 ((S.take (j + 1)).foldl (fillS z F.length fun _ _ => true) K) → ∀ a,Kn [(1,zi z),(2,ptr h.next),(4,ptr h1.next),(5,w5),(6,w6),(7,zi (j:Nat))] a → W Tryz.prog tp false (.reg r48_13) a g' (andThen (fun a hh => ∃ q',q' < S.length - j ∧ ∃ j:Nat,j ≤ S.length ∧ q' = S.length - j ∧ HX h2 hh ∧ OwnL encI h2.next hh w5 3 ((S.take j).foldl (fillS z F.length (fillV L)) L) ∧ OwnL encB h2.next hh w6 4 ((S.take j).foldl (fillS z F.length fun _ _ => true) K) ∧ Kn [(1,zi z),(2,ptr h.next),(4,ptr h1.next),(5,w5),(6,w6),(7,zi (j:Nat))] a) Q):=by
      intro Q g' X' p5 p6
      refine WL.reg <| WOL.mv rfl ?_
      refine WOL.bi (v:=zi ((j + 1:Nat):Int)) rfl rfl (by show some (Value.int .i64 (fwrap .i64 ((j:Int) + 1))) = _; rw [fwrap_i64 (by omega) (by omega)]; rfl) ?_
      refine WOL.as rfl <| WOL.nil ?_
      exact fun a q => ⟨S.length - (j + 1),by omega,j + 1,by omega,rfl,X',p5,p6,q.sub ⟨rfl,rfl,rfl,rfl,rfl,rfl,trivial⟩⟩
    have off:fillOn z F.length ((lo:Int),(hi:Int)) = false → ∀ {α:Type} (g:Int × Int → Nat → α) (D:List α),(S.take (j + 1)).foldl (fillS z F.length g) D = (S.take j).foldl (fillS z F.length g) D:=fun e _ g D => by
      rw [htk]; unfold fillS; rw [e]; rfl
    have hon:fillOn z F.length ((lo:Int),(hi:Int)) = ((decide ((hi:Int) - lo ≤ z) && decide ((lo:Int) > 0)) && decide ((hi:Int) < F.length)):=rfl
    have on:fillOn z F.length ((lo:Int),(hi:Int)) = true → ∀ {α:Type} (g:Int × Int → Nat → α) (D:List α),(S.take (j + 1)).foldl (fillS z F.length g) D = setN ((S.take j).foldl (fillS z F.length g) D) lo (g ((lo:Int),(hi:Int))) (hi - lo):=fun e _ g D => by
      rw [htk]; unfold fillS; rw [e]
      show setN _ ((lo:Int)).toNat _ ((hi:Int) - lo).toNat = _
      rw [Int.toNat_natCast,show ((hi:Int) - lo).toNat = hi - lo by omega]
    refine WL.sr <| WOL.fa rfl (fa_of fo48_1) ?_
    refine WOL.ld rfl (load_one tp3 G rfl) ?_
    refine WOL.fa rfl (fa_of fo48_0) ?_
    refine WOL.ld rfl (load_one tp3 G rfl) ?_
    refine WOL.bi (v:=zi ((hi - lo:Nat):Int)) rfl rfl (by show some (Value.int .i64 (fwrap .i64 ((hi:Int) - lo))) = _; rw [fwrap_i64 (by omega) (by omega)]; congr 2; omega) ?_
    refine WOL.as rfl <| WOL.nil <| keep [(1,_),(2,_),(4,_),(5,_),(6,_),(7,_),(8,_),(9,_)] ⟨rfl,rfl,rfl,rfl,rfl,rfl,rfl,rfl,trivial⟩ ?_
    refine WL.seq ?_
    refine WL.sr <| WOL.mv rfl <| WOL.mv rfl ?_
    refine WOL.bi (v:=.bool (decide (((hi - lo:Nat):Int) > z))) rfl rfl rfl ?_
    have skip:fillOn z F.length ((lo:Int),(hi:Int)) = false → ∀ {A B:Regs → TH → Prop} {Q:Exit → Regs → TH → Prop} (c1:TCode) (hB:∀ g',HX h2 g' → OwnL encI h2.next g' w5 3 ((S.take (j + 1)).foldl (fillS z F.length (fillV L)) L) → OwnL encB h2.next g' w6 4 ((S.take (j + 1)).foldl (fillS z F.length fun _ _ => true) K) → ∀ a,Kn [(1,zi z),(2,ptr h.next),(4,ptr h1.next),(5,w5),(6,w6),(7,zi (j:Nat))] a → B a g'),∀ a,Kn [(1,zi z),(2,ptr h.next),(4,ptr h1.next),(5,w5),(6,w6),(7,zi (j:Nat)),(49,.bool true)] a → W Tryz.prog tp false (.cond (Ot 49) (.exit 1) c1) a g (andThen A (leaves 1 (andThen B Q))):=by
      intro e A B Q c1 hB
      refine WL.yes rfl <| WL.exit ?_
      rw [← off e (fillV L) L] at R5
      rw [← off e (fun _ _ => true) K] at R6
      exact kto (hB g Xg R5 R6) ⟨rfl,rfl,rfl,rfl,rfl,rfl,trivial⟩
    have rest:fillOn z F.length ((lo:Int),(hi:Int)) = true → 0 < lo → hi < F.length → ∀ {B:Regs → TH → Prop} {Q:Exit → Regs → TH → Prop} (hB:∀ g',HX h2 g' → OwnL encI h2.next g' w5 3 ((S.take (j + 1)).foldl (fillS z F.length (fillV L)) L) → OwnL encB h2.next g' w6 4 ((S.take (j + 1)).foldl (fillS z F.length fun _ _ => true) K) → ∀ a,Kn [(1,zi z),(2,ptr h.next),(4,ptr h1.next),(5,w5),(6,w6),(7,zi (j:Nat))] a → B a g'),∀ a,Kn [(1,zi z),(2,ptr h.next),(4,ptr h1.next),(5,w5),(6,w6),(7,zi (j:Nat)),(8,ptr hh.next),(9,zi ((hi - lo:Nat):Int))] a → W Tryz.prog tp false (.seq (.reg r48_7) (.seq (.reg r48_8) (.block 2 (.loop (.seq (.seq (.reg r48_9) (.cond (.tmp 63) .skip (.exit 2))) (.seq (.block 3 (.seq (.reg r48_10) (.reg r48_11))) (.reg r48_12))))))) a g (leaves 1 (andThen B Q)):=by
      intro e l0 lF B Q hB
      rw [on e,on e] at hB
      have hx1:L[lo - 1]? = some (L.getD (lo - 1) 0):=by rw [List.getD_eq_getElem?_getD,List.getElem?_eq_getElem (by omega)]; rfl
      have hx2:L[hi]? = some (L.getD hi 0):=by rw [List.getD_eq_getElem?_getD,List.getElem?_eq_getElem (by omega)]; rfl
      have la:=getD_lim liml (lo - 1)
      have lb:=getD_lim liml hi
      have t2:fillV L ((lo:Int),(hi:Int)) = fun i => fillG (L.getD (lo - 1) 0) (L.getD hi 0) (hi - lo) i:=by
        funext i
        show fillG (L.getD ((lo:Int) - 1).toNat 0) (L.getD ((hi:Int)).toNat 0) ((hi:Int) - lo).toNat i = _
        rw [show ((hi:Int) - lo).toNat = hi - lo by omega,show ((lo:Int) - 1).toNat = lo - 1 by omega,Int.toNat_natCast]
      rw [t2] at hB
      rw [← hout (lo - 1) (by show (lo:Int) ≤ _; omega)] at hx1
      rw [← hout hi (by show (lo:Int) ≤ _; omega)] at hx2
      generalize L.getD (lo - 1) 0 = x at *
      generalize L.getD hi 0 = y at *
      generalize hw:hi - lo = w at *
      generalize hZZ:(S.take j).foldl (fillS z F.length (fillV L)) L = Z at *
      generalize hYY:((S.take j).foldl (fillS z F.length fun _ _ => true) K) = Y at *
      obtain ⟨ba,oa,ca,fa,wa,la',p1,p2,p3,p4,p5⟩:=(R5.sl eI).at eI u29 tp3 hx1 .i64
      obtain ⟨bb,ob,cb,fb,wb,lb',q1,q2,q3,q4,q5⟩:=(R5.sl eI).at eI u29 tp3 hx2 .i64
      refine WL.sr <| WOL.mv rfl <| WOL.fa rfl (fa_of fo48_0) ?_
      refine WOL.ld rfl (load_one tp3 G rfl) ?_
      refine WOL.bi (v:=zi ((lo - 1:Nat):Int)) rfl rfl (by show some (Value.int .i64 (fwrap .i64 ((lo:Int) - 1))) = _; rw [fwrap_i64 (by omega) (by omega)]; congr 2; omega) ?_
      refine WOL.ix rfl rfl p1 ?_
      refine WOL.ld rfl (load_one tp3 p2 (p5 0 (by decide))) ?_
      refine WOL.mv rfl <| WOL.fa rfl (fa_of fo48_1) ?_
      refine WOL.ld rfl (load_one tp3 G rfl) ?_
      refine WOL.ix rfl rfl q1 ?_
      refine WOL.ld rfl (load_one tp3 q2 (q5 0 (by decide))) ?_
      refine WOL.as rfl <| WOL.as rfl <| WOL.nil <| keep [(1,_),(2,_),(4,_),(5,_),(6,_),(7,_),(8,_),(9,_),(10,_),(11,_)] ⟨rfl,rfl,rfl,rfl,rfl,rfl,rfl,rfl,rfl,rfl,trivial⟩ ?_
      refine WL.sr <| WOL.as rfl <| WOL.nil <| keep [(1,_),(2,_),(4,_),(5,_),(6,_),(7,_),(8,_),(9,_),(10,_),(11,_),(12,_)] ⟨rfl,rfl,rfl,rfl,rfl,rfl,rfl,rfl,rfl,rfl,rfl,trivial⟩ ?_
      refine WL.block ?_
      refine WL.loop (fun q a g' => ∃ i:Nat,i ≤ w ∧ q = w - i ∧ HX h2 g' ∧ At g' hh.next (.cells [.int .i64 (lo:Nat),.int .i64 (hi:Nat)] true true 48) ∧ OwnL encI h2.next g' w5 3 (setN Z lo (fun i => fillG x y w i) i) ∧ OwnL encB h2.next g' w6 4 (setN Y lo (fun _ => true) i) ∧ Kn [(1,zi z),(2,ptr h.next),(4,ptr h1.next),(5,w5),(6,w6),(7,zi (j:Nat)),(8,ptr hh.next),(9,zi (w:Nat)),(10,zi x),(11,zi y),(12,zi (i:Nat))] a) w (fun a q => ⟨0,by omega,by omega,Xg,G,R5,R6,q.sub ⟨rfl,rfl,rfl,rfl,rfl,rfl,rfl,rfl,rfl,rfl,rfl,trivial⟩⟩) ?_
      rintro q a g' ⟨i,hi',rfl,X',G',T5,T6,q⟩
      refine q.go ?_
      have Y':=X2.trans X'
      refine WL.seq ?_
      refine WL.sr <| WOL.mv rfl <| WOL.mv rfl ?_
      refine WOL.bi (v:=.bool (decide ((i:Int) < w))) rfl rfl rfl ?_
      refine WOL.nil <| keep [(1,_),(2,_),(4,_),(5,_),(6,_),(7,_),(8,_),(9,_),(10,_),(11,_),(12,_),(63,_)] ⟨rfl,rfl,rfl,rfl,rfl,rfl,rfl,rfl,rfl,rfl,rfl,rfl,trivial⟩ ?_
      by_cases hiw:i < w
      · rw [show decide ((i:Int) < (w:Int)) = true by simpa using hiw]
        refine WL.yes rfl <| WL.skip ?_
        obtain ⟨b1,b2⟩:=fillG_in la lb (by omega) hiw
        have sZ:=setN_len (l:=Z) (p:=lo) (g:=fun i => fillG x y w i) i
        have sY:=setN_len (l:=Y) (p:=lo) (g:=fun _ => true) i
        refine WL.seq ?_
        refine WL.block ?_
        refine WL.sr <| WOL.mv rfl <| WOL.fa rfl (fa_of fo48_0) ?_
        refine WOL.ld rfl (load_one tp3 G' rfl) ?_
        refine WOL.mv rfl ?_
        refine WOL.bi (v:=zi ((lo + i:Nat):Int)) rfl rfl (by show some (Value.int .i64 (fwrap .i64 ((lo:Int) + i))) = _; rw [fwrap_i64 (by omega) (by omega)]; rfl) ?_
        refine WOL.mv rfl <| WOL.mv rfl ?_
        refine WOL.add rfl rfl (by omega) (by omega) ?_
        refine WOL.mul rfl rfl (by omega) (by omega) ?_
        refine WOL.mv rfl <| WOL.mv rfl ?_
        refine WOL.sub rfl rfl (by omega) (by omega) ?_
        refine WOL.mv rfl ?_
        refine WOL.add rfl rfl (by omega) (by omega) ?_
        refine WOL.mul rfl rfl (by omega) (by omega) ?_
        refine WOL.add rfl rfl (by omega) (by omega) ?_
        refine WOL.mv rfl ?_
        refine WOL.add rfl rfl (by omega) (by omega) ?_
        refine WOL.lk2 rfl rfl rfl fun M => ((k106 H (a:=x * ((w:Int) + 1) + (y - x) * ((i:Int) + 1)) (b:=(w:Int) + 1) (by omega) (by omega) (by omega)).mono ?_)
        rintro v h6 ⟨rfl,rfl⟩
        have X6:HX g' ((g'.withLock M).withLock g'.lock):=(HX.refl _).relock
        generalize (g'.withLock M).withLock g'.lock = g6 at *
        have Xk:=X'.trans X6
        have Yk:=X2.trans Xk
        have T5':=T5.hx X6
        have T6':=T6.hx X6
        have G6:=G'.hx X6
        obtain ⟨b5,rfl,o5,a5⟩:=own_block T5' (by omega)
        obtain ⟨b6,rfl,o6,a6⟩:=own_block T6' (by omega)
        have n56:b5 ≠ b6:=fun e => own_ne T5' T6' (by decide) b5 rfl (by rw [e]; rfl)
        have l5:=u5 b5 rfl
        have l6:=u6 b6 rfl
        have ix5:indexAddrT Tryz.prog 29 (.slice (some ⟨b5,0,none⟩) (setN Z lo (fun i => fillG x y w i) i).length (setN Z lo (fun i => fillG x y w i) i).length) (.int .i64 ((lo + i:Nat):Int)) = some (.pointer (some ⟨b5,0 + (lo + i) * 1,none⟩)):=indexAddr_tp u29 tp3 (by omega)
        have ix6:indexAddrT Tryz.prog 172 (.slice (some ⟨b6,0,none⟩) (setN Y lo (fun _ => true) i).length (setN Y lo (fun _ => true) i).length) (.int .i64 ((lo + i:Nat):Int)) = some (.pointer (some ⟨b6,0 + (lo + i) * 1,none⟩)):=indexAddr_tp u145 tp4 (by omega)
        refine WOL.ix rfl rfl ix5 ?_
        refine WOL.sto rfl rfl tp3 a5 rfl rfl (by rw [eI.cat_len]; omega) rfl (f.hx Yk) (by omega) fun g7 P7 => ?_
        have X7:HX h2 g7:=P7.hx _ Xk o5
        have Y7:=X2.trans X7
        have a5':=P7.at_
        rw [show (Value.int .i64 (rnd (x * ((w:Int) + 1) + (y - x) * ((i:Int) + 1)) ((w:Int) + 1))).cells.toList = encI (fillG x y w i) from rfl,splice1 eI (by omega)] at a5'
        have T5a:OwnL encI h2.next g7 (.slice (some ⟨b5,0,none⟩) (setN Z lo (fun i => fillG x y w i) i).length (setN Z lo (fun i => fillG x y w i) i).length) 3 (setN Z lo (fun i => fillG x y w i) (i + 1)):=own_of (by rw [setN_len,setN_len]) o5 a5' (by omega)
        have G7:=P7.oth _ _ (by omega) G6
        have a6':=P7.oth _ _ (Ne.symm n56) a6
        refine WOL.nil <| keep [(1,_),(2,_),(4,_),(5,_),(6,_),(7,_),(8,_),(9,_),(10,_),(11,_),(12,_)] ⟨rfl,rfl,rfl,rfl,rfl,rfl,rfl,rfl,rfl,rfl,rfl,trivial⟩ ?_
        refine WL.reg <| WOL.mv rfl <| WOL.fa rfl (fa_of fo48_0) ?_
        refine WOL.ld rfl (load_one tp3 G7 rfl) ?_
        refine WOL.mv rfl ?_
        refine WOL.bi (v:=zi ((lo + i:Nat):Int)) rfl rfl (by show some (Value.int .i64 (fwrap .i64 ((lo:Int) + i))) = _; rw [fwrap_i64 (by omega) (by omega)]; rfl) ?_
        refine WOL.ix rfl rfl ix6 ?_
        refine WOL.sto rfl rfl tp4 a6' rfl rfl (by rw [eB.cat_len]; omega) rfl (f.hx Y7) (by omega) fun g8 P8 => ?_
        have X8:HX h2 g8:=P8.hx _ X7 o6
        have a6'':=P8.at_
        rw [show (Value.bool true).cells.toList = encB true from rfl,splice1 eB (by omega)] at a6''
        have T6a:OwnL encB h2.next g8 (.slice (some ⟨b6,0,none⟩) (setN Y lo (fun _ => true) i).length (setN Y lo (fun _ => true) i).length) 4 (setN Y lo (fun _ => true) (i + 1)):=own_of (by rw [setN_len,setN_len]) o6 a6'' (by omega)
        have T5b:=own_put T5a P8 (fun e => n56 (by cases e; rfl))
        have G8:=P8.oth _ _ (by omega) G7
        refine WOL.nil <| keep [(1,_),(2,_),(4,_),(5,_),(6,_),(7,_),(8,_),(9,_),(10,_),(11,_),(12,_)] ⟨rfl,rfl,rfl,rfl,rfl,rfl,rfl,rfl,rfl,rfl,rfl,trivial⟩ ?_
        refine WL.reg <| WOL.mv rfl ?_
        refine WOL.bi (v:=zi ((i + 1:Nat):Int)) rfl rfl (by show some (Value.int .i64 (fwrap .i64 ((i:Int) + 1))) = _; rw [fwrap_i64 (by omega) (by omega)]; rfl) ?_
        refine WOL.as rfl <| WOL.nil ?_
        exact fun a q => ⟨w - (i + 1),by omega,i + 1,by omega,rfl,X8,G8,T5b,T6a,q.sub ⟨rfl,rfl,rfl,rfl,rfl,rfl,rfl,rfl,rfl,rfl,rfl,trivial⟩⟩
      · rw [show decide ((i:Int) < (w:Int)) = false by simpa using hiw]
        refine WL.no rfl <| WL.exit ?_
        obtain rfl:i = w:=by omega
        exact kto (hB g' X' T5 T6) ⟨rfl,rfl,rfl,rfl,rfl,rfl,trivial⟩
    by_cases c1:((hi - lo:Nat):Int) > z
    · rw [decide_eq_true c1]
      refine WOL.mv rfl <| WOL.skp (b:=true) rfl rfl <| WOL.skp (b:=true) rfl rfl <| WOL.skp (b:=true) rfl rfl <| WOL.pkt rfl rfl ?_
      refine WOL.mv rfl <| WOL.skp (b:=true) rfl rfl <| WOL.skp (b:=true) rfl rfl <| WOL.skp (b:=true) rfl rfl <| WOL.skp (b:=true) rfl rfl <| WOL.skp (b:=true) rfl rfl <| WOL.pkt rfl rfl <| WOL.nil ?_
      exact kto (skip (by rw [hon,decide_eq_false (by omega)]; rfl) _ fin) ⟨rfl,rfl,rfl,rfl,rfl,rfl,rfl,trivial⟩
    · rw [decide_eq_false c1]
      rw [decide_eq_true (by omega:(hi:Int) - lo ≤ z)] at hon
      refine WOL.mv rfl <| WOL.now (b:=false) rfl rfl <| WOL.fa rfl (fa_of fo48_0) <| WOL.now (b:=false) rfl rfl ?_
      refine WOL.ld rfl (load_one tp3 G rfl) ?_
      refine WOL.now (b:=false) rfl rfl ?_
      refine WOL.bi rfl rfl ezero ?_
      refine WOL.pkf rfl rfl ?_
      by_cases c2:lo = 0
      · rw [show ((lo:Int) == 0) = true by simpa using c2]
        rw [decide_eq_false (by omega:¬ (lo:Int) > 0)] at hon
        refine WOL.mv rfl <| WOL.skp (b:=true) rfl rfl <| WOL.skp (b:=true) rfl rfl <| WOL.skp (b:=true) rfl rfl <| WOL.skp (b:=true) rfl rfl <| WOL.skp (b:=true) rfl rfl <| WOL.pkt rfl rfl <| WOL.nil ?_
        exact kto (skip (by rw [hon]; rfl) _ fin) ⟨rfl,rfl,rfl,rfl,rfl,rfl,rfl,trivial⟩
      · rw [show ((lo:Int) == 0) = false by simp; omega]
        rw [decide_eq_true (by omega:(lo:Int) > 0)] at hon
        refine WOL.mv rfl <| WOL.now (b:=false) rfl rfl <| WOL.fa rfl (fa_of fo48_1) <| WOL.now (b:=false) rfl rfl ?_
        refine WOL.ld rfl (load_one tp3 G rfl) ?_
        refine WOL.now (b:=false) rfl rfl <| WOL.mv rfl <| WOL.now (b:=false) rfl rfl ?_
        refine WOL.len rfl (R5.sl eI) u29 ?_
        rw [hZl,← ll]
        refine WOL.now (b:=false) rfl rfl ?_
        refine WOL.bi (v:=.bool (decide ((hi:Int) = F.length))) rfl rfl (by show some (Value.bool ((hi:Int) == (F.length:Int))) = _; congr 2) ?_
        refine WOL.pkf rfl rfl <| WOL.nil ?_
        by_cases c3:hi = F.length
        · rw [decide_eq_true (by omega:(hi:Int) = F.length)]
          rw [decide_eq_false (by omega:¬ (hi:Int) < F.length)] at hon
          exact kto (skip hon _ fin) ⟨rfl,rfl,rfl,rfl,rfl,rfl,rfl,trivial⟩
        · rw [decide_eq_false (by omega:¬ (hi:Int) = F.length)]
          rw [decide_eq_true (by omega:(hi:Int) < F.length)] at hon
          refine WL.no rfl <| WL.skip ?_
          exact kto (rest hon (by omega) (by omega) fin) ⟨rfl,rfl,rfl,rfl,rfl,rfl,rfl,rfl,trivial⟩
  · rw [show decide ((j:Int) < (S.length:Int)) = false by simpa using hlt]
    refine WL.no rfl <| WL.exit ?_
    obtain rfl:j = S.length:=by omega
    rw [List.take_length] at P5 P6
    have hZl:=fills_len (z:=z) (m:=F.length) (g:=fillV L) (S:=S) (D:=L)
    have hYl:=fills_len (z:=z) (m:=F.length) (g:=fun _ _ => true) (S:=S) (D:=K)
    have D2:=A2.hx Xh
    refine WL.sr <| WOL.fa rfl (fa_of fo46_0) ?_
    refine WOL.ld rfl (load_one tp9 D2 rfl) ?_
    refine WOL.fa rfl (fa_of fo46_1) ?_
    refine WOL.ld rfl (load_one tp3 D2 rfl) ?_
    refine WOL.mv rfl <| WOL.mv rfl ?_
    refine WOL.cl4 rfl rfl rfl rfl rfl ((k97 H (s:=s) (n:=n) (P5.sl eI) (P6.sl eB) (by rw [hZl,hYl,kl]) (fillsV_lim liml liml) (by rw [hZl]; omega) (f.on Yh)).mono ?_)
    rintro v h9 ⟨q1,q2,rfl,X9,O9⟩
    have Y9:=Yh.trans X9
    obtain ⟨bo1,k1,rfl⟩:=O9.r.f.form
    obtain ⟨bo2,k2,rfl⟩:=O9.r.s.form
    have yh:=Yh.next
    refine WOL.sto rfl rfl tp46 ((A4.hx Xh).hx X9) rfl rfl (Nat.le_of_ble_eq_true rfl) rfl (f.hx Y9) (by omega) fun h10 P10 => ?_
    refine WOL.nil ?_
    exact WL.ret (WL.endC rfl (load_row tp46 P10.at_ rfl (Nat.le_of_ble_eq_true rfl)) ⟨_,_,rfl,P10.hx _ Y9 (by omega),(O9.away P10 (by omega)).le (by omega)⟩)
end Go.Tidy
namespace Go.Tidy
open Go Go.Proofs Tab
variable {tp:TProg}
theorem Val.hx {s:ByteArray} {n:Int} {v1 v2:Value} {F:List Nat} {S:List (Int × Int)} {es L:List Int} {p1 p2:Int} {h hm g g':TH} {c3 c5 c12 c14 c18 c28 c29 c30:Nat} {sx:ByteArray} {nx:Int} {x1 x2:Value} {sy:ByteArray} {ny:Int} {y1 y2:Value} {ec ma mb:Int} {n1:Nat} {w1 w2:Value}
  (M:Val s n v1 v2 F S es L p1 p2 h hm g c3 c5 c12 c14 c18 c28 c29 c30 sx nx x1 x2 sy ny y1 y2 ec ma mb n1 w1 w2) (x:HX g g'):Val s n v1 v2 F S es L p1 p2 h hm g' c3 c5 c12 c14 c18 c28 c29 c30 sx nx x1 x2 sy ny y1 y2 ec ma mb n1 w1 w2 :=
 { M with x1_:=M.x1_.trans x,b28:=M.b28.hx x,b29:=M.b29.hx x,ro:=M.ro.hx x,b30:=M.b30.hx x }
end Go.Tidy
namespace Go.Tidy
open Go Go.Proofs Tab
variable {tp:TProg}
theorem short_small {s:ByteArray} {m k:Nat} (h:shortB s m k = true):m ≤ 4097 ∧ k ≤ 12:=by
 simp only [shortB,Bool.and_eq_true,Bool.or_eq_true,decide_eq_true_eq,beq_iff_eq] at h
 omega
end Go.Tidy
namespace Go.Tidy
open Go Go.Proofs Tab
variable {tp:TProg}
theorem JoinR.out {h h':TH} {v:Value} {s:ByteArray} {n:Int} {Z:List Int} {Y:List Bool} {e:Int} (r:JoinR h h' v s n Z Y e):∃ sz nz bo1 l1 k1 bo2 l2 k2,v = .tuple #[runV sz nz (.slice bo1 l1 k1) (.slice bo2 l2 k2),.int .i64 e] ∧ HX h h' ∧ (e ≠ 0 → (Value.slice bo1 l1 k1 = .slice none 0 0 ∧ Value.slice bo2 l2 k2 = .slice none 0 0)) ∧ (e = 0 → (sz = s ∧ nz = n) ∧ RunO h.next h' (.slice bo1 l1 k1) (.slice bo2 l2 k2) (madeF Z Y) (holesOf Y)):=by
 obtain ⟨X,⟨he,rfl⟩ | ⟨rfl,w1,w2,rfl,O⟩⟩:=r
 ·exact ⟨_,_,_,_,_,_,_,_,rfl,X,fun _ => ⟨rfl,rfl⟩,fun h => absurd h he⟩
 ·obtain ⟨bo1,k1,rfl⟩:=O.r.f.form
  obtain ⟨bo2,k2,rfl⟩:=O.r.s.form
  exact ⟨_,_,_,_,_,_,_,_,rfl,X,fun h => absurd rfl h,fun _ => ⟨⟨rfl,rfl⟩,O⟩⟩
theorem SumR.out {h h':TH} {v:Value} {s:ByteArray} {n:Int} {Z:List Int} {Y:List Bool} {sh:Bool} (hY:sh = true → Y.length = Z.length) (r:SumR h h' v s n Z Y sh):JoinR h h' v s n Z Y (cond (!sh) 2 (cond (allOk (cellsK Z Y)) 0 4)):=by
 obtain ⟨X,⟨rfl,rfl⟩ | ⟨rfl,no,rfl⟩ | ⟨rfl,ok,w1,w2,rfl,O⟩⟩:=r
 ·exact ⟨X,.inl ⟨by simp,rfl⟩⟩
 ·have:allOk (cellsK Z Y) = false:=by
   cases hb:allOk (cellsK Z Y) with
   | false => rfl
   | true => exact absurd ((ok_cells (hY rfl)).1 hb) no
  rw [this]
  exact ⟨X,.inl ⟨by decide,rfl⟩⟩
 ·rw [(ok_cells (hY rfl)).2 ok]
  exact ⟨X,.inr ⟨rfl,w1,w2,rfl,O⟩⟩
end Go.Tidy
namespace Go.Tidy
open Go Go.Proofs Tab
variable {tp:TProg}
section
variable {P:Program} {a:Regs} {h:TH} {K:Regs → TH → Prop} {rest:List TOper} {d:Option Tmp} {ty:TypeId} {i:Nat} {f x0 x1 x2 l0:Operand} {ls:List Operand} {fv v0 v1 v2:Value} {ts:Array TypeId}
theorem WO.lq3 (bs:List Nat) (hb:(l0 :: ls).map (fun x => (getO a x).bind blockOf) = bs.map some) (hf:getO a f = some fv) (h0:getO a x0 = some v0) (h1:getO a x1 = some v1) (h2:getO a x2 = some v2) (w:∀ L,(∀ l,l ∈ L → l ∈ bs ∨ l ∈ h.lock) → CallW P tp fv #[v0,v1,v2] (h.withLock L) fun v h1 => WO P tp rest (a.put d v) (h1.withLock h.lock) K):WO P tp (⟨d,.call ⟨.value f,#[x0,x1,x2],ts⟩,ty,none,l0 :: ls,i⟩ :: rest) a h K :=
 WO.cons_lock rfl rfl (StepW.call (by rw [getO_eval hf]; simpa [getO_eval h0,getO_eval h1,getO_eval h2] using w _ (lockOf_bs _ a bs h.lock hb)))
theorem WOL.lq3 {L:Rg} (bs:List Nat) (hb:(l0 :: ls).map (fun x => (getL L x).bind blockOf) = bs.map some) (hf:getL L f = some fv) (h0:getL L x0 = some v0) (h1:getL L x1 = some v1) (h2:getL L x2 = some v2) (w:∀ M,(∀ l,l ∈ M → l ∈ bs ∨ l ∈ h.lock) → CallW P tp fv #[v0,v1,v2] (h.withLock M) fun v h1 => ∀ a,Kn (putL L d v) a → WO P tp rest a (h1.withLock h.lock) K):∀ a,Kn L a → WO P tp (⟨d,.call ⟨.value f,#[x0,x1,x2],ts⟩,ty,none,l0 :: ls,i⟩ :: rest) a h K :=
 fun _ k => WO.lq3 bs (locks_o k hb) (k.o hf) (k.o h0) (k.o h1) (k.o h2) fun M hM => (w M hM).mono fun _ _ q => k.nx q
end
theorem ixA0 {c:Nat}:indexAddrT Tryz.prog 22 (.pointer (some ⟨c,0,none⟩)) (.int .i64 0) = some (.pointer (some ⟨c,0,none⟩)):=by kernel_rfl
theorem ixA1 {c:Nat}:indexAddrT Tryz.prog 22 (.pointer (some ⟨c,0,none⟩)) (.int .i64 1) = some (.pointer (some ⟨c,1,none⟩)):=by kernel_rfl
def RefS (B:Nat) (g:TH) (c:Nat) (s:ByteArray) (n:Int) (C:List (Int × Bool)) (e:Int):Prop :=
  ∃ sz nz w1 w2,At g c (.cells (runV sz nz w1 w2).cells.toList true true 46) ∧ (e ≠ 0 → w1 = .slice none 0 0 ∧ w2 = .slice none 0 0) ∧
    (e = 0 → (sz = s ∧ nz = n) ∧ RunO B g w1 w2 (C.map fun c => smp c.1) (holesOf (C.map fun c => c.2)) ∧ Lev (C.map fun c => smp c.1) (C.map fun c => c.1) ∧ C.length ≤ 4096)
section
variable {B c c':Nat} {g g':TH} {s:ByteArray} {n:Int} {C:List (Int × Bool)} {e:Int}
theorem RefS.hx (q:RefS B g c s n C e) (x:HX g g'):RefS B g' c s n C e:=by
 obtain ⟨sz,nz,w1,w2,a,q1,q2⟩:=q
 exact ⟨sz,nz,w1,w2,a.hx x,q1,fun h => ⟨(q2 h).1,(q2 h).2.1.hx x,(q2 h).2.2⟩⟩
theorem RefS.away {x:TB} (q:RefS B g c s n C e) (p:Put g g' c' x) (h1:c' ≠ c) (h2:c' < B):RefS B g' c s n C e:=by
 obtain ⟨sz,nz,w1,w2,a,q1,q2⟩:=q
 exact ⟨sz,nz,w1,w2,p.oth _ _ (Ne.symm h1) a,q1,fun h => ⟨(q2 h).1,(q2 h).2.1.away p h2,(q2 h).2.2⟩⟩
end
theorem k5z (H:Has tp) (A:Awk tp) {g:TH} {B n1 n2 n3 c7 c9 c11 c17 c18 c19:Nat} {e1 e2 e3:Int} (f:Free0 g.next g) {sx:ByteArray} {nx:Int} {x1 x2:Value} {sy:ByteArray} {ny:Int} {y1 y2:Value} {su:ByteArray} {nu:Int} {u1 u2:Value}
  {s1:ByteArray} {p1:Int} {C1:List (Int × Bool)} {s2:ByteArray} {p2:Int} {C2:List (Int × Bool)} {s3:ByteArray} {p3:Int} {C3:List (Int × Bool)}
  (B7:At g c7 (.cells (runV sx nx x1 x2).cells.toList true true 52)) (B9:At g c9 (.cells (runV sy ny y1 y2).cells.toList true true 52)) (B11:At g c11 (.cells (runV su nu u1 u2).cells.toList true true 52))
  (r1:RX n1 g sx nx x1 x2 s1 p1 C1 e1) (r2:RX n2 g sy ny y1 y2 s2 p2 C2 e2) (r3:RX n3 g su nu u1 u2 s3 p3 C3 e3)
  (q1:RefS B g c17 s1 p1 C1 e1) (q2:RefS B g c18 s2 p2 C2 e2) (q3:RefS B g c19 s3 p3 C3 e3) :
  ∀ a,Kn [(7,ptr c7),(8,zi e1),(9,ptr c9),(10,zi e2),(11,ptr c11),(12,zi e3),(14,zi e1),(15,zi e2),(16,zi e3),(17,ptr c17),(18,ptr c18),(19,ptr c19)] a → W Tryz.prog tp false (.seq (.reg r5_16) .ret) a g (Fin Tryz.prog [.tmp 6] fun v _ => v = .bool true):=by
 obtain ⟨sa,na,a1,a2,D17,qa,qb⟩:=q1
 obtain ⟨sb,nb,b1,b2,D18,qc,qd⟩:=q2
 obtain ⟨sc,nc,d1,d2,D19,qe,qf⟩:=q3
 refine WL.sr <| WOL.ld rfl (load_row tp52 B7 rfl (Nat.le_of_ble_eq_true rfl)) <| WOL.mv rfl <| WOL.mv rfl <| WOL.ld rfl (load_row tp46 D17 rfl (Nat.le_of_ble_eq_true rfl)) ?_
 refine WOL.cl4 rfl rfl rfl rfl rfl ((same_is H (g:=g) f r1 (HX.refl _) (HX.refl _) (fun e => ⟨(qb e).2.1,rfl,rfl,(qb e).2.2⟩) qa (fun e => (qb e).1)).mono ?_)
 rintro v g1 ⟨rfl,X1⟩
 refine WOL.mv rfl <| WOL.now (b:=true) rfl rfl <| WOL.ld rfl (load_row tp52 (B9.hx X1) rfl (Nat.le_of_ble_eq_true rfl)) ?_
 refine WOL.now (b:=true) rfl rfl <| WOL.mv rfl <| WOL.now (b:=true) rfl rfl <| WOL.mv rfl <| WOL.now (b:=true) rfl rfl <| WOL.ld rfl (load_row tp46 (D18.hx X1) rfl (Nat.le_of_ble_eq_true rfl)) <| WOL.now (b:=true) rfl rfl ?_
 refine WOL.cl4 rfl rfl rfl rfl rfl ((same_is H (g:=g) (f.on X1) r2 X1 X1 (fun e => ⟨(qd e).2.1,rfl,rfl,(qd e).2.2⟩) qc (fun e => (qd e).1)).mono ?_)
 rintro v g2 ⟨rfl,X2⟩
 have Y2:=X1.trans X2
 refine WOL.pkt rfl rfl <| WOL.mv rfl <| WOL.now (b:=true) rfl rfl <| WOL.ld rfl (load_row tp52 (B11.hx Y2) rfl (Nat.le_of_ble_eq_true rfl)) ?_
 refine WOL.now (b:=true) rfl rfl <| WOL.mv rfl <| WOL.now (b:=true) rfl rfl <| WOL.mv rfl <| WOL.now (b:=true) rfl rfl <| WOL.ld rfl (load_row tp46 (D19.hx Y2) rfl (Nat.le_of_ble_eq_true rfl)) <| WOL.now (b:=true) rfl rfl ?_
 refine WOL.cl4 rfl rfl rfl rfl rfl ((same_is H (g:=g) (f.on Y2) r3 Y2 Y2 (fun e => ⟨(qf e).2.1,rfl,rfl,(qf e).2.2⟩) qe (fun e => (qf e).1)).mono ?_)
 rintro v g3 ⟨rfl,X3⟩
 refine WOL.pkt rfl rfl <| WOL.mv rfl <| WOL.now (b:=true) rfl rfl ?_
 refine WOL.cl0 rfl ((k11 A g3).mono ?_)
 rintro v g4 ⟨rfl,rfl⟩
 refine WOL.pkt rfl rfl <| WOL.as rfl <| WOL.nil <| keep [(6,_)] ⟨rfl,trivial⟩ ?_
 exact WL.done rfl rfl
def r5w:TCode:=(.seq (.seq (.reg r5_14) (.cond (.tmp 94) (.reg r5_15) .skip)) (.seq (.reg r5_16) .ret))
def r5v:TCode:=(.seq (.seq (.reg r5_12) (.cond (.tmp 85) (.reg r5_13) .skip)) r5w)
def r5u:TCode:=(.seq (.seq (.reg r5_10) (.cond (.tmp 74) (.reg r5_11) .skip)) r5v)
def r5t:TCode:=(.seq (.reg r5_6) (.seq (.reg r5_7) (.seq (.reg r5_8) (.seq (.reg r5_9) r5u))))
def r5s:TCode:=(.seq (.reg r5_3) (.seq (.reg r5_4) (.seq (.reg r5_5) r5t)))
theorem c5_eq:c5 = .seq (.reg r5_0) (.seq (.seq (.reg r5_1) (.cond (.tmp 22) (.seq (.reg r5_2) .ret) .skip)) r5s):=rfl
def errA (E m d:Int) (C:List (Int × Bool)):Int:=scErr (firstNZ [E,outB m (-1000) 1000,outB d 1 1000]) (scC m d C)
def errB (E n k:Int):Int:=thErr (firstNZ [E,outB k 1 64]) n k
def errC (E z:Int):Int:=firstNZ [E,outB z 0 4096]
set_option maxHeartbeats 2000000 in
set_option maxRecDepth 100000 in
theorem k5p (H:Has tp) (X:HasX tp) {s:ByteArray} {n m d k z:Int} {v1 v2:Value} {F:List Nat} {S:List (Int × Int)} {es L:List Int} {h:TH} {c3 c4 c5':Nat} {Q:Exit → Regs → TH → Prop} (r:RunH h v1 v2 F S) (hE:SErr F es) (hL:firstNZ es = 0 → Lev F L)
  (hF:F.length ≤ 900000) (hS:S.length ≤ 900000) (f:Free0 h.next h) (A3:At h c3 (.cells (runV s n v1 v2).cells.toList true true 46)) (A4:At h c4 (.cells [zi m,zi d] true true 22)) (A5:At h c5' (.cells [zi k,zi z] true true 22))
  (K:∀ g,HX h g → ∀ c7 c9 c11 n1 n2 n3 sx nx x1 x2 sy ny y1 y2 su nu u1 u2,At g c7 (.cells (runV sx nx x1 x2).cells.toList true true 52) → At g c9 (.cells (runV sy ny y1 y2).cells.toList true true 52) → At g c11 (.cells (runV su nu u1 u2).cells.toList true true 52) →
   RX n1 g sx nx x1 x2 s n (scC m d (cellsL L S)) (errA (runE s n F.length S es L) m d (cellsL L S)) → RX n2 g sy ny y1 y2 s (n / k) (thin k.toNat (cellsL L S)) (errB (runE s n F.length S es L) n k) → RX n3 g su nu u1 u2 s n (S.foldl (fillS z F.length (fillC L)) (cellsL L S)) (errC (runE s n F.length S es L) z) →
   ∀ a,Kn [(3,ptr c3),(4,ptr c4),(5,ptr c5'),(7,ptr c7),(8,zi (errA (runE s n F.length S es L) m d (cellsL L S))),(9,ptr c9),(10,zi (errB (runE s n F.length S es L) n k)),(11,ptr c11),(12,zi (errC (runE s n F.length S es L) z))] a → W Tryz.prog tp false r5t a g Q) :
  ∀ a,Kn [(3,ptr c3),(4,ptr c4),(5,ptr c5')] a → W Tryz.prog tp false r5s a h Q:=by
 obtain ⟨bv1,kv1,rfl⟩:=r.f.form
 obtain ⟨bv2,kv2,rfl⟩:=r.s.form
 have lt3:=A3.lt
 have lt4:=A4.lt
 have lt5:=A5.lt
 -- Scaled
 refine WL.sr ?_
 refine WOL.ld rfl (load_row tp46 A3 rfl (Nat.le_of_ble_eq_true rfl)) ?_
 refine WOL.ix rfl rfl ixA0 <| WOL.ld rfl (load_one tp3 A4 rfl) ?_
 refine WOL.ix rfl rfl ixA1 <| WOL.ld rfl (load_one tp3 A4 rfl) ?_
 refine WOL.al tp52 fun h1 N1 => ?_
 have n1:=N1.next
 have Y1:=N1.hx
 refine WOL.lq1 [h.next,c4,c4] rfl rfl rfl fun M hM => ((k25 H (s:=s) (n:=n) ((r.hx Y1).relock' M) (by omega) (by omega) ((f.on Y1).held hM (fun b hb => by simp at hb; omega))).mono ?_)
 rintro v h2 ⟨p1,p2,rfl,X2,O2⟩
 replace O2:=O2.relock' h1.lock
 replace X2:=X2.relock
 generalize h2.withLock h1.lock = h2 at *
 have Y2:=Y1.trans X2
 have y2:=X2.next
 refine WOL.lq3 [h.next] rfl rfl rfl rfl rfl fun M hM => ((k43 H X (s:=s) (n:=n) (m:=m) (d:=d) (O2.r.relock' M) hE hL hF hS ((f.on Y2).held hM (fun b hb => by simp at hb; omega))).mono ?_)
 rintro v h3 RR
 obtain ⟨sx,nx,bo1,l1,k1,bo2,l2,k2,rfl,X3,R3⟩:=RR.out
 clear RR O2
 replace R3:=R3.relock h2.lock
 replace X3:=X3.relock
 generalize h3.withLock h2.lock = h3 at *
 have Y3:=Y2.trans X3
 refine WOL.mv rfl <| WOL.ex rfl rfl <| WOL.ex rfl rfl ?_
 refine WOL.sto rfl rfl tp52 ((N1.at_.hx X2).hx X3) rfl rfl (Nat.le_of_ble_eq_true rfl) rfl (f.hx Y3) (Nat.le_refl _) fun h4 P4 => ?_
 refine WOL.as rfl <| WOL.nil <| keep [(3,_),(4,_),(5,_),(7,_),(8,_)] ⟨rfl,rfl,rfl,rfl,rfl,trivial⟩ ?_
 have Y4:HX h h4:=P4.hx _ Y3 (Nat.le_refl _)
 have R4:=R3.away P4 (show h.next < h2.next by omega)
 have B7:=P4.at_
 have y4:=Y4.next
 clear R3
 -- Thinned
 refine WL.sr ?_
 refine WOL.ld rfl (load_row tp46 (A3.hx Y4) rfl (Nat.le_of_ble_eq_true rfl)) ?_
 refine WOL.ix rfl rfl ixA0 <| WOL.ld rfl (load_one tp3 (A5.hx Y4) rfl) ?_
 refine WOL.al tp52 fun h5 N5 => ?_
 have n5:=N5.next
 have Y5:=Y4.trans N5.hx
 refine WOL.lq1 [h4.next,c5'] rfl rfl rfl fun M hM => ((k25 H (s:=s) (n:=n) ((r.hx Y5).relock' M) (by omega) (by omega) ((f.on Y5).held hM (fun b hb => by simp at hb; omega))).mono ?_)
 rintro v h6 ⟨p1,p2,rfl,X6,O2⟩
 replace O2:=O2.relock' h5.lock
 replace X6:=X6.relock
 generalize h6.withLock h5.lock = h6 at *
 have Y6:=Y5.trans X6
 have y6:=X6.next
 refine WOL.lq2 [h4.next] rfl rfl rfl rfl fun M hM => ((k44 H X (s:=s) (n:=n) (z:=k) (O2.r.relock' M) hE hL hF hS ((f.on Y6).held hM (fun b hb => by simp at hb; omega))).mono ?_)
 rintro v h7 RR
 obtain ⟨sy,ny,co1,j1,i1,co2,j2,i2,rfl,X7,R7⟩:=RR.out
 clear RR O2
 replace R7:=R7.relock h6.lock
 replace X7:=X7.relock
 generalize h7.withLock h6.lock = h7 at *
 have Y7:=Y6.trans X7
 refine WOL.mv rfl <| WOL.ex rfl rfl <| WOL.ex rfl rfl ?_
 refine WOL.sto rfl rfl tp52 ((N5.at_.hx X6).hx X7) rfl rfl (Nat.le_of_ble_eq_true rfl) rfl (f.hx Y7) y4 fun h8 P8 => ?_
 refine WOL.as rfl <| WOL.nil <| keep [(3,_),(4,_),(5,_),(7,_),(8,_),(9,_),(10,_)] ⟨rfl,rfl,rfl,rfl,rfl,rfl,rfl,trivial⟩ ?_
 have Z8:HX h4 h8:=P8.hx _ ((N5.hx.trans X6).trans X7) (Nat.le_refl _)
 have Y8:=Y4.trans Z8
 have R8:=R7.away P8 (show h4.next < h6.next by omega)
 have B9:=P8.at_
 have y8:=Y8.next
 clear R7
 -- Filled
 refine WL.sr ?_
 refine WOL.ld rfl (load_row tp46 (A3.hx Y8) rfl (Nat.le_of_ble_eq_true rfl)) ?_
 refine WOL.ix rfl rfl ixA1 <| WOL.ld rfl (load_one tp3 (A5.hx Y8) rfl) ?_
 refine WOL.al tp52 fun h9 N9 => ?_
 have n9:=N9.next
 have Y9:=Y8.trans N9.hx
 refine WOL.lq1 [h8.next,c5'] rfl rfl rfl fun M hM => ((k25 H (s:=s) (n:=n) ((r.hx Y9).relock' M) (by omega) (by omega) ((f.on Y9).held hM (fun b hb => by simp at hb; omega))).mono ?_)
 rintro v h10 ⟨p1,p2,rfl,X10,O2⟩
 replace O2:=O2.relock' h9.lock
 replace X10:=X10.relock
 generalize h10.withLock h9.lock = h10 at *
 have Y10:=Y9.trans X10
 have y10:=X10.next
 refine WOL.lq2 [h8.next] rfl rfl rfl rfl fun M hM => ((k45 H X (s:=s) (n:=n) (z:=z) (O2.r.relock' M) hE hL hF hS ((f.on Y10).held hM (fun b hb => by simp at hb; omega))).mono ?_)
 rintro v h11 RR
 obtain ⟨su,nu,do1,m1,q1,do2,m2,q2,rfl,X11,R11⟩:=RR.out
 clear RR O2
 replace R11:=R11.relock h10.lock
 replace X11:=X11.relock
 generalize h11.withLock h10.lock = h11 at *
 have Y11:=Y10.trans X11
 refine WOL.mv rfl <| WOL.ex rfl rfl <| WOL.ex rfl rfl ?_
 refine WOL.sto rfl rfl tp52 ((N9.at_.hx X10).hx X11) rfl rfl (Nat.le_of_ble_eq_true rfl) rfl (f.hx Y11) y8 fun h12 P12 => ?_
 refine WOL.as rfl <| WOL.nil ?_
 have Z12:HX h8 h12:=P12.hx _ ((N9.hx.trans X10).trans X11) (Nat.le_refl _)
 have R12:=R11.away P12 (show h8.next < h10.next by omega)
 exact kto (K h12 (Y8.trans Z12) _ _ _ _ _ _ _ _ _ _ _ _ _ _ _ _ _ _ ((B7.hx Z8).hx Z12) (B9.hx Z12) P12.at_ ((R4.hx Z8).hx Z12) (R8.hx Z12) R12) ⟨rfl,rfl,rfl,rfl,rfl,rfl,rfl,rfl,rfl,trivial⟩
end Go.Tidy
namespace Go.Tidy
open Go Go.Proofs Tab
variable {tp:TProg}
theorem lev_some (F:List Nat):∃ es L,SErr F es ∧ (firstNZ es = 0 → Lev F L):=by
 obtain ⟨es,hE⟩:=serr_ex F
 by_cases h0:firstNZ es = 0
 ·obtain ⟨L,hL⟩:=lev_ex F es hE (firstNZ_zero h0)
  exact ⟨es,L,hE,fun _ => hL⟩
 ·exact ⟨es,[],hE,fun h => absurd h h0⟩
attribute [local irreducible] Ty valOf
end Go.Tidy
namespace Go.Tidy
open Go Go.Proofs Tab
variable {tp:TProg}
theorem JoinR.out' {h h':TH} {v:Value} {s:ByteArray} {n:Int} {Z:List Int} {Y:List Bool} {e:Int} (hY:Y.length = Z.length) (hl:e = 0 → Z.length ≤ 4096 ∧ ∀ c,c ∈ cellsK Z Y → c.1.natAbs ≤ 16384) (r:JoinR h h' v s n Z Y e):∃ sz nz bo1 l1 k1 bo2 l2 k2,v = .tuple #[runV sz nz (.slice bo1 l1 k1) (.slice bo2 l2 k2),.int .i64 e] ∧ HX h h' ∧ ∀ c g x,Put h' g c x → c < h.next → x = .cells (runV sz nz (.slice bo1 l1 k1) (.slice bo2 l2 k2)).cells.toList true true 46 → ∀ B,B ≤ h.next → RefS B g c s n (cellsK Z Y) e:=by
 obtain ⟨sz,nz,bo1,l1,k1,bo2,l2,k2,rfl,X,q1,q2⟩:=r.out
 refine ⟨_,_,_,_,_,_,_,_,rfl,X,fun c g x p hc hx B hB => ⟨sz,nz,_,_,hx ▸ p.at_,q1,fun e0 => ⟨(q2 e0).1,?_⟩⟩⟩
 have O:=(q2 e0).2.away p hc
 refine ⟨?_,lev_smp (hl e0).2,by rw [cellsK_ln hY]; exact (hl e0).1⟩
 rw [cellsK_snd hY]
 exact O.le hB
set_option maxHeartbeats 4000000 in
set_option maxRecDepth 100000 in
theorem k5q (H:Has tp) (A:Awk tp) {s:ByteArray} {n m d k z:Int} {v1 v2:Value} {F:List Nat} {S:List (Int × Int)} {es L:List Int} {h:TH} {c3 c4 c5':Nat} (r:RunH h v1 v2 F S) (hE:SErr F es) (hL:firstNZ es = 0 → Lev F L)
    (hF:F.length ≤ 900000) (hS:S.length ≤ 900000) (f:Free0 h.next h) (A3:At h c3 (.cells (runV s n v1 v2).cells.toList true true 46)) (A4:At h c4 (.cells [zi m,zi d] true true 22)) (A5:At h c5' (.cells [zi k,zi z] true true 22))
    {c7 c9 c11 n1 n2 n3:Nat} {sx:ByteArray} {nx:Int} {x1 x2:Value} {sy:ByteArray} {ny:Int} {y1 y2:Value} {su:ByteArray} {nu:Int} {u1 u2:Value} (B7:At h c7 (.cells (runV sx nx x1 x2).cells.toList true true 52)) (B9:At h c9 (.cells (runV sy ny y1 y2).cells.toList true true 52)) (B11:At h c11 (.cells (runV su nu u1 u2).cells.toList true true 52))
    (r1:RX n1 h sx nx x1 x2 s n (scC m d (cellsL L S)) (errA (runE s n F.length S es L) m d (cellsL L S))) (r2:RX n2 h sy ny y1 y2 s (n / k) (thin k.toNat (cellsL L S)) (errB (runE s n F.length S es L) n k)) (r3:RX n3 h su nu u1 u2 s n (S.foldl (fillS z F.length (fillC L)) (cellsL L S)) (errC (runE s n F.length S es L) z)) :
    ∀ a,Kn [(3,ptr c3),(4,ptr c4),(5,ptr c5'),(7,ptr c7),(8,zi (errA (runE s n F.length S es L) m d (cellsL L S))),(9,ptr c9),(10,zi (errB (runE s n F.length S es L) n k)),(11,ptr c11),(12,zi (errC (runE s n F.length S es L) z))] a → W Tryz.prog tp false r5t a h (Fin Tryz.prog [.tmp 6] fun v _ => v = .bool true):=by
  obtain ⟨bv1,kv1,rfl⟩:=r.f.form
  obtain ⟨bv2,kv2,rfl⟩:=r.s.form
  have V0:runE s n F.length S es L = 0 → Valid s n F S L:=fun e => valid_of hL e
  generalize hEE:runE s n F.length S es L = E at *
  refine WL.sr ?_
  refine WOL.ld rfl (load_row tp46 A3 rfl (Nat.le_of_ble_eq_true rfl)) ?_
  refine WOL.cl1 rfl rfl ((k31 H (s:=s) (n:=n) r hE hL (by omega) (by omega)).mono ?_)
  rintro v h1 ⟨rfl,X1⟩
  rw [hEE]
  refine WOL.as rfl <| WOL.nil <| keep [(3,_),(4,_),(5,_),(7,_),(8,_),(9,_),(10,_),(11,_),(12,_),(13,_)] ⟨rfl,rfl,rfl,rfl,rfl,rfl,rfl,rfl,rfl,rfl,trivial⟩ ?_
  refine WL.sr <| WOL.mv rfl ?_
  refine WOL.ix rfl rfl ixA0 <| WOL.ld rfl (load_one tp3 (A4.hx X1) rfl) ?_
  refine WOL.ix rfl rfl ixA1 <| WOL.ld rfl (load_one tp3 (A4.hx X1) rfl) ?_
  refine WOL.lk3 rfl rfl rfl rfl fun M => ((k14 H _ _ _ _).mono ?_)
  rintro v h2 ⟨rfl,rfl⟩
  have X2:HX h1 ((h1.withLock M).withLock h1.lock):=(HX.refl _).relock
  generalize (h1.withLock M).withLock h1.lock = h2 at *
  refine WOL.cl3 rfl rfl rfl rfl ((k14 H _ _ _ _).mono ?_)
  rintro v h2 ⟨rfl,rfl⟩
  refine WOL.bsl rfl u29 tp3 (by decide) (by decide) (by decide) (filled_ints3 _ _ _) fun h3 N3 => ?_
  refine WOL.cl1 rfl rfl ((k13 H (l:=[_,_,_]) N3.at_.get (by simp)).mono ?_)
  rintro v h3 ⟨rfl,rfl⟩
  have Y3:=(X1.trans X2).trans N3.hx
  refine WOL.as rfl <| WOL.nil <| keep [(3,_),(4,_),(5,_),(7,_),(8,_),(9,_),(10,_),(11,_),(12,_),(13,_),(14,_)] ⟨rfl,rfl,rfl,rfl,rfl,rfl,rfl,rfl,rfl,rfl,rfl,trivial⟩ ?_
  refine WL.sr <| WOL.mv rfl ?_
  refine WOL.ix rfl rfl ixA0 <| WOL.ld rfl (load_one tp3 (A5.hx Y3) rfl) ?_
  refine WOL.mv rfl ?_
  refine WOL.ix rfl rfl ixA1 <| WOL.ld rfl (load_one tp3 (A5.hx Y3) rfl) ?_
  refine WOL.lk3 rfl rfl rfl rfl fun M => ((k14 H _ _ _ _).mono ?_)
  rintro v h4 ⟨rfl,rfl⟩
  have X4:HX h3 ((h3.withLock M).withLock h3.lock):=(HX.refl _).relock
  generalize (h3.withLock M).withLock h3.lock = h4 at *
  refine WOL.bsl rfl u29 tp3 (by decide) (by decide) (by decide) (filled_ints _ _) fun h5 N5 => ?_
  refine WOL.lk1 rfl rfl fun M => ((k13 H (l:=[_,_]) (N5.at_.relock M).get (by simp)).mono ?_)
  rintro v h6 ⟨rfl,rfl⟩
  have X6:HX h5 ((h5.withLock M).withLock h5.lock):=(HX.refl _).relock
  generalize (h5.withLock M).withLock h5.lock = h6 at *
  refine WOL.cl3 rfl rfl rfl rfl ((k14 H _ _ _ _).mono ?_)
  rintro v h6 ⟨rfl,rfl⟩
  refine WOL.bsl rfl u29 tp3 (by decide) (by decide) (by decide) (filled_ints _ _) fun h7 N7 => ?_
  refine WOL.cl1 rfl rfl ((k13 H (l:=[_,_]) N7.at_.get (by simp)).mono ?_)
  rintro v h7 ⟨rfl,rfl⟩
  have Y7:=(((Y3.trans X4).trans N5.hx).trans X6).trans N7.hx
  refine WOL.as rfl <| WOL.as rfl <| WOL.nil <| keep [(3,_),(4,_),(5,_),(7,_),(8,_),(9,_),(10,_),(11,_),(12,_),(14,_),(15,_),(16,_)] ⟨rfl,rfl,rfl,rfl,rfl,rfl,rfl,rfl,rfl,rfl,rfl,rfl,trivial⟩ ?_
  refine WL.sr <| WOL.al tp46 fun h8 N8 => ?_
  refine WOL.al tp46 fun h9 N9 => ?_
  refine WOL.al tp46 fun h10 N10 => ?_
  refine WOL.nil <| keep [(3,_),(4,_),(5,_),(7,_),(8,_),(9,_),(10,_),(11,_),(12,_),(14,_),(15,_),(16,_),(17,_),(18,_),(19,_)] ⟨rfl,rfl,rfl,rfl,rfl,rfl,rfl,rfl,rfl,rfl,rfl,rfl,rfl,rfl,rfl,trivial⟩ ?_
  have y7:=Y7.next
  have n8:=N8.next
  have n9:=N9.next
  have n10:=N10.next
  have Y10:=((Y7.trans N8.hx).trans N9.hx).trans N10.hx
  have T17:=(N8.at_.hx N9.hx).hx N10.hx
  have T18:=N9.at_.hx N10.hx
  have T19:=N10.at_
  have kill:∀ {g:TH} {c:Nat} {s':ByteArray} {n' e:Int} {C:List (Int × Bool)},e ≠ 0 → At g c (.cells [.string ⟨#[]⟩,.int .i64 0,.slice none 0 0,.slice none 0 0] true true 46) → RefS h10.next g c s' n' C e:=fun e0 a => ⟨⟨#[]⟩,0,_,_,a,fun _ => ⟨rfl,rfl⟩,fun e => absurd e e0⟩
  -- the end
  have last:∀ g,HX h g → RefS h10.next g h7.next s n (scC m d (cellsL L S)) (errA E m d (cellsL L S)) → RefS h10.next g h8.next s (n / k) (thin k.toNat (cellsL L S)) (errB E n k) → RefS h10.next g h9.next s n (S.foldl (fillS z F.length (fillC L)) (cellsL L S)) (errC E z) →
      ∀ a,Kn [(7,ptr c7),(8,zi (errA E m d (cellsL L S))),(9,ptr c9),(10,zi (errB E n k)),(11,ptr c11),(12,zi (errC E z)),(14,zi (errA E m d (cellsL L S))),(15,zi (errB E n k)),(16,zi (errC E z)),(17,ptr h7.next),(18,ptr h8.next),(19,ptr h9.next)] a → W Tryz.prog tp false (.seq (.reg r5_16) .ret) a g (Fin Tryz.prog [.tmp 6] fun v _ => v = .bool true) :=
    fun g x q1 q2 q3 => k5z H A (f.on x) (B7.hx x) (B9.hx x) (B11.hx x) (r1.hx x) (r2.hx x) (r3.hx x) q1 q2 q3
  -- Filled
  have third:∀ g,HX h g → RefS h10.next g h7.next s n (scC m d (cellsL L S)) (errA E m d (cellsL L S)) → RefS h10.next g h8.next s (n / k) (thin k.toNat (cellsL L S)) (errB E n k) → At g h9.next (.cells [.string ⟨#[]⟩,.int .i64 0,.slice none 0 0,.slice none 0 0] true true 46) → h10.next ≤ g.next →
      ∀ a,Kn [(3,ptr c3),(5,ptr c5'),(7,ptr c7),(8,zi (errA E m d (cellsL L S))),(9,ptr c9),(10,zi (errB E n k)),(11,ptr c11),(12,zi (errC E z)),(14,zi (errA E m d (cellsL L S))),(15,zi (errB E n k)),(16,zi (errC E z)),(17,ptr h7.next),(18,ptr h8.next),(19,ptr h9.next)] a → W Tryz.prog tp false r5w a g (Fin Tryz.prog [.tmp 6] fun v _ => v = .bool true):=by
    intro g x q1 q2 t19 hg
    refine WL.seq <| WL.sr <| WOL.mv rfl <| WOL.bi rfl rfl ezero <| WOL.nil <| keep [(3,_),(5,_),(7,_),(8,_),(9,_),(10,_),(11,_),(12,_),(14,_),(15,_),(16,_),(17,_),(18,_),(19,_),(94,_)] ⟨rfl,rfl,rfl,rfl,rfl,rfl,rfl,rfl,rfl,rfl,rfl,rfl,rfl,rfl,rfl,trivial⟩ ?_
    by_cases e0:errC E z = 0
    · have z0:=firstNZ_zero e0
      have V:=V0 (z0 E (by simp))
      have Vm:=V.m
      have kl:=V.kl
      have ll:=V.lev.1
      rw [show (errC E z == 0) = true by simpa using e0]
      refine WL.yes rfl ?_
      refine WL.reg ?_
      refine WOL.ld rfl (load_row tp46 (A3.hx x) rfl (Nat.le_of_ble_eq_true rfl)) ?_
      refine WOL.ix rfl rfl ixA1 <| WOL.ld rfl (load_one tp3 (A5.hx x) rfl) ?_
      refine WOL.cl2 rfl rfl rfl ((k48 H (s:=s) (n:=n) (z:=z) (r.hx x) V hS (f.on x)).mono ?_)
      rintro v g1 ⟨w1,w2,rfl,X',O⟩
      obtain ⟨bo1,k1,rfl⟩:=O.r.f.form
      obtain ⟨bo2,k2,rfl⟩:=O.r.s.form
      have Y':=x.trans X'
      refine WOL.sto rfl rfl tp46 (t19.hx X') rfl rfl (Nat.le_of_ble_eq_true rfl) rfl (f.hx Y') (by omega) fun g2 P2 => ?_
      refine WOL.nil ?_
      refine kto (last g2 (P2.hx _ Y' (by omega)) ((q1.hx X').away P2 (by omega) (by omega)) ((q2.hx X').away P2 (by omega) (by omega)) ⟨_,_,_,_,P2.at_,fun h => absurd e0 h,fun _ => ⟨⟨rfl,rfl⟩,?_⟩⟩) ⟨rfl,rfl,rfl,rfl,rfl,rfl,rfl,rfl,rfl,rfl,rfl,rfl,trivial⟩
      have hfc:S.foldl (fillS z F.length (fillC L)) (cellsL L S) = cellsK (S.foldl (fillS z F.length (fillV L)) L) (S.foldl (fillS z F.length fun _ _ => true) (knownL S F.length)):=by rw [V.cells,fill_cells]
      have hYZ:(S.foldl (fillS z F.length fun _ _ => true) (knownL S F.length)).length = (S.foldl (fillS z F.length (fillV L)) L).length:=by rw [fills_len,fills_len,kl]
      have hlim:=fills_lim (lev_lim V.lev) (z:=z) (m:=F.length) (S:=S) (D:=cellsL L S) V.lim
      refine ⟨?_,lev_smp hlim,by rw [hfc,cellsK_ln hYZ,fills_len]; omega⟩
      have O2:=(O.away P2 (by omega)).le (show h10.next ≤ g.next from hg)
      rw [hfc,cellsK_snd hYZ]
      exact O2
    · rw [show (errC E z == 0) = false by simpa using e0]
      refine WL.no rfl <| WL.skip ?_
      exact kto (last g x q1 q2 (kill e0 t19)) ⟨rfl,rfl,rfl,rfl,rfl,rfl,rfl,rfl,rfl,rfl,rfl,rfl,trivial⟩
  -- Thinned
  have second:∀ g,HX h g → RefS h10.next g h7.next s n (scC m d (cellsL L S)) (errA E m d (cellsL L S)) → At g h8.next (.cells [.string ⟨#[]⟩,.int .i64 0,.slice none 0 0,.slice none 0 0] true true 46) → At g h9.next (.cells [.string ⟨#[]⟩,.int .i64 0,.slice none 0 0,.slice none 0 0] true true 46) → h10.next ≤ g.next →
      ∀ a,Kn [(3,ptr c3),(5,ptr c5'),(7,ptr c7),(8,zi (errA E m d (cellsL L S))),(9,ptr c9),(10,zi (errB E n k)),(11,ptr c11),(12,zi (errC E z)),(14,zi (errA E m d (cellsL L S))),(15,zi (firstNZ [E,outB k 1 64])),(16,zi (errC E z)),(17,ptr h7.next),(18,ptr h8.next),(19,ptr h9.next)] a → W Tryz.prog tp false r5v a g (Fin Tryz.prog [.tmp 6] fun v _ => v = .bool true):=by
    intro g x q1 t18 t19 hg
    refine WL.seq <| WL.sr <| WOL.mv rfl <| WOL.bi rfl rfl ezero <| WOL.nil <| keep [(3,_),(5,_),(7,_),(8,_),(9,_),(10,_),(11,_),(12,_),(14,_),(15,_),(16,_),(17,_),(18,_),(19,_),(85,_)] ⟨rfl,rfl,rfl,rfl,rfl,rfl,rfl,rfl,rfl,rfl,rfl,rfl,rfl,rfl,rfl,trivial⟩ ?_
    by_cases e0:firstNZ [E,outB k 1 64] = 0
    · have z0:=firstNZ_zero e0
      have V:=V0 (z0 E (by simp))
      have bk:=outB_zero (z0 (outB k 1 64) (by simp))
      have Vm:=V.m
      have kl:=V.kl
      have ll:=V.lev.1
      have hB:errB E n k = cond (n % k != 0) 21 0:=by unfold errB thErr; rw [e0]; rfl
      have hTC:=thin_cells (k:=k.toNat) kl
      have hk:k = (k.toNat:Int):=by omega
      rw [show (firstNZ [E,outB k 1 64] == 0) = true by simpa using e0]
      refine WL.yes rfl ?_
      refine WL.reg ?_
      refine WOL.ld rfl (load_row tp46 (A3.hx x) rfl (Nat.le_of_ble_eq_true rfl)) ?_
      refine WOL.ix rfl rfl ixA0 <| WOL.ld rfl (load_one tp3 (A5.hx x) rfl) ?_
      have J:CallW Tryz.prog tp (.func (.func 49) #[] #[]) #[runV s n (.slice bv1 F.length kv1) (.slice bv2 S.length kv2),zi k] g fun v h' => JoinR g h' v s (n / k) (thin k.toNat L) (thin k.toNat (knownL S F.length)) (errB E n k):=by
        rw [hB]
        have:=k47 H (s:=s) (n:=n) (k:=k.toNat) (r.hx x) V hS (by omega) (by omega) (f.on x)
        rwa [← hk] at this
      refine WOL.cl2 rfl rfl rfl (J.mono ?_)
      rintro v g1 JR
      have hll:=thin_len (k:=k.toNat) (l:=L) L.length
      obtain ⟨sz,nz,do1,m1,u1,do2,m2,u2,rfl,X',q2⟩:=JR.out' hTC.2 (fun _ => ⟨by unfold thin; omega,by rw [← hTC.1]; exact fun c hc => V.lim c (by rw [V.cells]; exact thin_mem hc)⟩)
      have Y':=x.trans X'
      refine WOL.mv rfl <| WOL.ex rfl rfl <| WOL.ex rfl rfl ?_
      refine WOL.sto rfl rfl tp46 (t18.hx X') rfl rfl (Nat.le_of_ble_eq_true rfl) rfl (f.hx Y') (by omega) fun g2 P2 => ?_
      refine WOL.as rfl <| WOL.nil ?_
      have x':=X'.next
      have p2:=P2.next
      have q2':=q2 _ _ _ P2 (by omega) rfl h10.next hg
      rw [← hTC.1,← V.cells] at q2'
      exact kto (third g2 (P2.hx _ Y' (by omega)) ((q1.hx X').away P2 (by omega) (by omega)) q2' (P2.oth _ _ (by omega) (t19.hx X')) (by omega)) ⟨rfl,rfl,rfl,rfl,rfl,rfl,rfl,rfl,rfl,rfl,rfl,rfl,rfl,rfl,trivial⟩
    · have hB:errB E n k = firstNZ [E,outB k 1 64]:=by unfold errB thErr; rw [show (firstNZ [E,outB k 1 64] != 0) = true by simpa using e0]; rfl
      rw [show (firstNZ [E,outB k 1 64] == 0) = false by simpa using e0]
      refine WL.no rfl <| WL.skip ?_
      rw [← hB]
      exact kto (third g x q1 (kill (by rw [hB]; exact e0) t18) t19 hg) ⟨rfl,rfl,rfl,rfl,rfl,rfl,rfl,rfl,rfl,rfl,rfl,rfl,rfl,rfl,trivial⟩
  -- Scaled
  refine WL.seq <| WL.sr <| WOL.mv rfl <| WOL.bi rfl rfl ezero <| WOL.nil <| keep [(3,_),(4,_),(5,_),(7,_),(8,_),(9,_),(10,_),(11,_),(12,_),(14,_),(15,_),(16,_),(17,_),(18,_),(19,_),(74,_)] ⟨rfl,rfl,rfl,rfl,rfl,rfl,rfl,rfl,rfl,rfl,rfl,rfl,rfl,rfl,rfl,rfl,trivial⟩ ?_
  by_cases e0:firstNZ [E,outB m (-1000) 1000,outB d 1 1000] = 0
  · have z0:=firstNZ_zero e0
    have V:=V0 (z0 E (by simp))
    have bm:=outB_zero (z0 (outB m (-1000) 1000) (by simp))
    have bd:=outB_zero (z0 (outB d 1 1000) (by simp))
    have Vm:=V.m
    have kl:=V.kl
    have ll:=V.lev.1
    have hsc:scC m d (cellsL L S) = cellsK (scL m d L) (knownL S F.length):=by rw [V.cells,sc_cells (by omega)]
    have hA:errA E m d (cellsL L S) = cond (allOk (cellsK (scL m d L) (knownL S F.length))) 0 4:=by unfold errA scErr; rw [e0,hsc]; rfl
    rw [show (firstNZ [E,outB m (-1000) 1000,outB d 1 1000] == 0) = true by simpa using e0]
    refine WL.yes rfl ?_
    refine WL.reg ?_
    refine WOL.ld rfl (load_row tp46 (A3.hx Y10) rfl (Nat.le_of_ble_eq_true rfl)) ?_
    refine WOL.ix rfl rfl ixA0 <| WOL.ld rfl (load_one tp3 (A4.hx Y10) rfl) ?_
    refine WOL.ix rfl rfl ixA1 <| WOL.ld rfl (load_one tp3 (A4.hx Y10) rfl) ?_
    refine WOL.cl3 rfl rfl rfl rfl ((k46 H (s:=s) (n:=n) (m:=m) (d:=d) (r.hx Y10) V hS (by omega) (by omega) (by omega) (f.on Y10)).mono ?_)
    rintro v g1 JR
    rw [← hA] at JR
    obtain ⟨sz,nz,do1,m1,u1,do2,m2,u2,rfl,X',q1⟩:=JR.out' (by rw [scL_len,kl]) (fun e => ⟨by rw [scL_len]; omega,allOk_iff.1 (by
      cases hb:allOk (cellsK (scL m d L) (knownL S F.length)) with
      | true => rfl
      | false => rw [hA,hb] at e; cases e)⟩)
    have Y':=Y10.trans X'
    refine WOL.mv rfl <| WOL.ex rfl rfl <| WOL.ex rfl rfl ?_
    refine WOL.sto rfl rfl tp46 (T17.hx X') rfl rfl (Nat.le_of_ble_eq_true rfl) rfl (f.hx Y') (by omega) fun g2 P2 => ?_
    refine WOL.as rfl <| WOL.nil ?_
    have x':=X'.next
    have p2:=P2.next
    have q1':=q1 _ _ _ P2 (by omega) rfl h10.next (Nat.le_refl _)
    rw [← hsc] at q1'
    exact kto (second g2 (P2.hx _ Y' (by omega)) q1' (P2.oth _ _ (by omega) (T18.hx X')) (P2.oth _ _ (by omega) (T19.hx X')) (by omega)) ⟨rfl,rfl,rfl,rfl,rfl,rfl,rfl,rfl,rfl,rfl,rfl,rfl,rfl,rfl,trivial⟩
  · have hA:errA E m d (cellsL L S) = firstNZ [E,outB m (-1000) 1000,outB d 1 1000]:=by unfold errA scErr; rw [show (firstNZ [E,outB m (-1000) 1000,outB d 1 1000] != 0) = true by simpa using e0]; rfl
    rw [show (firstNZ [E,outB m (-1000) 1000,outB d 1 1000] == 0) = false by simpa using e0]
    refine WL.no rfl <| WL.skip ?_
    rw [← hA]
    exact kto (second h10 Y10 (kill (by rw [hA]; exact e0) T17) T18 T19 (Nat.le_refl _)) ⟨rfl,rfl,rfl,rfl,rfl,rfl,rfl,rfl,rfl,rfl,rfl,rfl,rfl,rfl,trivial⟩
set_option maxHeartbeats 2000000 in
set_option maxRecDepth 100000 in
theorem k5all (H:Has tp) (X:HasX tp) (A:Awk tp) {s:ByteArray} {n m d k z:Int} {v1 v2:Value} {F:List Nat} {S:List (Int × Int)} {h:TH} (r:RunH h v1 v2 F S) (f:Free0 h.next h) :
  CallW Tryz.prog tp (.func (.func 5) #[] #[]) #[runV s n v1 v2,.agg #[zi m,zi d],.agg #[zi k,zi z]] h fun v _ => v = .bool true:=by
 refine CallW.fnL (H.fn 5 f5 rfl rfl) ?_
 show ∀ a,Kn _ a → W Tryz.prog tp false c5 a h _
 rw [c5_eq]
 obtain ⟨bv1,kv1,rfl⟩:=r.f.form
 obtain ⟨bv2,kv2,rfl⟩:=r.s.form
 refine WL.sr <| WOL.box rfl fun h1 N1 => ?_
 refine WOL.box rfl fun h2 N2 => ?_
 refine WOL.box rfl fun h3 N3 => ?_
 refine WOL.as rfl <| WOL.nil <| keep [(3,_),(4,_),(5,_)] ⟨rfl,rfl,rfl,trivial⟩ ?_
 have X3:=(N1.hx.trans N2.hx).trans N3.hx
 have A3:=(N1.at_.hx N2.hx).hx N3.hx
 have A4:=N2.at_.hx N3.hx
 have A5:=N3.at_
 refine WL.seq <| WL.sr <| WOL.ld rfl (load_row tp46 A3 rfl (Nat.le_of_ble_eq_true rfl)) ?_
 refine WOL.cl1 rfl rfl ((k23 H (s:=s) (n:=n) (r.f.hx X3) (r.s.hx X3)).mono ?_)
 rintro v h4 ⟨rfl,X4⟩
 have Y4:=X3.trans X4
 refine WOL.nt rfl <| WOL.nil <| keep [(3,_),(4,_),(5,_),(22,_)] ⟨rfl,rfl,rfl,rfl,trivial⟩ ?_
 cases hb:shortB s F.length S.length with
 | false =>
  refine WL.yes rfl <| WL.sr <| WOL.cl0 rfl ((k11 A h4).mono ?_)
  rintro v h5 ⟨rfl,rfl⟩
  refine WOL.as rfl <| WOL.nil ?_
  exact WL.ret (WL.end_ rfl rfl)
 | true =>
  obtain ⟨hF,hS⟩:=short_small hb
  obtain ⟨es,L,hE,hL⟩:=lev_some F
  refine WL.no rfl <| WL.skip ?_
  refine kto (k5p H X (r.hx Y4) hE hL (by omega) (by omega) (f.on Y4) (A3.hx X4) (A4.hx X4) (A5.hx X4) ?_) ⟨rfl,rfl,rfl,trivial⟩
  intro g x c7 c9 c11 n1 n2 n3 sx nx x1 x2 sy ny y1 y2 su nu u1 u2 B7 B9 B11 r1 r2 r3
  exact k5q H A (r.hx (Y4.trans x)) hE hL (by omega) (by omega) (f.on (Y4.trans x)) ((A3.hx X4).hx x) ((A4.hx X4).hx x) ((A5.hx X4).hx x) B7 B9 B11 r1 r2 r3
attribute [local irreducible] Ty valOf
theorem ty_two {h:TH} {n:Nat} {ps:List Value} (y:Ty Tryz.prog h (n + 2) 22 ps):∃ a b:Int,ps = [zi a,zi b]:=by
 obtain ⟨p,q,rfl,_,y1,p',q',rfl,_,y2,rfl⟩:=tyg_array Tryz.underlying22 y
 obtain ⟨a,rfl,_⟩:=ty_int y1
 obtain ⟨b,rfl,_⟩:=ty_int y2
 exact ⟨a,b,rfl⟩
theorem law5:Law tpE 5 5 [46,22,22]:=by
 intro h us f ha
 match us,ha with
 | [a0,a1,a2],⟨⟨p0,y0,e0⟩,⟨p1,y1,e1⟩,⟨p2,y2,e2⟩,_⟩ =>
  obtain ⟨s,z,v1,v2,F,S,rfl,r⟩:=ty_run y0
  obtain ⟨m,d,rfl⟩:=ty_two y1
  obtain ⟨k,g,rfl⟩:=ty_two y2
  rw [val_agg (.inl ⟨_,Tryz.underlying46⟩)] at e0
  rw [val_agg (.inr ⟨_,_,Tryz.underlying22⟩)] at e1 e2
  subst e0 e1 e2
  exact k5all hasE hasXE awkE (s:=s) (n:=z) r f
end Go.Tidy
