/- A part of the proof. -/
import Derived.Test.YtpmijenaggkpdaaGreatDoorPa6
import Derived.Test.YtpmijenaggkpdaaGreatDoorPa2
import Derived.Test.YtpmijenaggkpdaaGreatDoorPa5
set_option linter.all false
namespace Go.Tidy
open Go Go.Proofs Tab
variable {tp:TProg}
theorem Free0.on {h h':TH} (f:Free0 h.next h) (x:HX h h'):Free0 h'.next h':=f.next x x.next
theorem ezero {z:Int}:fastBin .eql (.int .i64 z) (.int .i64 0) = some (.bool (z == 0)):=rfl
structure Val (s:ByteArray) (n:Int) (v1 v2:Value) (F:List Nat) (S:List (Int × Int)) (es L:List Int) (p1 p2:Int) (h hm g:TH) (c3 c5 c12 c14 c18 c28 c29 c30:Nat) (sx:ByteArray) (nx:Int) (x1 x2:Value) (sy:ByteArray) (ny:Int) (y1 y2:Value) (ec ma mb:Int) (n1:Nat) (w1 w2:Value):Prop where
  r:RunH h v1 v2 F S
  V:Valid s n F S L
  E0:runE s n F.length S es L = 0
  f:Free0 h.next h
  x0:HX h hm
  x1_:HX hm g
  a3:At h c3 (.cells (runV s n v1 v2).cells.toList true true 46)
  a5:At h c5 (.cells (Value.agg #[.int .i64 p1,.int .i64 p2]).cells.toList true true 48)
  b12:At hm c12 (.cells (runV sx nx x1 x2).cells.toList true true 52)
  r12:RX h.next hm sx nx x1 x2 s p1 (((cellsL L S).drop (p1 - n).toNat).take ((p2 - n).toNat - (p1 - n).toNat)) ec
  e12:ec = cond (offB n F.length (p1,p2)) 14 0
  b14:At hm c14 (.cells (runV sy ny y1 y2).cells.toList true true 52)
  r14:RX h.next hm sy ny y1 y2 s n (cellsL L S).reverse 0
  b18:At hm c18 (.cells [.int .i64 ma,.int .i64 mb] true true 24)
  b28:At g c28 (.cells [.string ⟨#[]⟩,.int .i64 0,.slice none 0 0,.slice none 0 0] true true 46)
  b29:At g c29 (.cells (runV s n w1 w2).cells.toList true true 46)
  ro:RunO n1 g w1 w2 (madeF L.reverse (knownL S F.length).reverse) (holesOf (knownL S F.length).reverse)
  b30:At g c30 (.cells [.int .i64 ma,.int .i64 mb] true true 24)
  o4:hm.next ≤ c28
  o5:c28 < c29
  o6:c29 < c30
  o7:c30 < n1
end Go.Tidy
namespace Go.Tidy
open Go Go.Proofs Tab
variable {tp:TProg}
theorem nzero {z:Int}:fastBin .neq (.int .i64 z) (.int .i64 0) = some (.bool (z != 0)):=rfl
end Go.Tidy
namespace Go.Tidy
open Go Go.Proofs Tab
variable {tp:TProg}
theorem rnd_zero {b:Int} (hb:0 < b):rnd 0 b = 0:=by
  unfold rnd
  exact Int.ediv_eq_zero_of_lt (by omega) (by omega)
def scCell (m d:Int) (c:Int × Bool):Int × Bool:=(rnd (c.1 * m) d,c.2)
def scC (m d:Int) (C:List (Int × Bool)):List (Int × Bool):=C.map (scCell m d)
theorem mul_small {x m:Int} {B N:Nat} (hx:x.natAbs ≤ B) (hm:m.natAbs ≤ N):(x * m).natAbs ≤ B * N:=by
  rw [Int.natAbs_mul]; exact Nat.mul_le_mul hx hm
theorem k102 (H:Has tp) {c:Int × Bool} {m d:Int} {c4 c5:Nat} {h:TH} (hc:c.1.natAbs ≤ 16384) (A4:At h c4 (.cells [zi m] true true 3)) (A5:At h c5 (.cells [zi d] true true 3)) (hm:m.natAbs ≤ 1000) (hd:0 < d) (hd2:d ≤ 1000) (f:Free0 h.next h) :
    CallW Tryz.prog tp (.func (.func 102) #[] #[ptr c4,ptr c5]) #[.agg #[.int .i64 c.1,.bool c.2]] h fun v h' => v = .agg #[.int .i64 (scCell m d c).1,.bool (scCell m d c).2] ∧ HX h h':=by
  have hp:(c.1 * m).natAbs ≤ 16384 * 1000:=mul_small hc hm
  refine CallW.fnC (H.fn 102 f102 rfl rfl) ?_
  refine WL.sr <| WOL.box rfl fun h1 N1 => ?_
  refine WOL.al tp134 fun h2 N2 => ?_
  refine WOL.nil <| keep [(1,_),(2,_),(3,_),(4,_)] ⟨rfl,rfl,rfl,rfl,trivial⟩ ?_
  have X2:=N1.hx.trans N2.hx
  have A3:=N1.at_.hx N2.hx
  refine WL.sr <| WOL.fa rfl (fa_of fo134_0) ?_
  refine WOL.ld rfl (load_one tp3 A3 rfl) ?_
  refine WOL.ld rfl (load_one tp3 (A4.hx X2) rfl) ?_
  refine WOL.mul rfl rfl (by omega) (by omega) ?_
  refine WOL.ld rfl (load_one tp3 (A5.hx X2) rfl) ?_
  refine WOL.fa rfl (fa_of fo134_1) ?_
  refine WOL.ld rfl (load_one tp4 A3 rfl) ?_
  refine WOL.lk2 rfl rfl rfl fun M => ((k103 H (a:=c.1 * m) (b:=d) (by omega) hd (by omega)).mono ?_)
  rintro v h3 ⟨rfl,rfl⟩
  have X3:HX h2 ((h2.withLock M).withLock h2.lock):=(HX.refl _).relock
  generalize (h2.withLock M).withLock h2.lock = h3 at *
  have Y3:=X2.trans X3
  refine WOL.bd rfl bd134 ?_
  have n1:=N1.next
  refine WOL.sto rfl rfl tp134 (N2.at_.hx X3) rfl rfl (Nat.le_of_ble_eq_true rfl) rfl (f.hx Y3) (by omega) fun h4 P4 => ?_
  refine WOL.nil <| keep [(4,_)] ⟨rfl,trivial⟩ ?_
  exact WL.ret (WL.endC rfl (load_row tp134 P4.at_ rfl (Nat.le_of_ble_eq_true rfl)) ⟨rfl,P4.hx _ Y3 (by omega)⟩)
theorem k101 (H:Has tp) {v:Value} {C:List (Int × Bool)} {m d:Int} {c4 c5:Nat} {h:TH} (s:SlL encC 2 h v C) (hS:∀ c,c ∈ C → c.1.natAbs ≤ 16384) (hC:C.length ≤ 1000000) (A4:At h c4 (.cells [zi m] true true 3)) (A5:At h c5 (.cells [zi d] true true 3)) (hm:m.natAbs ≤ 1000) (hd:0 < d) (hd2:d ≤ 1000) (f:Free0 h.next h) :
    CallW Tryz.prog tp (.func (.func 101) #[] #[]) #[v,.func (.func 102) #[] #[ptr c4,ptr c5]] h fun v' h' => ∃ b,v' = .slice (some ⟨b,0,none⟩) C.length C.length ∧ h.next ≤ b ∧ At h' b (.cells (cat encC (scC m d C)) true true 134) ∧ HX h h':=by
  refine CallW.fnL (H.fn 101 f101 rfl rfl) ?_
  refine WL.sr <| WOL.as rfl <| WOL.nil <| keep [(0,_),(1,_)] ⟨rfl,rfl,trivial⟩ ?_
  refine WL.sr <| WOL.mv rfl ?_
  refine WOL.len rfl s u135 ?_
  refine WOL.ms rfl rfl u135 tp134 (by decide) (by omega) fun h1 N1 => ?_
  refine WOL.as rfl <| WOL.nil <| keep [(0,_),(1,_),(5,_)] ⟨rfl,rfl,rfl,trivial⟩ ?_
  refine WL.seq ?_
  refine WL.sr <| WOL.mv rfl ?_
  refine WOL.len rfl (s.hx N1.hx) u135 ?_
  refine WOL.mv rfl <| WOL.nil <| keep [(1,_),(5,_),(11,_),(12,_),(13,_)] ⟨rfl,rfl,rfl,rfl,rfl,trivial⟩ ?_
  have hlen:(scC m d C).length = C.length:=by simp [scC]
  have A1:At h1 h.next (.cells (cat encC ((scC m d C).take 0 ++ List.replicate ((scC m d C).length - 0) ((0:Int),false))) true true 134):=by
    rw [fill_zero,hlen,← Enc.rep]; exact N1.at_
  refine WL.block ?_
  refine WL.loop (fun k a h2 => ∃ j:Nat,j ≤ C.length ∧ k = C.length - j ∧ HX h h2 ∧ At h2 h.next (.cells (cat encC ((scC m d C).take j ++ List.replicate ((scC m d C).length - j) ((0:Int),false))) true true 134) ∧ Kn [(1,.func (.func 102) #[] #[ptr c4,ptr c5]),(5,.slice (some ⟨h.next,0,none⟩) C.length C.length),(11,v),(12,zi C.length),(13,zi (j:Nat))] a) C.length (fun a q => ⟨0,by omega,by omega,N1.hx,A1,q.sub ⟨rfl,rfl,rfl,rfl,rfl,trivial⟩⟩) ?_
  rintro k a h2 ⟨j,hj,rfl,X2,A2,q⟩
  refine q.go ?_
  refine WL.sr ?_
  refine WOL.bi (v:=.bool (decide ((j:Int) < C.length))) rfl rfl rfl ?_
  refine WOL.nil <| keep [(1,_),(5,_),(11,_),(12,_),(13,_),(14,_)] ⟨rfl,rfl,rfl,rfl,rfl,rfl,trivial⟩ ?_
  refine WL.seq ?_
  by_cases hlt:j < C.length
  · rw [show decide ((j:Int) < (C.length:Int)) = true by simpa using hlt]
    refine WL.yes rfl <| WL.skip ?_
    have hC1:C[j]? = some C[j]:=List.getElem?_eq_getElem hlt
    have hl1:=hS _ (List.mem_of_getElem? hC1)
    generalize C[j] = c at *
    have hR1:(scC m d C)[j]? = some (scCell m d c):=by unfold scC; rw [List.getElem?_map,hC1]; rfl
    obtain ⟨b,o,cc,fix,wr,el,e1,e2,e3,e4,e5⟩:=(s.hx X2).at eC u135 tp134 hC1 .i64
    refine WL.seq ?_
    refine WL.block ?_
    refine WL.sr <| WOL.mv rfl ?_
    refine WOL.ix rfl rfl e1 ?_
    refine WOL.ld rfl (load_row tp134 e2 e4 e3) ?_
    refine WOL.al tp134 fun h3 N3 => ?_
    refine WOL.as rfl ?_
    refine WOL.sto rfl rfl tp134 N3.at_ rfl rfl (Nat.le_of_ble_eq_true rfl) rfl (f.hx (X2.trans N3.hx)) X2.next fun h4 P4 => ?_
    have X4:=P4.hx _ (X2.trans N3.hx) X2.next
    have l2:h.next < h2.next:=A2.lt
    have A4':=P4.oth _ _ (by omega) (A2.hx N3.hx)
    refine WOL.nil <| keep [(1,_),(5,_),(6,_),(7,_),(11,_),(12,_),(13,_)] ⟨rfl,rfl,rfl,rfl,rfl,rfl,rfl,trivial⟩ ?_
    refine WL.reg <| WOL.mv rfl <| WOL.mv rfl <| WOL.mv rfl ?_
    refine WOL.ld rfl (load_row tp134 P4.at_ rfl (Nat.le_of_ble_eq_true rfl)) ?_
    refine WOL.cl1 rfl rfl ((k102 H (c:=c) (m:=m) (d:=d) hl1 (A4.hx X4) (A5.hx X4) hm hd hd2 (f.on X4)).mono ?_)
    rintro v5 h5 ⟨rfl,X5⟩
    have Y5:=X4.trans X5
    refine WOL.ix rfl rfl (indexAddr_tp u135 tp134 hlt) ?_
    refine WOL.sto rfl rfl tp134 (A4'.hx X5) rfl rfl (by rw [eC.cat_len,fill_len _ _ _ (by omega)]; omega) rfl (f.hx Y5) (Nat.le_refl _) fun h6 P6 => ?_
    have A6:=P6.at_
    rw [show (0:Nat) + j * 2 = j * 2 by omega,show (Value.agg #[.int .i64 (scCell m d c).1,.bool (scCell m d c).2]).cells.toList = encC (scCell m d c) from rfl,eC.set (by rw [fill_len _ _ _ (by omega)]; omega)] at A6
    have hi:j < (scC m d C).length:=by omega
    rw [show scCell m d c = (scC m d C)[j] from Option.some.inj (by rw [← hR1,List.getElem?_eq_getElem hi]),fill_set _ _ _ hi] at A6
    refine WOL.nil <| keep [(1,_),(5,_),(11,_),(12,_),(13,_)] ⟨rfl,rfl,rfl,rfl,rfl,trivial⟩ ?_
    refine WL.reg ?_
    refine WOL.bi (v:=zi ((j + 1:Nat):Int)) rfl rfl (by show some (Value.int .i64 (fwrap .i64 ((j:Int) + 1))) = _; rw [fwrap_i64 (by omega) (by omega)]; rfl) ?_
    refine WOL.mv rfl <| WOL.nil ?_
    exact fun a q => ⟨C.length - (j + 1),by omega,j + 1,by omega,rfl,P6.hx _ Y5 (Nat.le_refl _),A6,q.sub ⟨rfl,rfl,rfl,rfl,rfl,trivial⟩⟩
  · rw [show decide ((j:Int) < (C.length:Int)) = false by simpa using hlt]
    refine WL.no rfl <| WL.exit ?_
    obtain rfl:j = C.length:=by omega
    refine WL.sr <| WOL.mv rfl <| WOL.as rfl <| WOL.nil <| keep [(4,_)] ⟨rfl,trivial⟩ ?_
    rw [← hlen,fill_all] at A2
    exact WL.ret (WL.end_ rfl ⟨h.next,rfl,Nat.le_refl _,A2,X2⟩)
def scErr (e:Int) (C:List (Int × Bool)):Int:=cond (e != 0) e (cond (allOk C) 0 4)
theorem scC_ok {m d:Int} {C:List (Int × Bool)}:(scC m d C).length = C.length:=by simp [scC]
set_option maxHeartbeats 1000000 in
set_option maxRecDepth 10000 in
theorem k43 (H:Has tp) (X:HasX tp) {s:ByteArray} {n m d:Int} {v1 v2:Value} {F:List Nat} {S:List (Int × Int)} {es L:List Int} {h:TH} (r:RunH h v1 v2 F S) (hE:SErr F es) (hL:firstNZ es = 0 → Lev F L)
    (hF:F.length ≤ 900000) (hS:S.length ≤ 900000) (f:Free0 h.next h) :
    CallW Tryz.prog tp (.func (.func 43) #[] #[]) #[runV s n v1 v2,zi m,zi d] h fun v h' => RunR h h' v s n (scC m d (cellsL L S)) (scErr (firstNZ [runE s n F.length S es L,outB m (-1000) 1000,outB d 1 1000]) (scC m d (cellsL L S))):=by
  obtain ⟨bv1,kv1,rfl⟩:=r.f.form
  obtain ⟨bv2,kv2,rfl⟩:=r.s.form
  refine CallW.fnL (H.fn 43 f43 rfl rfl) ?_
  refine WL.sr <| WOL.box rfl fun h1 N1 => ?_
  refine WOL.box rfl fun h2 N2 => ?_
  refine WOL.box rfl fun h3 N3 => ?_
  refine WOL.al tp52 fun h4 N4 => ?_
  refine WOL.as rfl <| WOL.nil <| keep [(3,_),(4,_),(5,_),(6,_)] ⟨rfl,rfl,rfl,rfl,trivial⟩ ?_
  have n1:=N1.next
  have n2:=N2.next
  have n3:=N3.next
  have n4:=N4.next
  have X4:HX h h4:=((N1.hx.trans N2.hx).trans N3.hx).trans N4.hx
  have A3:=((N1.at_.hx N2.hx).hx N3.hx).hx N4.hx
  have A4:At h4 h1.next (.cells [zi m] true true 3):=(N2.at_.hx N3.hx).hx N4.hx
  have A5:At h4 h2.next (.cells [zi d] true true 3):=N3.at_.hx N4.hx
  have A6:=N4.at_
  refine WL.sr ?_
  refine WOL.ld rfl (load_row tp52 A3 rfl (Nat.le_of_ble_eq_true rfl)) ?_
  refine WOL.ld rfl (load_one tp3 A4 rfl) ?_
  refine WOL.ld rfl (load_one tp3 A5 rfl) ?_
  refine WOL.lq1 [h2.next,h1.next] rfl rfl rfl fun M hM => ((k41 H X (s:=s) (n:=n) ((r.hx X4).relock' M) hE hL (by omega) (by omega) ((f.on X4).held hM (fun b hb => by simp at hb; omega))).mono ?_)
  rintro v h5 ⟨rfl,X5⟩
  replace X5:=X5.relock
  generalize h5.withLock h4.lock = h5 at *
  refine WOL.lk3 rfl rfl rfl rfl fun M => ((k72 H _ _ _ _).mono ?_)
  rintro v h6 ⟨rfl,rfl⟩
  have X6:HX h5 ((h5.withLock M).withLock h5.lock):=(HX.refl _).relock
  generalize (h5.withLock M).withLock h5.lock = h6 at *
  refine WOL.cl3 rfl rfl rfl rfl ((k72 H _ _ _ _).mono ?_)
  rintro v h6 ⟨rfl,rfl⟩
  refine WOL.bsl rfl u166 tp30 (by decide) (by decide) (by decide) (filled_ints3 _ _ _) fun h8 N8 => ?_
  refine WOL.cl1 rfl rfl ((k71 H (l:=[_,_,_]) N8.at_.get (by simp)).mono ?_)
  rintro v h8 ⟨rfl,rfl⟩
  have Z8:HX h4 h8:=(X5.trans X6).trans N8.hx
  have Y8:=X4.trans Z8
  have z8:=Z8.next
  generalize hEE:firstNZ [runE s n F.length S es L,outB m (-1000) 1000,outB d 1 1000] = E
  refine WOL.as rfl <| WOL.nil <| keep [(3,_),(4,_),(5,_),(6,_),(8,_)] ⟨rfl,rfl,rfl,rfl,rfl,trivial⟩ ?_
  refine WL.seq ?_
  refine WL.sr <| WOL.mv rfl ?_
  refine WOL.bi rfl rfl nzero ?_
  refine WOL.nil <| keep [(3,_),(4,_),(5,_),(6,_),(8,_),(19,_)] ⟨rfl,rfl,rfl,rfl,rfl,rfl,trivial⟩ ?_
  rcases nz_cases E with h0 | h0
  · rw [h0]
    have z:=firstNZ_zero (hEE.trans h0)
    have V:=valid_of (s:=s) (n:=n) (S:=S) hL (z _ (by simp))
    have b1:=outB_zero (z (outB m (-1000) 1000) (by simp))
    have b2:=outB_zero (z (outB d 1 1000) (by simp))
    have Vm:=V.m
    have hcl:(cellsL L S).length = F.length:=cells_len V.lev V.in_
    have lim:=cells_lim V.lev S
    have hE0:E = 0:=h0
    refine WL.no rfl <| WL.skip ?_
    refine WL.sr ?_
    refine WOL.ld rfl (load_row tp52 (A3.hx Z8) rfl (Nat.le_of_ble_eq_true rfl)) ?_
    refine WOL.cl1 rfl rfl ((k85 H (s:=s) (n:=n) (r.hx Y8) V.lev (by omega) (by omega) V.in_ (f.on Y8)).mono ?_)
    rintro v h10 ⟨b9,rfl,o9,A9,X10⟩
    have Y10:=Y8.trans X10
    have Z10:=Z8.trans X10
    refine WOL.mf rfl ?_
    refine WOL.cl2 rfl rfl rfl ((k101 H (SlL.own eC A9 hcl) lim (by omega) (A4.hx Z10) (A5.hx Z10) (by omega) (by omega) (by omega) (f.on Y10)).mono ?_)
    rintro v h11 ⟨b11,rfl,o11,A11,X11⟩
    have Y11:=Y10.trans X11
    have Z11:=Z10.trans X11
    have sl11:SlL encC 2 h11 (.slice (some ⟨b11,0,none⟩) (cellsL L S).length (cellsL L S).length) (scC m d (cellsL L S)):=SlL.own eC A11 (by rw [scC_ok])
    refine WOL.as rfl <| WOL.nil <| keep [(3,_),(6,_),(9,_)] ⟨rfl,rfl,rfl,trivial⟩ ?_
    refine WL.seq ?_
    refine WL.sr <| WOL.mv rfl ?_
    refine WOL.cl1 rfl rfl ((k104 H sl11 (by rw [scC_ok]; omega)).mono ?_)
    rintro v h12 ⟨rfl,X12⟩
    have Y12:=Y11.trans X12
    have Z12:=Z11.trans X12
    refine WOL.nt rfl <| WOL.nil <| keep [(3,_),(6,_),(9,_),(28,_)] ⟨rfl,rfl,rfl,rfl,trivial⟩ ?_
    have z12:=Z12.next
    cases hok:allOk (scC m d (cellsL L S)) with
    | false =>
      refine WL.yes rfl <| WL.sr <| WOL.bd rfl bd52z ?_
      refine WOL.sto rfl rfl tp52 (A6.hx Z12) rfl rfl (Nat.le_of_ble_eq_true rfl) rfl (f.hx Y12) (by omega) fun h13 P13 => ?_
      refine WOL.as rfl <| WOL.nil ?_
      refine WL.ret (WL.endC1 (t:=6) (s:=7) rfl rfl (load_row tp52 P13.at_ rfl (Nat.le_of_ble_eq_true rfl)) ⟨P13.hx _ Y12 (by omega),.inl ⟨?_,?_⟩⟩)
      · unfold scErr; rw [hok]; decide
      · unfold scErr; rw [hok]; rfl
    | true =>
      refine WL.no rfl <| WL.skip ?_
      refine WL.sr <| WOL.fa rfl (fa_of fo52_0) ?_
      refine WOL.ld rfl (load_one tp9 (A3.hx Z12) rfl) ?_
      refine WOL.fa rfl (fa_of fo52_1) ?_
      refine WOL.ld rfl (load_one tp3 (A3.hx Z12) rfl) ?_
      refine WOL.mv rfl ?_
      refine WOL.cl3 rfl rfl rfl rfl ((k89 H (s:=s) (n:=n) (sl11.hx X12) (allOk_iff.1 hok) (by rw [scC_ok]; omega) (f.on Y12)).mono ?_)
      rintro v h14 ⟨q1,q2,rfl,X14,O14⟩
      have Y14:=Y12.trans X14
      obtain ⟨bo1,k1,rfl⟩:=O14.r.f.form
      obtain ⟨bo2,k2,rfl⟩:=O14.r.s.form
      refine WOL.sto rfl rfl tp52 ((A6.hx Z12).hx X14) rfl rfl (Nat.le_of_ble_eq_true rfl) rfl (f.hx Y14) (by omega) fun h15 P15 => ?_
      refine WOL.as rfl <| WOL.nil ?_
      have y12:=Y12.next
      refine WL.ret (WL.endC1 (t:=6) (s:=7) rfl rfl (load_row tp52 P15.at_ rfl (Nat.le_of_ble_eq_true rfl)) ⟨P15.hx _ Y14 (by omega),.inr ⟨?_,_,_,rfl,(O14.away P15 (by omega)).le (by omega)⟩⟩)
      unfold scErr; rw [hok]; rfl
  · rw [h0]
    refine WL.yes rfl <| WL.sr <| WOL.bd rfl bd52z <| WOL.mv rfl ?_
    refine WOL.sto rfl rfl tp52 (A6.hx Z8) rfl rfl (Nat.le_of_ble_eq_true rfl) rfl (f.hx Y8) (by omega) fun h9 P9 => ?_
    refine WOL.as rfl <| WOL.nil ?_
    have hse:scErr E (scC m d (cellsL L S)) = E:=by unfold scErr; rw [h0]; rfl
    rw [hse]
    exact WL.ret (WL.endC1 (t:=6) (s:=7) rfl rfl (load_row tp52 P9.at_ rfl (Nat.le_of_ble_eq_true rfl)) ⟨P9.hx _ Y8 (by omega),.inl ⟨by simpa using h0,rfl⟩⟩)
end Go.Tidy
namespace Go.Tidy
open Go Go.Proofs Tab
variable {tp:TProg}
section
variable {α:Type} {enc:α → List Value} {n0:Nat} {h h':TH} {v:Value} {e:TypeId} {l:List α}
end
def okTo (Z:List Int) (Y:List Bool) (j:Nat):Prop:=∀ (i:Nat) (z:Int),i < j → Z[i]? = some z → Y[i]? = some true → okI z = true
end Go.Tidy
namespace Go.Tidy
open Go Go.Proofs Tab
variable {tp:TProg}
def SumR (h h':TH) (v:Value) (s:ByteArray) (n:Int) (Z:List Int) (Y:List Bool) (sh:Bool):Prop :=
  HX h h' ∧ ((sh = false ∧ v = .tuple #[run0,.int .i64 2]) ∨ (sh = true ∧ ¬ okTo Z Y Z.length ∧ v = .tuple #[run0,.int .i64 4]) ∨
    (sh = true ∧ okTo Z Y Z.length ∧ ∃ w1 w2,v = .tuple #[runV s n w1 w2,.int .i64 0] ∧ RunO h.next h' w1 w2 (madeF Z Y) (holesOf Y)))
theorem cellsK_get {L:List Int} {K:List Bool} {i:Nat} {x:Int} {p:Bool} (hx:L[i]? = some x) (hp:K[i]? = some p):(cellsK L K)[i]? = some (if p = true then (x,true) else (0,false)):=by
  unfold cellsK; rw [List.getElem?_zipWith,hx,hp]
theorem cellsK_ln {L:List Int} {K:List Bool} (h:K.length = L.length):(cellsK L K).length = L.length:=by simp [cellsK,h]
theorem ok_cells {Z:List Int} {Y:List Bool} (h:Y.length = Z.length):allOk (cellsK Z Y) = true ↔ okTo Z Y Z.length:=by
  rw [allOk_iff]
  constructor
  · intro ok i z hi hz hy
    have:=ok _ (List.mem_of_getElem? (cellsK_get hz hy))
    exact okI_iff.2 this
  · intro ok c hc
    obtain ⟨i,hi,hci⟩:=List.getElem_of_mem hc
    have hl:=cellsK_ln h
    have hz:Z[i]? = some Z[i]:=List.getElem?_eq_getElem (by omega)
    have hy:Y[i]? = some Y[i]:=List.getElem?_eq_getElem (by omega)
    have:=cellsK_get hz hy
    rw [List.getElem?_eq_getElem hi,hci] at this
    obtain rfl:=Option.some.inj this
    cases hb:Y[i] with
    | false => simp
    | true => rw [hb] at hy; simpa using okI_iff.1 (ok i _ (by omega) hz hy)
end Go.Tidy
namespace Go.Tidy
open Go Go.Proofs Tab
variable {tp:TProg}
structure Rows3 (h:TH) (b:Nat) (Xs:List Value) (Cs:List (List (Int × Bool))):Prop where
  at_:At h b (.cells Xs true true 135)
  len:Xs.length = Cs.length
  sl:∀ (i:Nat) (x:Value) (C:List (Int × Bool)),Xs[i]? = some x → Cs[i]? = some C → SlL encC 2 h x C
theorem Rows3.hx {h h':TH} {b:Nat} {Xs:List Value} {Cs:List (List (Int × Bool))} (r:Rows3 h b Xs Cs) (x:HX h h'):Rows3 h' b Xs Cs:=⟨r.at_.hx x,r.len,fun i y C h1 h2 => (r.sl i y C h1 h2).hx x⟩
end Go.Tidy
namespace Go.Tidy
open Go Go.Proofs Tab
variable {tp:TProg}
theorem Rows3.relock {h:TH} {b:Nat} {Xs:List Value} {Cs:List (List (Int × Bool))} (r:Rows3 h b Xs Cs) (M:List Nat):Rows3 (h.withLock M) b Xs Cs:=⟨r.at_.relock M,r.len,fun i y C h1 h2 => (r.sl i y C h1 h2).relock M⟩
end Go.Tidy
namespace Go.Tidy
open Go Go.Proofs Tab
variable {tp:TProg}
section
variable {P:Program} {α:Type} {enc:α → List Value} {n n0:Nat} {h:TH} {v:Value} {e:TypeId} {l:List α} {z:List Value} {row:Bool}
theorem HX.locked {h h':TH} (x:HX h h') (M:List Nat):HX (h.withLock M) (h'.withLock M):=⟨x.next,x.floor,rfl,x.old⟩
theorem HX.unlock {h h' g:TH} {M:List Nat} (x:HX (h.withLock M) g) (hl:h'.lock = h.lock):HX h (g.withLock h'.lock):=by rw [hl]; exact x.relock
end
def JoinR (h h':TH) (v:Value) (s:ByteArray) (n:Int) (Z:List Int) (Y:List Bool) (e:Int):Prop :=
  HX h h' ∧ ((e ≠ 0 ∧ v = .tuple #[run0,.int .i64 e]) ∨ (e = 0 ∧ ∃ w1 w2,v = .tuple #[runV s n w1 w2,.int .i64 0] ∧ RunO h.next h' w1 w2 (madeF Z Y) (holesOf Y)))
end Go.Tidy
namespace Go.Tidy
open Go Go.Proofs Tab
variable {tp:TProg}
section
variable {α:Type} {k:Nat} {l:List α}
end
theorem WO.remI {P:Program} {tp:TProg} {a:Regs} {h:TH} {K:Regs → TH → Prop} {rest:List TOper} {d:Option Tmp} {ty:TypeId} {i:Nat} {x y:Operand} {t u:TypeId} {m n:Int} (hx:getO a x = some (.int .i64 m)) (hy:getO a y = some (.int .i64 n)) (hn:n ≠ 0)
    (w:WO P tp rest (a.put d (.int .i64 (m.tmod n))) h K):WO P tp (⟨d,.binOp .rem t x y u,ty,none,[],i⟩ :: rest) a h K:=by
  refine WO.bi hx hy ?_ w
  have hk:Nat.beq (kindNo .i64) (kindNo .i64) = true:=Nat.beq_refl _
  have hb:(n == 0) = false:=by simpa using hn
  simp only [fastBin,hk,fastInt,hb,Bool.cond_true,Bool.cond_false]
theorem WOL.rem {P:Program} {tp:TProg} {h:TH} {K:Regs → TH → Prop} {rest:List TOper} {d:Option Tmp} {ty:TypeId} {i:Nat} {x y:Operand} {t u:TypeId} {L:Rg} {m n:Int} (hx:getL L x = some (.int .i64 m)) (hy:getL L y = some (.int .i64 n)) (hm:0 ≤ m) (hn:0 < n) (w:∀ a,Kn (putL L d (.int .i64 (m % n))) a → WO P tp rest a h K):∀ a,Kn L a → WO P tp (⟨d,.binOp .rem t x y u,ty,none,[],i⟩ :: rest) a h K:=fun a k => by
  refine WO.remI (k.o hx) (k.o hy) (by omega) ?_
  rw [Int.tmod_eq_emod_of_nonneg hm]
  exact w _ (k.put d _)
end Go.Tidy
namespace Go.Tidy
open Go Go.Proofs Tab
variable {tp:TProg}
section
variable {P:Program} {h:TH} {v:Value} {t e:TypeId} {n:Nat} {z:List Value} {row:Bool} {K:Regs → TH → Prop} {rest:List TOper} {d:Option Tmp} {ty:TypeId} {i:Nat} {x y lo hi:Operand} {L:Rg}
theorem copy_into {sT:TypeId} {b k m:Nat} {c new:List Value} {fix:Bool} {el:TypeId} (hu:P.underlying sT = some (.slice e)) (he:Tp P e n z row) (hg:At h b (.cells c fix true el)) (hc:c.length = k * n) (s:SlC h v n k new) (h1:new.all oneCell = true) (f:Free0 m h) (hb:m ≤ b) :
    ∃ h',copyT P #[sT,sT] #[.slice (some ⟨b,0,none⟩) k k,v] h = some (.int .i64 (k:Nat),h') ∧ Put h h' b (.cells new fix true el):=by
  obtain ⟨inf,q1,q2,q3,_⟩:=he.i
  have hf:=firstT_C s
  have hnl:new.length = k * n:=by obtain ⟨bo,cap,_,_,h3,_⟩:=s; exact h3
  obtain ⟨bo,cap',rfl,_⟩:=s
  have hmin:Nat.min k k = k:=Nat.min_self k
  by_cases hk:k = 0
  · subst hk
    obtain rfl:new = []:=List.eq_nil_of_length_eq_zero (by omega)
    obtain rfl:c = []:=List.eq_nil_of_length_eq_zero (by omega)
    refine ⟨h,?_,Put.same hg⟩
    simp only [copyT,elemInfo,List.getElem?_toArray,List.getElem?_cons_zero,List.getElem?_cons_succ,hu,Option.bind_some,q1,Option.map_some,lenT,q2,hmin,hf]
    rfl
  · have e1:Nat.beq k 0 = false:=beq_no hk
    have e4:Nat.ble (0 + new.length) c.length = true:=ble_yes (by omega)
    have hp:h.put b (.cells (splice c 0 new) fix true el) = some (h.upd b (.cells (splice c 0 new) fix true el)):=f.put hb hg.lt
    have hs:splice c 0 new = new:=by
      unfold splice
      rw [List.drop_eq_nil_of_le (by omega)]
      simp
    rw [hs] at hp
    refine ⟨h.upd b (.cells new fix true el),?_,Put.mk' hg _⟩
    simp only [copyT,elemInfo,List.getElem?_toArray,List.getElem?_cons_zero,List.getElem?_cons_succ,hu,Option.bind_some,q1,Option.map_some,lenT,q2,hmin,hf,e1,Bool.cond_false,hg.get,putCells,e4,h1,Bool.and_self,Bool.cond_true,hs,hp,Option.map_some]
theorem WOL.cp {h1:TH} {ts:Array TypeId} {vx vy:Value} (hx:getL L x = some vx) (hy:getL L y = some vy) (hm:copyT P ts #[vx,vy] h = some (v,h1)) (w:∀ a,Kn (putL L d v) a → WO P tp rest a h1 K):∀ a,Kn L a → WO P tp (⟨d,.call ⟨.builtin .copy,#[x,y],ts⟩,ty,none,[],i⟩ :: rest) a h K:=fun a k =>
  WO.op rfl rfl (fun call => by
    have hp:plainOp P ⟨d,.call ⟨.builtin .copy,#[x,y],ts⟩,ty,none,[],i⟩ a.eval = none:=rfl
    simp [stepOp,heapFirst,fastOp,valueOp,hp,heapOp,getO_eval (k.o hx),getO_eval (k.o hy),hm]) (w _ (k.put d _))
theorem WOL.sl {q:Addr} {m cap:Nat} {vlo vhi:Value} (hx:getL L x = some (.slice (some q) m cap)) (hl:getL L lo = some vlo) (hh:getL L hi = some vhi) (hv:sliceT P t (.slice (some q) m cap) (some vlo) (some vhi) none h = some v) (w:∀ a,Kn (putL L d v) a → WO P tp rest a h K):∀ a,Kn L a → WO P tp (⟨d,.slice t x (some lo) (some hi) none,ty,none,[],i⟩ :: rest) a h K :=
  fun a k => WO.sl (k.o hx) (k.o hl) (k.o hh) hv (k.nx w)
end
def setN {α:Type} (l:List α) (p:Nat) (g:Nat → α):Nat → List α
  | 0 => l
  | i + 1 => (setN l p g i).set (p + i) (g i)
section
variable {α:Type} {l:List α} {p:Nat} {g:Nat → α}
theorem setN_len:∀ i,(setN l p g i).length = l.length
  | 0 => rfl
  | i + 1 => by show ((setN l p g i).set _ _).length = _; rw [List.length_set,setN_len i]
theorem setN_out {q:Nat}:∀ i,(q < p ∨ p + i ≤ q) → (setN l p g i)[q]? = l[q]?
  | 0,_ => rfl
  | i + 1,h => by
    show ((setN l p g i).set _ _)[q]? = _
    rw [List.getElem?_set_ne (by omega),setN_out i (by omega)]
theorem setN_mem {x:α}:∀ i,x ∈ setN l p g i → x ∈ l ∨ ∃ j,j < i ∧ x = g j
  | 0,h => .inl h
  | i + 1,h => by
    rcases List.mem_or_eq_of_mem_set h with h | h
    · rcases setN_mem i h with h | ⟨j,h1,h2⟩
      · exact .inl h
      · exact .inr ⟨j,by omega,h2⟩
    · exact .inr ⟨i,by omega,h⟩
end
def fillG (a b:Int) (w i:Nat):Int:=rnd (a * ((w:Int) + 1) + (b - a) * ((i:Int) + 1)) ((w:Int) + 1)
theorem Free0.of {n:Nat} {hb h h':TH} (f:Free0 n h) (x:HX hb h) (y:HX hb h'):Free0 n h':=⟨by rw [y.floor,← x.floor]; exact f.floor,by rw [y.lock,← x.lock]; exact f.lock⟩
theorem fillG_in {a b:Int} {w i:Nat} (ha:a.natAbs ≤ 16384) (hb:b.natAbs ≤ 16384) (hw:w ≤ 4096) (hi:i < w):(a * ((w:Int) + 1)).natAbs ≤ 16384 * 4097 ∧ ((b - a) * ((i:Int) + 1)).natAbs ≤ 32768 * 4097:=by
  exact ⟨mul_small ha (by omega),mul_small (by omega) (by omega)⟩
theorem fillG_lim {a b:Int} {w i:Nat} (ha:a.natAbs ≤ 16384) (hb:b.natAbs ≤ 16384) (hi:i < w):(fillG a b w i).natAbs ≤ 16384:=by
  have e:a * ((w:Int) + 1) + (b - a) * ((i:Int) + 1) = a * ((w - i:Nat):Int) + b * ((i + 1:Nat):Int):=by
    obtain ⟨c,rfl⟩:∃ c,w = i + c:=⟨w - i,by omega⟩
    rw [show i + c - i = c by omega,Int.sub_mul,Int.natCast_add,Int.natCast_add,Int.mul_add,Int.mul_add,Int.mul_add,Int.mul_add,Int.mul_add]
    omega
  have h1:(a * ((w - i:Nat):Int)).natAbs ≤ 16384 * (w - i):=mul_small ha (by omega)
  have h2:(b * ((i + 1:Nat):Int)).natAbs ≤ 16384 * (i + 1):=mul_small hb (by omega)
  unfold fillG rnd
  rw [e]
  generalize a * ((w - i:Nat):Int) = u at *
  generalize b * ((i + 1:Nat):Int) = v at *
  have h3:(2 * (u + v) + ((w:Int) + 1)) / (2 * ((w:Int) + 1)) < 16385:=Int.ediv_lt_of_lt_mul (by omega) (by omega)
  have h4:-16384 ≤ (2 * (u + v) + ((w:Int) + 1)) / (2 * ((w:Int) + 1)):=Int.le_ediv_of_mul_le (by omega) (by omega)
  omega
set_option maxHeartbeats 1000000 in
theorem k105 (H:Has tp) {b p w cap:Nat} {D:List (Int × Bool)} {x y:Int} {h hb:TH} (hx:x.natAbs ≤ 16384) (hy:y.natAbs ≤ 16384) (A:At h b (.cells (cat encC D) true true 134)) (hpw:p + w ≤ D.length) (hw:w ≤ 4096) (hcap:w ≤ cap) (X:HX hb h) (f:Free0 hb.next h) (ho:hb.next ≤ b) :
    CallW Tryz.prog tp (.func (.func 105) #[] #[]) #[.slice (some ⟨b,p * 2,none⟩) w cap,zi x,zi y] h fun _ h' => HX hb h' ∧ At h' b (.cells (cat encC (setN D p (fun i => (fillG x y w i,true)) w)) true true 134):=by
  have sl:∀ {g:TH} {E:List (Int × Bool)},At g b (.cells (cat encC E) true true 134) → E.length = D.length → SlC g (.slice (some ⟨b,p * 2,none⟩) w cap) 2 w (((cat encC E).drop (p * 2)).take (w * 2)):=fun {g E} ha he => by
    have hl:(cat encC E).length = E.length * 2:=eC.cat_len E
    exact ⟨_,_,rfl,hcap,by rw [List.length_take,List.length_drop]; omega,.inr ⟨b,p * 2,_,_,_,_,rfl,ha,rfl,by omega⟩⟩
  refine CallW.fnL (H.fn 105 f105 rfl rfl) ?_
  refine WL.sr <| WOL.mv rfl ?_
  refine WOL.len rfl (sl A rfl) u135 ?_
  refine WOL.add rfl rfl (by omega) (by omega) ?_
  refine WOL.as rfl <| WOL.nil <| keep [(0,_),(1,_),(2,_),(6,_)] ⟨rfl,rfl,rfl,rfl,trivial⟩ ?_
  refine WL.sr <| WOL.mv rfl ?_
  refine WOL.len rfl (sl A rfl) u135 ?_
  refine WOL.mv rfl <| WOL.nil <| keep [(0,_),(1,_),(2,_),(6,_),(12,_),(13,_)] ⟨rfl,rfl,rfl,rfl,rfl,rfl,trivial⟩ ?_
  refine WL.block ?_
  refine WL.loop (fun k a h2 => ∃ j:Nat,j ≤ w ∧ k = w - j ∧ HX hb h2 ∧ At h2 b (.cells (cat encC (setN D p (fun i => (fillG x y w i,true)) j)) true true 134) ∧ Kn [(0,.slice (some ⟨b,p * 2,none⟩) w cap),(1,zi x),(2,zi y),(6,zi ((w:Int) + 1)),(12,zi (w:Nat)),(13,zi (j:Nat))] a) w (fun a q => ⟨0,by omega,by omega,X,A,q.sub ⟨rfl,rfl,rfl,rfl,rfl,rfl,trivial⟩⟩) ?_
  rintro k a h2 ⟨j,hj,rfl,X2,A2,q⟩
  refine q.go ?_
  refine WL.sr ?_
  refine WOL.bi (v:=.bool (decide ((j:Int) < w))) rfl rfl rfl ?_
  refine WOL.nil <| keep [(0,_),(1,_),(2,_),(6,_),(12,_),(13,_),(14,_)] ⟨rfl,rfl,rfl,rfl,rfl,rfl,rfl,trivial⟩ ?_
  refine WL.seq ?_
  by_cases hlt:j < w
  · rw [show decide ((j:Int) < (w:Int)) = true by simpa using hlt]
    refine WL.yes rfl <| WL.skip ?_
    obtain ⟨b1,b2⟩:=fillG_in hx hy hw hlt
    have sn:=setN_len (l:=D) (p:=p) (g:=fun i => (fillG x y w i,true)) j
    refine WL.seq ?_
    refine WL.block ?_
    refine WL.sr <| WOL.mv rfl <| WOL.as rfl <| WOL.nil <| keep [(0,_),(1,_),(2,_),(6,_),(7,_),(12,_),(13,_)] ⟨rfl,rfl,rfl,rfl,rfl,rfl,rfl,trivial⟩ ?_
    refine WL.reg <| WOL.mv rfl <| WOL.mv rfl <| WOL.mv rfl <| WOL.mv rfl ?_
    refine WOL.mul rfl rfl (by omega) (by omega) ?_
    refine WOL.mv rfl <| WOL.mv rfl ?_
    refine WOL.sub rfl rfl (by omega) (by omega) ?_
    refine WOL.mv rfl ?_
    refine WOL.add rfl rfl (by omega) (by omega) ?_
    refine WOL.mul rfl rfl (by omega) (by omega) ?_
    refine WOL.add rfl rfl (by omega) (by omega) ?_
    refine WOL.mv rfl ?_
    refine WOL.cl2 rfl rfl rfl ((k103 H (a:=x * ((w:Int) + 1) + (y - x) * ((j:Int) + 1)) (b:=(w:Int) + 1) (by omega) (by omega) (by omega)).mono ?_)
    rintro v h2 ⟨rfl,rfl⟩
    refine WOL.bd rfl bd134 ?_
    refine WOL.ix rfl rfl (indexAddr_tp u135 tp134 hlt) ?_
    refine WOL.sto rfl rfl tp134 A2 rfl rfl (by rw [eC.cat_len,sn]; omega) rfl (f.of X X2) ho fun h3 P3 => ?_
    have A3:=P3.at_
    rw [show p * 2 + j * 2 = (p + j) * 2 by omega,show (Value.agg #[.int .i64 (rnd (x * ((w:Int) + 1) + (y - x) * ((j:Int) + 1)) ((w:Int) + 1)),.bool true]).cells.toList = encC (fillG x y w j,true) from rfl,eC.set (by rw [sn]; omega)] at A3
    refine WOL.nil <| keep [(0,_),(1,_),(2,_),(6,_),(12,_),(13,_)] ⟨rfl,rfl,rfl,rfl,rfl,rfl,trivial⟩ ?_
    refine WL.reg ?_
    refine WOL.add rfl rfl (by omega) (by omega) ?_
    refine WOL.mv rfl <| WOL.nil ?_
    exact fun a q => ⟨w - (j + 1),by omega,j + 1,by omega,rfl,P3.hx _ X2 ho,A3,q.sub ⟨rfl,rfl,rfl,rfl,rfl,rfl,trivial⟩⟩
  · rw [show decide ((j:Int) < (w:Int)) = false by simpa using hlt]
    refine WL.no rfl <| WL.exit ?_
    obtain rfl:j = w:=by omega
    exact WL.endn (vs:=[]) rfl ⟨X2,A2⟩
end Go.Tidy
namespace Go.Tidy
open Go Go.Proofs Tab
variable {tp:TProg}
def fillOn (z:Int) (m:Nat) (p:Int × Int):Bool:=(decide (p.2 - p.1 ≤ z) && decide (p.1 > 0)) && decide (p.2 < m)
def fillS {α:Type} (z:Int) (m:Nat) (g:Int × Int → Nat → α) (D:List α) (p:Int × Int):List α:=cond (fillOn z m p) (setN D p.1.toNat (g p) (p.2 - p.1).toNat) D
theorem fillS_len {α:Type} {z:Int} {m:Nat} {g:Int × Int → Nat → α} {D:List α} {p:Int × Int}:(fillS z m g D p).length = D.length:=by
  unfold fillS
  cases fillOn z m p
  · rfl
  · exact setN_len _
theorem fills_len {α:Type} {z:Int} {m:Nat} {g:Int × Int → Nat → α}:∀ {S:List (Int × Int)} {D:List α},(S.foldl (fillS z m g) D).length = D.length
  | [],_ => rfl
  | p :: S,D => by rw [List.foldl_cons,fills_len,fillS_len]
def fillV (L:List Int) (p:Int × Int) (i:Nat):Int:=fillG (L.getD (p.1 - 1).toNat 0) (L.getD p.2.toNat 0) (p.2 - p.1).toNat i
def fillC (L:List Int) (p:Int × Int) (i:Nat):Int × Bool:=(fillV L p i,true)
theorem getD_lim {L:List Int} (h:∀ x,x ∈ L → x.natAbs ≤ 16384) (i:Nat):(L.getD i 0).natAbs ≤ 16384:=by
  rw [List.getD_eq_getElem?_getD]
  cases hi:L[i]? with
  | none => decide
  | some x => exact h x (List.mem_of_getElem? hi)
theorem fills_lim {L:List Int} (h:∀ x,x ∈ L → x.natAbs ≤ 16384) {z:Int} {m:Nat}:∀ {S:List (Int × Int)} {D:List (Int × Bool)},(∀ c,c ∈ D → c.1.natAbs ≤ 16384) → ∀ c,c ∈ S.foldl (fillS z m (fillC L)) D → c.1.natAbs ≤ 16384
  | [],_,hD => hD
  | p :: S,D,hD => by
    rw [List.foldl_cons]
    refine fills_lim h (fun c hc => ?_)
    unfold fillS at hc
    cases ho:fillOn z m p with
    | false => rw [ho] at hc; exact hD c hc
    | true =>
      rw [ho] at hc
      rcases setN_mem _ hc with hc | ⟨j,hj,rfl⟩
      · exact hD c hc
      · exact fillG_lim (getD_lim h _) (getD_lim h _) hj
theorem Valid.cell {s:ByteArray} {n:Int} {F:List Nat} {S:List (Int × Int)} {L:List Int} (V:Valid s n F S L) {i:Nat} (hi:i < F.length):∃ k,(cellsL L S)[i]? = some (L.getD i 0,k):=by
  have kl:=V.kl
  have ll:=V.lev.1
  have hx:L[i]? = some L[i]:=List.getElem?_eq_getElem (by omega)
  have hp:(knownL S F.length)[i]? = some (knownL S F.length)[i]:=List.getElem?_eq_getElem (by omega)
  have hd:=V.dark.2 i _ hx
  have hg:L.getD i 0 = L[i]:=by rw [List.getD_eq_getElem?_getD,hx]; rfl
  rw [V.cells,cellsK_get hx hp,hg]
  generalize (knownL S F.length)[i] = k at *
  cases k with
  | true => exact ⟨true,rfl⟩
  | false => exact ⟨false,by rw [hd hp]; rfl⟩
set_option maxHeartbeats 2000000 in
set_option maxRecDepth 10000 in
theorem k45 (H:Has tp) (X:HasX tp) {s:ByteArray} {n z:Int} {v1 v2:Value} {F:List Nat} {S:List (Int × Int)} {es L:List Int} {h:TH} (r:RunH h v1 v2 F S) (hE:SErr F es) (hL:firstNZ es = 0 → Lev F L)
    (hF:F.length ≤ 900000) (hS:S.length ≤ 900000) (f:Free0 h.next h) :
    CallW Tryz.prog tp (.func (.func 45) #[] #[]) #[runV s n v1 v2,zi z] h fun v h' => RunR h h' v s n (S.foldl (fillS z F.length (fillC L)) (cellsL L S)) (firstNZ [runE s n F.length S es L,outB z 0 4096]):=by
  obtain ⟨bv1,kv1,rfl⟩:=r.f.form
  obtain ⟨bv2,kv2,rfl⟩:=r.s.form
  refine CallW.fnL (H.fn 45 f45 rfl rfl) ?_
  refine WL.sr <| WOL.box rfl fun h1 N1 => ?_
  refine WOL.al tp52 fun h2 N2 => ?_
  refine WOL.as rfl <| WOL.nil <| keep [(1,_),(2,_),(4,_)] ⟨rfl,rfl,rfl,trivial⟩ ?_
  have n1:=N1.next
  have n2:=N2.next
  have X2:=N1.hx.trans N2.hx
  have A2:=N1.at_.hx N2.hx
  have A4:=N2.at_
  refine WL.seq ?_
  refine WL.sr ?_
  refine WOL.ld rfl (load_row tp52 A2 rfl (Nat.le_of_ble_eq_true rfl)) ?_
  refine WOL.cl1 rfl rfl ((k41 H X (s:=s) (n:=n) (r.hx X2) hE hL (by omega) (by omega) (f.on X2)).mono ?_)
  rintro v h3 ⟨rfl,X3⟩
  refine WOL.mv rfl ?_
  refine WOL.cl3 rfl rfl rfl rfl ((k72 H _ _ _ _).mono ?_)
  rintro v h3 ⟨rfl,rfl⟩
  refine WOL.bsl rfl u166 tp30 (by decide) (by decide) (by decide) (filled_ints _ _) fun h5 N5 => ?_
  refine WOL.cl1 rfl rfl ((k71 H (l:=[_,_]) N5.at_.get (by simp)).mono ?_)
  rintro v h5 ⟨rfl,rfl⟩
  have Z5:=X3.trans N5.hx
  have Y5:=X2.trans Z5
  have z5:=Z5.next
  have B2:=A2.hx Z5
  have B4:=A4.hx Z5
  generalize hEE:firstNZ [runE s n F.length S es L,outB z 0 4096] = E
  refine WOL.as rfl <| WOL.nil <| keep [(1,_),(2,_),(4,_),(6,_)] ⟨rfl,rfl,rfl,rfl,trivial⟩ ?_
  refine WL.sr <| WOL.mv rfl ?_
  refine WOL.bi rfl rfl nzero ?_
  refine WOL.nil <| keep [(1,_),(2,_),(4,_),(6,_),(18,_)] ⟨rfl,rfl,rfl,rfl,rfl,trivial⟩ ?_
  rcases nz_cases E with h0 | h0
  · rw [h0]
    have z0:=firstNZ_zero (hEE.trans h0)
    have V:=valid_of (s:=s) (n:=n) (S:=S) hL (z0 _ (by simp))
    have b1:=outB_zero (z0 (outB z 0 4096) (by simp))
    have Vm:=V.m
    have Vin:=V.in_
    have hcl:(cellsL L S).length = F.length:=cells_len V.lev V.in_
    have lim:=cells_lim V.lev S
    have liml:=lev_lim V.lev
    refine WL.no rfl <| WL.skip ?_
    refine WL.sr ?_
    refine WOL.ld rfl (load_row tp52 B2 rfl (Nat.le_of_ble_eq_true rfl)) ?_
    refine WOL.cl1 rfl rfl ((k85 H (s:=s) (n:=n) (r.hx Y5) V.lev (by omega) (by omega) V.in_ (f.on Y5)).mono ?_)
    rintro v h7 ⟨b7,rfl,o7,A7,X7⟩
    have Y7:=Y5.trans X7
    have cell:=fun i hi => V.cell (i:=i) hi
    have sl7:SlL encC 2 h7 (.slice (some ⟨b7,0,none⟩) F.length F.length) (cellsL L S):=SlL.own eC A7 hcl
    generalize hCC:cellsL L S = C at *
    refine WOL.as rfl <| WOL.nil <| keep [(1,_),(2,_),(4,_),(7,_)] ⟨rfl,rfl,rfl,rfl,trivial⟩ ?_
    refine WL.sr <| WOL.mv rfl ?_
    rw [← hcl] at sl7
    rw [← hcl]
    refine WOL.len rfl sl7 u135 ?_
    refine WOL.ms rfl rfl u135 tp134 (by decide) (by omega) fun h8 N8 => ?_
    have Y8:=Y7.trans N8.hx
    have y7:=Y7.next
    refine WOL.as rfl <| WOL.nil <| keep [(1,_),(2,_),(4,_),(7,_),(8,_)] ⟨rfl,rfl,rfl,rfl,rfl,trivial⟩ ?_
    refine WL.sr <| WOL.mv rfl <| WOL.mv rfl ?_
    obtain ⟨h9,cp,P9⟩:=copy_into (sT:=135) (k:=C.length) u135 tp134 N8.at_ (by rw [List.length_flatten]; simp) (SlC.hx sl7 N8.hx) (eC.all C) (f.hx Y8) y7
    refine WOL.cp rfl rfl cp ?_
    have X9:HX h7 h9:=P9.hx _ N8.hx (Nat.le_refl _)
    have A9:=P9.at_
    have Y9:=Y7.trans X9
    refine WOL.nil <| keep [(1,_),(2,_),(4,_),(7,_),(8,_)] ⟨rfl,rfl,rfl,rfl,rfl,trivial⟩ ?_
    refine WL.seq ?_
    have D2:=(B2.hx X7).hx X9
    refine WL.sr <| WOL.fa rfl (fa_of fo52_3) ?_
    refine WOL.ld rfl (load_one tp44 D2 rfl) ?_
    refine WOL.len rfl (r.s.hx Y9) u44 ?_
    refine WOL.mv rfl <| WOL.nil <| keep [(1,_),(2,_),(4,_),(7,_),(8,_),(30,_),(31,_),(32,_)] ⟨rfl,rfl,rfl,rfl,rfl,rfl,rfl,rfl,trivial⟩ ?_
    refine WL.block ?_
    refine WL.loop (fun q a hh => ∃ j:Nat,j ≤ S.length ∧ q = S.length - j ∧ HX h7 hh ∧ At hh h7.next (.cells (cat encC ((S.take j).foldl (fillS z C.length (fillC L)) C)) true true 134) ∧ Kn [(1,zi z),(2,ptr h.next),(4,ptr h1.next),(7,.slice (some ⟨b7,0,none⟩) C.length C.length),(8,.slice (some ⟨h7.next,0,none⟩) C.length C.length),(30,.slice bv2 S.length kv2),(31,zi S.length),(32,zi (j:Nat))] a) S.length (fun a q => ⟨0,by omega,by omega,X9,A9,q.sub ⟨rfl,rfl,rfl,rfl,rfl,rfl,rfl,rfl,trivial⟩⟩) ?_
    rintro q a hh ⟨j,hj,rfl,Xh,Ah,q⟩
    refine q.go ?_
    have Yh:=Y7.trans Xh
    have xh:=Xh.next
    refine WL.sr ?_
    refine WOL.bi (v:=.bool (decide ((j:Int) < S.length))) rfl rfl rfl ?_
    refine WOL.nil <| keep [(1,_),(2,_),(4,_),(7,_),(8,_),(30,_),(31,_),(32,_),(33,_)] ⟨rfl,rfl,rfl,rfl,rfl,rfl,rfl,rfl,rfl,trivial⟩ ?_
    refine WL.seq ?_
    by_cases hlt:j < S.length
    · rw [show decide ((j:Int) < (S.length:Int)) = true by simpa using hlt]
      refine WL.yes rfl <| WL.skip ?_
      have hS1:S[j]? = some S[j]:=List.getElem?_eq_getElem hlt
      obtain ⟨g1,g2,g3⟩:=Vin S[j] (List.getElem_mem hlt)
      have htk:(S.take (j + 1)).foldl (fillS z C.length (fillC L)) C = fillS z C.length (fillC L) ((S.take j).foldl (fillS z C.length (fillC L)) C) S[j]:=by
        rw [take_succ_get hS1,List.foldl_append]; rfl
      have hfl:=fills_len (z:=z) (m:=C.length) (g:=fillC L) (S:=S.take j) (D:=C)
      generalize S[j] = p at *
      obtain ⟨p1,p2⟩:=p
      obtain ⟨lo,rfl⟩:=Int.eq_ofNat_of_zero_le g1
      obtain ⟨hi,rfl⟩:=Int.eq_ofNat_of_zero_le (Int.le_trans g1 g2)
      have g2':lo ≤ hi:=Int.ofNat_le.1 g2
      have g3':hi ≤ F.length:=Int.ofNat_le.1 g3
      obtain ⟨b4,o,cc,fix,wr,el,e1,e2,e3,e4,e5⟩:=(r.s.hx Yh).at eS u44 tp48 hS1 .i64
      refine WL.seq ?_
      refine WL.block ?_
      refine WL.sr ?_
      refine WOL.ix rfl rfl e1 ?_
      refine WOL.ld rfl (load_row tp48 e2 e4 e3) ?_
      refine WOL.al tp48 fun i1 M1 => ?_
      refine WOL.sto rfl rfl tp48 M1.at_ rfl rfl (Nat.le_of_ble_eq_true rfl) rfl (f.hx (Yh.trans M1.hx)) Yh.next fun g P => ?_
      have Xg:HX h7 g:=P.hx _ (Xh.trans M1.hx) xh
      have Yg:=Y7.trans Xg
      have lth:=Ah.lt
      have Ag:=P.oth _ _ (by omega) (Ah.hx M1.hx)
      have G:At g hh.next (.cells [.int .i64 (lo:Nat),.int .i64 (hi:Nat)] true true 48):=P.at_
      refine WOL.nil <| keep [(1,_),(2,_),(4,_),(7,_),(8,_),(10,_),(30,_),(31,_),(32,_)] ⟨rfl,rfl,rfl,rfl,rfl,rfl,rfl,rfl,rfl,trivial⟩ ?_
      have fin:∀ {Q:Exit → Regs → TH → Prop} g',HX h7 g' → At g' h7.next (.cells (cat encC ((S.take (j + 1)).foldl (fillS z C.length (fillC L)) C)) true true 134) → ∀ a,Kn [(1,zi z),(2,ptr h.next),(4,ptr h1.next),(7,.slice (some ⟨b7,0,none⟩) C.length C.length),(8,.slice (some ⟨h7.next,0,none⟩) C.length C.length),(30,.slice bv2 S.length kv2),(31,zi S.length),(32,zi (j:Nat))] a → W Tryz.prog tp false (.reg r45_12) a g' (andThen (fun a hh => ∃ q',q' < S.length - j ∧ ∃ j:Nat,j ≤ S.length ∧ q' = S.length - j ∧ HX h7 hh ∧ At hh h7.next (.cells (cat encC ((S.take j).foldl (fillS z C.length (fillC L)) C)) true true 134) ∧ Kn [(1,zi z),(2,ptr h.next),(4,ptr h1.next),(7,.slice (some ⟨b7,0,none⟩) C.length C.length),(8,.slice (some ⟨h7.next,0,none⟩) C.length C.length),(30,.slice bv2 S.length kv2),(31,zi S.length),(32,zi (j:Nat))] a) Q):=by
        intro Q g' X' A'
        refine WL.reg ?_
        refine WOL.bi (v:=zi ((j + 1:Nat):Int)) rfl rfl (by show some (Value.int .i64 (fwrap .i64 ((j:Int) + 1))) = _; rw [fwrap_i64 (by omega) (by omega)]; rfl) ?_
        refine WOL.mv rfl <| WOL.nil ?_
        exact fun a q => ⟨S.length - (j + 1),by omega,j + 1,by omega,rfl,X',A',q.sub ⟨rfl,rfl,rfl,rfl,rfl,rfl,rfl,rfl,trivial⟩⟩
      have off:fillOn z C.length ((lo:Int),(hi:Int)) = false → (S.take (j + 1)).foldl (fillS z C.length (fillC L)) C = (S.take j).foldl (fillS z C.length (fillC L)) C:=fun e => by
        rw [htk]; unfold fillS; rw [e]; rfl
      have hon:fillOn z C.length ((lo:Int),(hi:Int)) = ((decide ((hi:Int) - lo ≤ z) && decide ((lo:Int) > 0)) && decide ((hi:Int) < C.length)):=rfl
      refine WL.sr <| WOL.fa rfl (fa_of fo48_1) ?_
      refine WOL.ld rfl (load_one tp3 G rfl) ?_
      refine WOL.fa rfl (fa_of fo48_0) ?_
      refine WOL.ld rfl (load_one tp3 G rfl) ?_
      refine WOL.sub rfl rfl (by omega) (by omega) ?_
      refine WOL.mv rfl ?_
      refine WOL.bi (v:=.bool (decide ((hi:Int) - lo ≤ z))) rfl rfl rfl ?_
      by_cases c1:(hi:Int) - lo ≤ z
      · rw [decide_eq_true c1] at hon ⊢
        refine WOL.mv rfl <| WOL.now (b:=true) rfl rfl <| WOL.fa rfl (fa_of fo48_0) <| WOL.now (b:=true) rfl rfl ?_
        refine WOL.ld rfl (load_one tp3 G rfl) ?_
        refine WOL.now (b:=true) rfl rfl ?_
        refine WOL.bi (v:=.bool (decide ((lo:Int) > 0))) rfl rfl rfl ?_
        refine WOL.pkt rfl rfl ?_
        by_cases c2:(lo:Int) > 0
        · rw [decide_eq_true c2] at hon ⊢
          refine WOL.mv rfl <| WOL.now (b:=true) rfl rfl <| WOL.fa rfl (fa_of fo48_1) <| WOL.now (b:=true) rfl rfl ?_
          refine WOL.ld rfl (load_one tp3 G rfl) ?_
          refine WOL.now (b:=true) rfl rfl <| WOL.mv rfl <| WOL.now (b:=true) rfl rfl ?_
          refine WOL.len rfl (sl7.hx Xg) u135 ?_
          refine WOL.now (b:=true) rfl rfl ?_
          refine WOL.bi (v:=.bool (decide ((hi:Int) < C.length))) rfl rfl rfl ?_
          refine WOL.pkt rfl rfl <| WOL.nil <| keep [(1,_),(2,_),(4,_),(7,_),(8,_),(10,_),(30,_),(31,_),(32,_),(54,_)] ⟨rfl,rfl,rfl,rfl,rfl,rfl,rfl,rfl,rfl,rfl,trivial⟩ ?_
          by_cases c3:(hi:Int) < C.length
          · rw [decide_eq_true c3] at hon ⊢
            have e0:(S.take (j + 1)).foldl (fillS z C.length (fillC L)) C = setN ((S.take j).foldl (fillS z C.length (fillC L)) C) lo (fun i => (fillG (L.getD (lo - 1) 0) (L.getD hi 0) (hi - lo) i,true)) (hi - lo):=by
              rw [htk]
              unfold fillS
              rw [hon]
              show setN _ ((lo:Int)).toNat (fillC L ((lo:Int),(hi:Int))) ((hi:Int) - lo).toNat = _
              have t1:((hi:Int) - lo).toNat = hi - lo:=by omega
              have t2:fillC L ((lo:Int),(hi:Int)) = fun i => (fillG (L.getD (lo - 1) 0) (L.getD hi 0) (hi - lo) i,true):=by
                funext i
                show (fillG (L.getD ((lo:Int) - 1).toNat 0) (L.getD ((hi:Int)).toNat 0) ((hi:Int) - lo).toNat i,true) = _
                rw [t1,show ((lo:Int) - 1).toNat = lo - 1 by omega,Int.toNat_natCast]
              rw [t1,t2,Int.toNat_natCast]
            obtain ⟨ka,ha⟩:=cell (lo - 1) (by omega)
            obtain ⟨kb,hb⟩:=cell hi (by omega)
            obtain ⟨ba,oa,ca,fa,wa,la,p1,p2,p3,p4,p5⟩:=(sl7.hx Xg).at eC u135 tp134 ha .i64
            obtain ⟨bb,ob,cb,fb,wb,lb,q1,q2,q3,q4,q5⟩:=(sl7.hx Xg).at eC u135 tp134 hb .i64
            refine WL.yes rfl ?_
            refine WL.reg <| WOL.mv rfl <| WOL.fa rfl (fa_of fo48_0) ?_
            refine WOL.ld rfl (load_one tp3 G rfl) ?_
            refine WOL.fa rfl (fa_of fo48_1) ?_
            refine WOL.ld rfl (load_one tp3 G rfl) ?_
            refine WOL.sl rfl rfl rfl (sliceT_at u135 tp134 (Nat.le_refl _) g2' (by omega) Ag (.inl rfl)) ?_
            refine WOL.mv rfl <| WOL.fa rfl (fa_of fo48_0) ?_
            refine WOL.ld rfl (load_one tp3 G rfl) ?_
            refine WOL.bi (v:=zi ((lo - 1:Nat):Int)) rfl rfl (by show some (Value.int .i64 (fwrap .i64 ((lo:Int) - 1))) = _; rw [fwrap_i64 (by omega) (by omega)]; congr 2; omega) ?_
            refine WOL.ix rfl rfl p1 ?_
            refine WOL.fa rfl (fa_of fo134_0) ?_
            refine WOL.ld rfl (load_one tp3 p2 (p5 0 (by decide))) ?_
            refine WOL.mv rfl <| WOL.fa rfl (fa_of fo48_1) ?_
            refine WOL.ld rfl (load_one tp3 G rfl) ?_
            refine WOL.ix rfl rfl q1 ?_
            refine WOL.fa rfl (fa_of fo134_0) ?_
            refine WOL.ld rfl (load_one tp3 q2 (q5 0 (by decide))) ?_
            rw [show 0 + lo * 2 = lo * 2 by omega]
            refine WOL.cl3 rfl rfl rfl rfl ((k105 H (p:=lo) (w:=hi - lo) (getD_lim liml (lo - 1)) (getD_lim liml hi) Ag (by rw [hfl]; omega) (by omega) (by omega) Xg ((f.on Y7).hx Xg) (Nat.le_refl _)).mono ?_)
            rintro v g' ⟨X',A'⟩
            refine WOL.nil ?_
            rw [← e0] at A'
            exact kto (fin g' X' A') ⟨rfl,rfl,rfl,rfl,rfl,rfl,rfl,rfl,trivial⟩
          · rw [decide_eq_false c3] at hon ⊢
            refine WL.no rfl <| WL.skip ?_
            rw [← off hon] at Ag
            exact kto (fin g Xg Ag) ⟨rfl,rfl,rfl,rfl,rfl,rfl,rfl,rfl,trivial⟩
        · rw [decide_eq_false c2] at hon ⊢
          refine WOL.mv rfl <| WOL.skp (b:=false) rfl rfl <| WOL.skp (b:=false) rfl rfl <| WOL.skp (b:=false) rfl rfl <| WOL.skp (b:=false) rfl rfl <| WOL.skp (b:=false) rfl rfl <| WOL.pkf rfl rfl <| WOL.nil <| keep [(1,_),(2,_),(4,_),(7,_),(8,_),(10,_),(30,_),(31,_),(32,_),(54,_)] ⟨rfl,rfl,rfl,rfl,rfl,rfl,rfl,rfl,rfl,rfl,trivial⟩ ?_
          refine WL.no rfl <| WL.skip ?_
          rw [← off (by rw [hon]; rfl)] at Ag
          exact kto (fin g Xg Ag) ⟨rfl,rfl,rfl,rfl,rfl,rfl,rfl,rfl,trivial⟩
      · rw [decide_eq_false c1] at hon ⊢
        refine WOL.mv rfl <| WOL.skp (b:=false) rfl rfl <| WOL.skp (b:=false) rfl rfl <| WOL.skp (b:=false) rfl rfl <| WOL.pkf rfl rfl ?_
        refine WOL.mv rfl <| WOL.skp (b:=false) rfl rfl <| WOL.skp (b:=false) rfl rfl <| WOL.skp (b:=false) rfl rfl <| WOL.skp (b:=false) rfl rfl <| WOL.skp (b:=false) rfl rfl <| WOL.pkf rfl rfl <| WOL.nil <| keep [(1,_),(2,_),(4,_),(7,_),(8,_),(10,_),(30,_),(31,_),(32,_),(54,_)] ⟨rfl,rfl,rfl,rfl,rfl,rfl,rfl,rfl,rfl,rfl,trivial⟩ ?_
        refine WL.no rfl <| WL.skip ?_
        rw [← off (by rw [hon]; rfl)] at Ag
        exact kto (fin g Xg Ag) ⟨rfl,rfl,rfl,rfl,rfl,rfl,rfl,rfl,trivial⟩
    · rw [show decide ((j:Int) < (S.length:Int)) = false by simpa using hlt]
      refine WL.no rfl <| WL.exit ?_
      obtain rfl:j = S.length:=by omega
      rw [List.take_length] at Ah
      have hfl:=fills_len (z:=z) (m:=C.length) (g:=fillC L) (S:=S) (D:=C)
      have slR:SlL encC 2 hh (.slice (some ⟨h7.next,0,none⟩) C.length C.length) (S.foldl (fillS z C.length (fillC L)) C):=SlL.own eC Ah hfl
      have E2:=(B2.hx X7).hx Xh
      refine WL.sr <| WOL.fa rfl (fa_of fo52_0) ?_
      refine WOL.ld rfl (load_one tp9 E2 rfl) ?_
      refine WOL.fa rfl (fa_of fo52_1) ?_
      refine WOL.ld rfl (load_one tp3 E2 rfl) ?_
      refine WOL.mv rfl ?_
      refine WOL.cl3 rfl rfl rfl rfl ((k89 H (s:=s) (n:=n) slR (fills_lim liml lim) (by rw [hfl]; omega) (f.on Yh)).mono ?_)
      rintro v h11 ⟨q1,q2,rfl,X11,O11⟩
      have Y11:=Yh.trans X11
      obtain ⟨bo1,k1,rfl⟩:=O11.r.f.form
      obtain ⟨bo2,k2,rfl⟩:=O11.r.s.form
      have yh:=Yh.next
      have x7:=X7.next
      refine WOL.sto rfl rfl tp52 (((B4.hx X7).hx Xh).hx X11) rfl rfl (Nat.le_of_ble_eq_true rfl) rfl (f.hx Y11) (by omega) fun h12 P12 => ?_
      refine WOL.as rfl <| WOL.nil ?_
      exact WL.ret (WL.endC1 (t:=4) (s:=5) rfl rfl (load_row tp52 P12.at_ rfl (Nat.le_of_ble_eq_true rfl)) ⟨P12.hx _ Y11 (by omega),.inr ⟨rfl,_,_,rfl,(O11.away P12 (by omega)).le (by omega)⟩⟩)
  · rw [h0]
    refine WL.yes rfl <| WL.sr <| WOL.bd rfl bd52z <| WOL.mv rfl ?_
    refine WOL.sto rfl rfl tp52 B4 rfl rfl (Nat.le_of_ble_eq_true rfl) rfl (f.hx Y5) (by omega) fun h9 P9 => ?_
    refine WOL.as rfl <| WOL.nil ?_
    exact WL.ret (WL.endC1 (t:=4) (s:=5) rfl rfl (load_row tp52 P9.at_ rfl (Nat.le_of_ble_eq_true rfl)) ⟨P9.hx _ Y5 (by omega),.inl ⟨by simpa using h0,rfl⟩⟩)
end Go.Tidy
namespace Go.Tidy
open Go Go.Proofs Tab
variable {tp:TProg}
theorem holeE_after {m:Nat}:∀ {S:List (Int × Int)} {prev:Int},holeE m prev S = 0 → ∀ p,p ∈ S → prev < p.1
  | [],_,_ => fun p hp => by cases hp
  | x :: r,prev,h => by
    have hlt:=holeE_lt h x (List.mem_cons_self ..)
    rw [holeE_cons] at h
    cases hb:badS m x with
    | true => rw [hb] at h; cases h
    | false =>
      rw [hb] at h
      by_cases hc:x.1 ≤ prev
      · rw [decide_eq_true hc] at h; cases h
      · rw [decide_eq_false hc] at h
        intro p hp
        rcases List.mem_cons.1 hp with rfl | hp
        · omega
        · have:=holeE_after (S:=r) (prev:=x.2) h p hp
          omega
end Go.Tidy
namespace Go.Tidy
open Go Go.Proofs Tab
theorem Samp.e0 {b:Nat} {n:Int} (s:Samp b n):SampleE b 0:=by
  obtain ⟨neg,q,h,h2,_⟩:=s.ok
  obtain ⟨m,k,hr,hq,hk⟩:=h
  obtain ⟨D,hD⟩:∃ D:Nat,2 ^ 149 = D:=⟨_,rfl⟩
  have hDp:0 < D:=by rw [← hD]; exact two_pow_pos 149
  have e1:=h2 D hD
  have hl:=s.lim
  have hU:m * 2 ^ (k + 4) = n.natAbs * D:=by rw [Nat.pow_add,← Nat.mul_assoc,← e1,hq]
  have ok:okU (m * 2 ^ (k + 4)) = true:=by
    rw [okU_eq hD]
    unfold okD
    rw [hU,decide_eq_true (Nat.mul_le_mul_right D hl),Nat.mul_div_cancel _ hDp]
    simp
  rcases single_cases b with h | ⟨s',h⟩ | ⟨neg',m',k',N⟩
  · rw [s.nan] at h; cases h
  · rw [hr] at h; cases h
  · have e:=hr.symm.trans N.read
    injection e with e1 e2 e3
    obtain rfl:k = k':=by omega
    subst e2
    have:=SampleE.num neg' m k N
    rw [ok] at this
    exact this
theorem serr_zero {F:List Nat} {L:List Int} (h:Lev F L):∃ es,SErr F es ∧ firstNZ es = 0:=by
  refine ⟨List.replicate F.length 0,⟨by simp,fun i b e hb he => ?_⟩,?_⟩
  · have hi:i < F.length:=(List.getElem?_eq_some_iff.1 hb).1
    have hiL:i < L.length:=by rw [← h.1]; exact hi
    have hx:L[i]? = some L[i]:=List.getElem?_eq_getElem hiL
    rw [List.getElem?_replicate,if_pos hi] at he
    cases he
    exact (h.2 i b _ hb hx).e0
  · have:∀ k,firstNZ (List.replicate k 0) = 0:=by
      intro k
      induction k with
      | zero => rfl
      | succ k ih => rw [List.replicate_succ]; show cond ((0:Int) != 0) 0 _ = 0; exact ih
    exact this _
def endOf (prev:Int):List (Int × Int) → Int
  | [] => prev
  | p :: r => endOf p.2 r
theorem endOf_snoc (p:Int × Int):∀ (S:List (Int × Int)) (prev:Int),endOf prev (S ++ [p]) = p.2
  | [],_ => rfl
  | x :: r,prev => endOf_snoc p r x.2
theorem endOf_le {i:Int}:∀ (S:List (Int × Int)) (prev:Int),prev ≤ i → (∀ p,p ∈ S → p.2 ≤ i) → endOf prev S ≤ i
  | [],_,h,_ => h
  | x :: r,prev,_,h => endOf_le r x.2 (h x (List.mem_cons_self ..)) fun p hp => h p (List.mem_cons_of_mem _ hp)
theorem holeE_snoc {m:Nat} (p:Int × Int):∀ (S:List (Int × Int)) (prev:Int),holeE m prev (S ++ [p]) = 0 ↔ holeE m prev S = 0 ∧ badS m p = false ∧ endOf prev S < p.1
  | [], prev => by
    show holeE m prev [p] = 0 ↔ _
    rw [holeE_cons]
    cases hb:badS m p with
    | true => simp
    | false =>
      by_cases hc:p.1 ≤ prev
      · rw [decide_eq_true hc]
        simp only [Bool.cond_false,Bool.cond_true,endOf]
        constructor
        · intro h; cases h
        · rintro ⟨_,_,h⟩; omega
      · rw [decide_eq_false hc]
        simp only [Bool.cond_false,endOf]
        exact ⟨fun _ => ⟨by trivial,by trivial,by omega⟩,fun _ => by trivial⟩
  | x :: r,prev => by
    show holeE m prev (x :: (r ++ [p])) = 0 ↔ _
    rw [holeE_cons,holeE_cons]
    cases hb:badS m x with
    | true => simp
    | false =>
      by_cases hc:x.1 ≤ prev
      · rw [decide_eq_true hc]; simp
      · rw [decide_eq_false hc]
        exact holeE_snoc p r x.2
theorem badS_no {m:Nat} {p:Int × Int}:badS m p = false ↔ 0 ≤ p.1 ∧ p.1 < p.2 ∧ p.2 ≤ m:=by
  unfold badS
  simp only [Bool.or_eq_false_iff,decide_eq_false_iff_not]
  omega
structure HoleI (B:List Bool) (i:Nat) (S:List (Int × Int)):Prop where
  h0:holeE B.length (-1) S = 0
  hi:∀ p,p ∈ S → p.2 ≤ (i:Int)
  hk:∀ x:Nat,x < i → S.any (inS x) = !B.getD x false
  ho:0 < i ∧ B.getD (i - 1) false = false → ∃ T a,S = T ++ [((a:Int),(i:Int))]
  hc:¬ (0 < i ∧ B.getD (i - 1) false = false) → endOf (-1) S < (i:Int)
theorem inS_past {S:List (Int × Int)} {i:Nat} (h:∀ p,p ∈ S → p.2 ≤ (i:Int)):S.any (inS i) = false:=by
  rw [List.any_eq_false]
  intro p hp
  have:=h p hp
  unfold inS
  rw [decide_eq_false (by omega:¬ (i:Int) < p.2),Bool.and_false]
  decide
theorem holeI (B:List Bool):∀ i,i ≤ B.length → HoleI B i (holesN B i)
  | 0,_ => ⟨rfl,fun p hp => (by cases hp),fun x hx => by omega,fun h => by omega,fun _ => (by show (-1:Int) < 0; decide)⟩
  | i + 1,hle => by
    obtain ⟨h0,hi,hk,ho,hc⟩:=holeI B i (by omega)
    show HoleI B (i + 1) (hstep B (holesN B i) i)
    generalize holesN B i = S at *
    have sub1:i + 1 - 1 = i:=by omega
    unfold hstep
    by_cases hb:B.getD i false = true
    · rw [if_pos hb]
      refine ⟨h0,fun p hp => by have:=hi p hp; omega,fun x hx => ?_,fun h => ?_,fun _ => ?_⟩
      · by_cases hxi:x < i
        · exact hk x hxi
        · obtain rfl:x = i:=by omega
          rw [inS_past hi,hb]; rfl
      · rw [sub1,hb] at h; cases h.2
      · have:=endOf_le S (-1) (show (-1:Int) ≤ (i:Int) by omega) hi
        omega
    · have hb':B.getD i false = false:=by simpa using hb
      rw [if_neg hb]
      by_cases hp:0 < i ∧ B.getD (i - 1) false = false
      · rw [if_pos hp]
        obtain ⟨T,a,rfl⟩:=ho hp
        obtain ⟨t0,t1,t2⟩:=(holeE_snoc _ T (-1)).1 h0
        have t1':=badS_no.1 t1
        have hS:(T ++ [(a,(i:Int))]).set ((T ++ [(a,(i:Int))]).length - 1) (((T ++ [(a,(i:Int))]).getD ((T ++ [(a,(i:Int))]).length - 1) (0,0)).1,(i:Int) + 1) = T ++ [(a,((i + 1:Nat):Int))]:=by
          simp
        rw [hS]
        refine ⟨(holeE_snoc _ T (-1)).2 ⟨t0,badS_no.2 ⟨t1'.1,?_,?_⟩,t2⟩,fun p hp => ?_,fun x hx => ?_,fun _ => ⟨T,a,rfl⟩,fun h => ?_⟩
        · have:a < (i:Int):=t1'.2.1
          show a < ((i + 1:Nat):Int)
          omega
        · show ((i + 1:Nat):Int) ≤ _
          omega
        · rcases List.mem_append.1 hp with hp | hp
          · have:=hi p (List.mem_append_left _ hp); omega
          · simp at hp; subst hp; exact Int.le_refl _
        · have ha:a < (i:Int):=t1'.2.1
          by_cases hxi:x < i
          · rw [← hk x hxi,List.any_append,List.any_append]
            congr 1
            simp only [List.any_cons,List.any_nil,Bool.or_false,inS]
            congr 1
            rw [decide_eq_true (by omega:(x:Int) < ((i + 1:Nat):Int)),decide_eq_true (by omega:(x:Int) < (i:Int))]
          · obtain rfl:x = i:=by omega
            rw [hb',List.any_append]
            simp only [List.any_cons,List.any_nil,Bool.or_false,inS]
            rw [decide_eq_true (by omega:(x:Int) ≥ a),decide_eq_true (by omega:(x:Int) < ((x + 1:Nat):Int))]
            simp
        · rw [sub1] at h
          exact absurd ⟨by omega,hb'⟩ h
      · rw [if_neg hp]
        have hc':=hc hp
        refine ⟨(holeE_snoc _ S (-1)).2 ⟨h0,badS_no.2 ⟨by show (0:Int) ≤ (i:Int); omega,by show (i:Int) < (i:Int) + 1; omega,by show (i:Int) + 1 ≤ _; omega⟩,hc'⟩,fun p hp => ?_,fun x hx => ?_,fun _ => ⟨S,(i:Int),rfl⟩,fun h => ?_⟩
        · rcases List.mem_append.1 hp with hp | hp
          · have:=hi p hp; omega
          · simp at hp; subst hp; show (i:Int) + 1 ≤ _; omega
        · rw [List.any_append]
          by_cases hxi:x < i
          · rw [← hk x hxi]
            simp only [List.any_cons,List.any_nil,Bool.or_false,inS]
            rw [decide_eq_false (by omega:¬ (x:Int) ≥ (i:Int))]
            simp
          · obtain rfl:x = i:=by omega
            rw [hb']
            simp only [List.any_cons,List.any_nil,Bool.or_false,inS]
            rw [decide_eq_true (by omega:(x:Int) ≥ (x:Int)),decide_eq_true (by omega:(x:Int) < (x:Int) + 1)]
            simp
        · rw [sub1] at h
          exact absurd ⟨by omega,hb'⟩ h
theorem known_holes (B:List Bool):knownL (holesOf B) B.length = B:=by
  have H:=holeI B B.length (Nat.le_refl _)
  apply List.ext_getElem?
  intro x
  by_cases hx:x < B.length
  · unfold knownL
    rw [List.getElem?_map,List.getElem?_range hx]
    show some (knownB (holesOf B) x) = _
    unfold knownB
    rw [show (holesOf B).any (inS x) = !B.getD x false from H.hk x hx,Bool.not_not,List.getD_eq_getElem?_getD,List.getElem?_eq_getElem hx]
    rfl
  · rw [List.getElem?_eq_none (by rw [knownL_len]; omega),List.getElem?_eq_none (by omega)]
theorem holes_ok (B:List Bool):holeE B.length (-1) (holesOf B) = 0:=(holeI B B.length (Nat.le_refl _)).h0
def DarkC (C:List (Int × Bool)):Prop:=∀ c,c ∈ C → c.2 = false → c.1 = 0
theorem made_run {s:ByteArray} {n:Int} {C:List (Int × Bool)} (hd:headE s n C.length = 0) (hn:n + C.length ≤ 100000000) (lim:∀ c,c ∈ C → c.1.natAbs ≤ 16384) (dk:DarkC C) :
    ∃ es,SErr (C.map fun c => smp c.1) es ∧ Lev (C.map fun c => smp c.1) (C.map fun c => c.1) ∧ runE s n (C.map fun c => smp c.1).length (holesOf (C.map fun c => c.2)) es (C.map fun c => c.1) = 0 ∧ Valid s n (C.map fun c => smp c.1) (holesOf (C.map fun c => c.2)) (C.map fun c => c.1) ∧ cellsL (C.map fun c => c.1) (holesOf (C.map fun c => c.2)) = C:=by
  have hL:=lev_smp lim
  obtain ⟨es,hE,h0⟩:=serr_zero hL
  have hlen:(C.map fun c => smp c.1).length = C.length:=by simp
  have hlen2:(C.map fun c => c.2).length = C.length:=by simp
  have ho:holeE C.length (-1) (holesOf (C.map fun c => c.2)) = 0:=by have:=holes_ok (C.map fun c => c.2); rwa [hlen2] at this
  have hK:knownL (holesOf (C.map fun c => c.2)) C.length = C.map fun c => c.2:=by have:=known_holes (C.map fun c => c.2); rwa [hlen2] at this
  have hin:=holeE_in ho
  have hform:(holesOf (C.map fun c => c.2)).any (anyIn (C.map fun c => c.1)) = false:=by
    cases hb:(holesOf (C.map fun c => c.2)).any (anyIn (C.map fun c => c.1)) with
    | false => rfl
    | true =>
      obtain ⟨j,x,hj,hx,hk⟩:=(form_iff hin).1 hb
      rw [List.getElem?_map] at hj
      cases hc:C[j]? with
      | none => rw [hc] at hj; cases hj
      | some c =>
        have hjl:j < C.length:=(List.getElem?_eq_some_iff.1 hc).1
        have hkj:(knownL (holesOf (C.map fun c => c.2)) C.length)[j]? = some (knownB (holesOf (C.map fun c => c.2)) j):=by
          unfold knownL
          rw [List.getElem?_map,List.getElem?_range hjl]; rfl
        rw [hK,List.getElem?_map,hc,hk] at hkj
        rw [hc] at hj
        exact absurd ((Option.some.inj hj).symm.trans (dk c (List.mem_of_getElem? hc) (Option.some.inj hkj))) hx
  obtain ⟨_,n0,n1,hm⟩:=headE_zero hd
  have hr:runE s n (C.map fun c => smp c.1).length (holesOf (C.map fun c => c.2)) es (C.map fun c => c.1) = 0:=by
    unfold runE tailE formE
    rw [hlen,hd,h0,ho,hform,decide_eq_false (by omega)]
    rfl
  refine ⟨es,hE,hL,hr,valid_of (fun _ => hL) hr,?_⟩
  rw [cells_eq hL (by rw [hlen]; exact hin),hlen,hK]
  apply List.ext_getElem?
  intro i
  cases hc:C[i]? with
  | none =>
    have:C.length ≤ i:=List.getElem?_eq_none_iff.1 hc
    rw [List.getElem?_eq_none (by rw [cellsK_ln (by simp)]; simp; omega)]
  | some c =>
    rw [cellsK_get (x:=c.1) (p:=c.2) (by rw [List.getElem?_map,hc]; rfl) (by rw [List.getElem?_map,hc]; rfl)]
    obtain ⟨x,k⟩:=c
    cases k with
    | true => rfl
    | false =>
      have h1:x = 0:=dk _ (List.mem_of_getElem? hc) rfl
      subst h1; rfl
theorem Valid.darkC {s:ByteArray} {n:Int} {F:List Nat} {S:List (Int × Int)} {L:List Int} (V:Valid s n F S L):DarkC (cellsL L S):=by
  rw [V.cells]
  intro c hc hk
  obtain ⟨i,hi,e⟩:=List.getElem_of_mem hc
  have kl:=V.kl
  rw [cellsK_ln kl] at hi
  have hx:L[i]? = some L[i]:=List.getElem?_eq_getElem hi
  have hp:(knownL S F.length)[i]? = some (knownL S F.length)[i]:=List.getElem?_eq_getElem (by omega)
  have hg:=cellsK_get hx hp
  rw [List.getElem?_eq_getElem (by rw [cellsK_ln kl]; exact hi),e] at hg
  have:=Option.some.inj hg
  cases hb:(knownL S F.length)[i] with
  | true => rw [hb] at this; rw [this] at hk; cases hk
  | false => rw [hb] at this; rw [this]; rfl
end Go.Tidy
namespace Go.Tidy
open Go Go.Proofs Tab
theorem known_no {S:List (Int × Int)} {x:Int}:knownB S x = false ↔ ∃ p,p ∈ S ∧ p.1 ≤ x ∧ x < p.2:=by
  unfold knownB
  rw [Bool.not_eq_false',List.any_eq_true]
  constructor
  · rintro ⟨p,hp,h⟩
    unfold inS at h
    simp only [Bool.and_eq_true,decide_eq_true_eq] at h
    exact ⟨p,hp,h.1,h.2⟩
  · rintro ⟨p,hp,h1,h2⟩
    refine ⟨p,hp,?_⟩
    unfold inS
    rw [decide_eq_true h1,decide_eq_true h2]; rfl
theorem holeE_tail {m:Nat} {prev:Int} {p:Int × Int} {r:List (Int × Int)} (h:holeE m prev (p :: r) = 0):badS m p = false ∧ prev < p.1 ∧ holeE m p.2 r = 0:=by
  rw [holeE_cons] at h
  cases hb:badS m p with
  | true => rw [hb] at h; cases h
  | false =>
    rw [hb] at h
    by_cases hc:p.1 ≤ prev
    · rw [decide_eq_true hc] at h; cases h
    · rw [decide_eq_false hc] at h
      exact ⟨rfl,by omega,h⟩
theorem known_tail {p:Int × Int} {r:List (Int × Int)} {x:Int} (hx:p.2 ≤ x):knownB (p :: r) x = knownB r x:=by
  unfold knownB
  rw [List.any_cons]
  unfold inS
  rw [decide_eq_false (by omega:¬ x < p.2),Bool.and_false,Bool.false_or]
theorem holes_first {m:Nat} {prev:Int} {p:Int × Int} {r:List (Int × Int)} (h:holeE m prev (p :: r) = 0) {x:Int} (hx:knownB (p :: r) x = false):p.1 ≤ x:=by
  obtain ⟨q,hq,h1,_⟩:=known_no.1 hx
  obtain ⟨b,_,t⟩:=holeE_tail h
  have:=badS_no.1 b
  rcases List.mem_cons.1 hq with rfl | hq
  · exact h1
  · have:=holeE_after t q hq
    omega
theorem holes_end {m:Nat} {prev:Int} {p:Int × Int} {r:List (Int × Int)} (h:holeE m prev (p :: r) = 0):knownB (p :: r) p.2 = true:=by
  cases hb:knownB (p :: r) p.2 with
  | true => rfl
  | false =>
    rw [known_tail (Int.le_refl _)] at hb
    obtain ⟨q,hq,h1,_⟩:=known_no.1 hb
    have:=holeE_after (holeE_tail h).2.2 q hq
    omega
theorem holes_uniq {m:Nat}:∀ {S T:List (Int × Int)} {prev:Int},-1 ≤ prev → holeE m prev S = 0 → holeE m prev T = 0 → (∀ x:Nat,prev < (x:Int) → knownB S x = knownB T x) → S = T
  | [],[],_,_,_,_,_ => rfl
  | [],q :: t,prev,h0,_,hT,h => by
    obtain ⟨b,a,_⟩:=holeE_tail hT
    have b':=badS_no.1 b
    obtain ⟨x,hx⟩:=Int.eq_ofNat_of_zero_le b'.1
    have h1:=h x (by omega)
    rw [show knownB (q :: t) (x:Int) = false from known_no.2 ⟨q,List.mem_cons_self ..,by omega,by omega⟩] at h1
    cases h1
  | p :: r,[],prev,h0,hS,_,h => by
    obtain ⟨b,a,_⟩:=holeE_tail hS
    have b':=badS_no.1 b
    obtain ⟨x,hx⟩:=Int.eq_ofNat_of_zero_le b'.1
    have h1:=h x (by omega)
    rw [show knownB (p :: r) (x:Int) = false from known_no.2 ⟨p,List.mem_cons_self ..,by omega,by omega⟩] at h1
    cases h1
  | p :: r,q :: t,prev,h0,hS,hT,h => by
    obtain ⟨b,a,tS⟩:=holeE_tail hS
    obtain ⟨c,d,tT⟩:=holeE_tail hT
    have b':=badS_no.1 b
    have c':=badS_no.1 c
    obtain ⟨p1,p2⟩:=p
    obtain ⟨q1,q2⟩:=q
    simp only at b' c' a d
    obtain ⟨x,rfl⟩:=Int.eq_ofNat_of_zero_le b'.1
    obtain ⟨y,rfl⟩:=Int.eq_ofNat_of_zero_le c'.1
    obtain ⟨u,rfl⟩:=Int.eq_ofNat_of_zero_le (show 0 ≤ p2 by omega)
    obtain ⟨v,rfl⟩:=Int.eq_ofNat_of_zero_le (show 0 ≤ q2 by omega)
    have e1:(y:Int) ≤ x:=holes_first hT (x:=(x:Int)) (by rw [← h x a]; exact known_no.2 ⟨_,List.mem_cons_self ..,Int.le_refl _,b'.2.1⟩)
    have e2:(x:Int) ≤ y:=holes_first hS (x:=(y:Int)) (by rw [h y d]; exact known_no.2 ⟨_,List.mem_cons_self ..,Int.le_refl _,c'.2.1⟩)
    obtain rfl:x = y:=by omega
    have f1:¬ (u:Int) < v:=fun hl => by
      have:=h u (by omega)
      rw [show knownB (((x:Int),(u:Int)) :: r) (u:Int) = true from holes_end hS,show knownB (((x:Int),(v:Int)) :: t) (u:Int) = false from known_no.2 ⟨_,List.mem_cons_self ..,by show (x:Int) ≤ u; omega,hl⟩] at this
      cases this
    have f2:¬ (v:Int) < u:=fun hl => by
      have:=h v (by omega)
      rw [show knownB (((x:Int),(v:Int)) :: t) (v:Int) = true from holes_end hT,show knownB (((x:Int),(u:Int)) :: r) (v:Int) = false from known_no.2 ⟨_,List.mem_cons_self ..,by show (x:Int) ≤ v; omega,hl⟩] at this
      cases this
    obtain rfl:u = v:=by omega
    congr 1
    refine holes_uniq (prev:=(u:Int)) (by omega) tS tT fun z hz => ?_
    have:=h z (by omega)
    rwa [known_tail (by show (u:Int) ≤ z; omega),known_tail (by show (u:Int) ≤ z; omega)] at this
theorem known_past {m:Nat} {S:List (Int × Int)} (hin:In m S) {x:Int} (hx:(m:Int) ≤ x):knownB S x = true:=by
  cases hb:knownB S x with
  | true => rfl
  | false =>
    obtain ⟨p,hp,h1,h2⟩:=known_no.1 hb
    have:=(hin p hp).2.2
    omega
theorem knownL_get {S:List (Int × Int)} {m i:Nat} (hi:i < m):(knownL S m)[i]? = some (knownB S i):=by
  unfold knownL
  rw [List.getElem?_map,List.getElem?_range hi]; rfl
theorem holesOf_get {K:List Bool} {i:Nat} (hi:i < K.length):K[i]? = some (knownB (holesOf K) i):=by
  have:=knownL_get (S:=holesOf K) hi
  rwa [known_holes] at this
theorem holes_back {m:Nat} {S:List (Int × Int)} (h:holeE m (-1) S = 0):holesOf (knownL S m) = S:=by
  have hl:=knownL_len S m
  have h2:=holes_ok (knownL S m)
  rw [hl] at h2
  refine holes_uniq (Int.le_refl _) h2 h fun x _ => ?_
  by_cases hx:x < m
  · have e1:=holesOf_get (K:=knownL S m) (i:=x) (by omega)
    rw [knownL_get hx] at e1
    exact (Option.some.inj e1).symm
  · rw [known_past (holeE_in h2) (by omega),known_past (holeE_in h) (by omega)]
def mirP (m:Nat) (p:Int × Int):Int × Int:=((m:Int) - p.2,(m:Int) - p.1)
def mirS (m:Nat) (S:List (Int × Int)):List (Int × Int):=(S.map (mirP m)).reverse
theorem mirS_cons {m:Nat} {p:Int × Int} {r:List (Int × Int)}:mirS m (p :: r) = mirS m r ++ [mirP m p]:=by simp [mirS]
theorem mir_ok {m:Nat}:∀ {S:List (Int × Int)} {prev:Int},prev ≤ m → holeE m prev S = 0 → holeE m (-1) (mirS m S) = 0 ∧ endOf (-1) (mirS m S) < (m:Int) - prev
  | [],prev,h,_ => ⟨rfl,by show (-1:Int) < _; omega⟩
  | p :: r,prev,h,hS => by
    obtain ⟨b,a,t⟩:=holeE_tail hS
    have b':=badS_no.1 b
    obtain ⟨i1,i2⟩:=mir_ok (S:=r) (prev:=p.2) b'.2.2 t
    rw [mirS_cons,endOf_snoc]
    exact ⟨(holeE_snoc _ _ _).2 ⟨i1,badS_no.2 ⟨by show 0 ≤ (m:Int) - p.2; omega,by show (m:Int) - p.2 < (m:Int) - p.1; omega,by show (m:Int) - p.1 ≤ m; omega⟩,i2⟩,by show (m:Int) - p.1 < _; omega⟩
theorem known_mir {m:Nat} {S:List (Int × Int)} {x:Int}:knownB (mirS m S) x = knownB S ((m:Int) - 1 - x):=by
  have key:knownB (mirS m S) x = false ↔ knownB S ((m:Int) - 1 - x) = false:=by
    rw [known_no,known_no]
    unfold mirS
    constructor
    · rintro ⟨q,hq,h1,h2⟩
      rw [List.mem_reverse,List.mem_map] at hq
      obtain ⟨p,hp,rfl⟩:=hq
      have h1:(m:Int) - p.2 ≤ x:=h1
      have h2:x < (m:Int) - p.1:=h2
      exact ⟨p,hp,by omega,by omega⟩
    · rintro ⟨p,hp,h1,h2⟩
      refine ⟨mirP m p,by rw [List.mem_reverse,List.mem_map]; exact ⟨p,hp,rfl⟩,?_,?_⟩
      · show (m:Int) - p.2 ≤ x; omega
      · show x < (m:Int) - p.1; omega
  cases h1:knownB (mirS m S) x <;> cases h2:knownB S ((m:Int) - 1 - x) <;> simp_all
theorem holes_mir (K:List Bool):holesOf K.reverse = mirS K.length (holesOf K):=by
  have h1:=holes_ok K.reverse
  rw [List.length_reverse] at h1
  have h2:=holes_ok K
  have h3:=(mir_ok (prev:=-1) (by omega) h2).1
  refine holes_uniq (Int.le_refl _) h1 h3 fun x _ => ?_
  by_cases hx:x < K.length
  · have e1:=holesOf_get (K:=K.reverse) (i:=x) (by simpa using hx)
    rw [List.getElem?_reverse hx,holesOf_get (K:=K) (i:=K.length - 1 - x) (by omega)] at e1
    rw [known_mir,← Option.some.inj e1]
    congr 1
    omega
  · rw [known_past (holeE_in h1) (by omega),known_past (holeE_in h3) (by omega)]
theorem setN_in {α:Type} {l:List α} {p:Nat} {g:Nat → α} {q:Nat} (h1:p ≤ q) (h3:q < l.length):∀ w,q < p + w → (setN l p g w)[q]? = some (g (q - p))
  | 0,h => by omega
  | w + 1,h => by
    show ((setN l p g w).set _ _)[q]? = _
    by_cases hq:q = p + w
    · subst hq
      rw [List.getElem?_set_self (by rw [setN_len]; exact h3)]
      congr 2; omega
    · rw [List.getElem?_set_ne (by omega),setN_in h1 h3 w (by omega)]
theorem fills_known {α:Type} {z:Int} {m:Nat} {g:Int × Int → Nat → α} {i:Nat}:∀ {S:List (Int × Int)} {D:List α},In m S → knownB S i = true → (S.foldl (fillS z m g) D)[i]? = D[i]?
  | [],_,_,_ => rfl
  | p :: S,D,hin,hk => by
    have hp:=hin p (List.mem_cons_self ..)
    have hk':knownB S i = true:=by
      unfold knownB at hk ⊢
      rw [List.any_cons] at hk
      simp only [Bool.not_eq_true',Bool.or_eq_false_iff] at hk ⊢
      exact hk.2
    have hni:¬ (p.1 ≤ (i:Int) ∧ (i:Int) < p.2):=fun h => by
      rw [show knownB (p :: S) (i:Int) = false from known_no.2 ⟨p,List.mem_cons_self ..,h.1,h.2⟩] at hk
      cases hk
    rw [List.foldl_cons,fills_known (fun q hq => hin q (List.mem_cons_of_mem _ hq)) hk']
    unfold fillS
    cases fillOn z m p with
    | false => rfl
    | true => exact setN_out _ (by omega)
theorem fills_in {α:Type} {z:Int} {m:Nat} {g:Int × Int → Nat → α} {i:Nat} {p:Int × Int} (h1:p.1 ≤ (i:Int)) (h2:(i:Int) < p.2):∀ {S:List (Int × Int)} {D:List α} {prev:Int},D.length = m → holeE m prev S = 0 → p ∈ S → (S.foldl (fillS z m g) D)[i]? = cond (fillOn z m p) (some (g p (i - p.1.toNat))) D[i]?
  | [],_,_,_,_,h => by cases h
  | x :: S,D,prev,hD,hS,hp => by
    obtain ⟨b,a,t⟩:=holeE_tail hS
    have b':=badS_no.1 b
    have hin:=holeE_in t
    rw [List.foldl_cons]
    rcases List.mem_cons.1 hp with rfl | hp
    · have hk:knownB S i = true:=by
        cases hb:knownB S i with
        | true => rfl
        | false =>
          obtain ⟨q,hq,g1,_⟩:=known_no.1 hb
          have:=holeE_after t q hq
          omega
      rw [fills_known hin hk]
      unfold fillS
      cases fillOn z m p with
      | false => rfl
      | true => exact setN_in (by omega) (by omega) _ (by omega)
    · have ha:=holeE_after t p hp
      rw [fills_in h1 h2 (by rw [fillS_len]; exact hD) t hp]
      congr 1
      unfold fillS
      cases fillOn z m x with
      | false => rfl
      | true => exact setN_out _ (.inr (by omega))
end Go.Tidy
namespace Go.Tidy
open Go Go.Proofs Tab
variable {tp:TProg}
theorem Val.hx {s:ByteArray} {n:Int} {v1 v2:Value} {F:List Nat} {S:List (Int × Int)} {es L:List Int} {p1 p2:Int} {h hm g g':TH} {c3 c5 c12 c14 c18 c28 c29 c30:Nat} {sx:ByteArray} {nx:Int} {x1 x2:Value} {sy:ByteArray} {ny:Int} {y1 y2:Value} {ec ma mb:Int} {n1:Nat} {w1 w2:Value}
    (M:Val s n v1 v2 F S es L p1 p2 h hm g c3 c5 c12 c14 c18 c28 c29 c30 sx nx x1 x2 sy ny y1 y2 ec ma mb n1 w1 w2) (x:HX g g'):Val s n v1 v2 F S es L p1 p2 h hm g' c3 c5 c12 c14 c18 c28 c29 c30 sx nx x1 x2 sy ny y1 y2 ec ma mb n1 w1 w2 :=
  { M with x1_:=M.x1_.trans x,b28:=M.b28.hx x,b29:=M.b29.hx x,ro:=M.ro.hx x,b30:=M.b30.hx x }
end Go.Tidy
namespace Go.Tidy
open Go Go.Proofs Tab
variable {tp:TProg}
theorem short_small {s:ByteArray} {m k:Nat} (h:shortB s m k = true):m ≤ 4097 ∧ k ≤ 12:=by
  simp only [shortB,Bool.and_eq_true,Bool.or_eq_true,decide_eq_true_eq,beq_iff_eq] at h
  omega
end Go.Tidy
namespace Go.Tidy
open Go Go.Proofs Tab
variable {tp:TProg}
theorem JoinR.out {h h':TH} {v:Value} {s:ByteArray} {n:Int} {Z:List Int} {Y:List Bool} {e:Int} (r:JoinR h h' v s n Z Y e):∃ sz nz bo1 l1 k1 bo2 l2 k2,v = .tuple #[runV sz nz (.slice bo1 l1 k1) (.slice bo2 l2 k2),.int .i64 e] ∧ HX h h' ∧ (e ≠ 0 → (Value.slice bo1 l1 k1 = .slice none 0 0 ∧ Value.slice bo2 l2 k2 = .slice none 0 0)) ∧ (e = 0 → (sz = s ∧ nz = n) ∧ RunO h.next h' (.slice bo1 l1 k1) (.slice bo2 l2 k2) (madeF Z Y) (holesOf Y)):=by
  obtain ⟨X,⟨he,rfl⟩ | ⟨rfl,w1,w2,rfl,O⟩⟩:=r
  · exact ⟨_,_,_,_,_,_,_,_,rfl,X,fun _ => ⟨rfl,rfl⟩,fun h => absurd h he⟩
  · obtain ⟨bo1,k1,rfl⟩:=O.r.f.form
    obtain ⟨bo2,k2,rfl⟩:=O.r.s.form
    exact ⟨_,_,_,_,_,_,_,_,rfl,X,fun h => absurd rfl h,fun _ => ⟨⟨rfl,rfl⟩,O⟩⟩
theorem SumR.out {h h':TH} {v:Value} {s:ByteArray} {n:Int} {Z:List Int} {Y:List Bool} {sh:Bool} (hY:sh = true → Y.length = Z.length) (r:SumR h h' v s n Z Y sh):JoinR h h' v s n Z Y (cond (!sh) 2 (cond (allOk (cellsK Z Y)) 0 4)):=by
  obtain ⟨X,⟨rfl,rfl⟩ | ⟨rfl,no,rfl⟩ | ⟨rfl,ok,w1,w2,rfl,O⟩⟩:=r
  · exact ⟨X,.inl ⟨by simp,rfl⟩⟩
  · have:allOk (cellsK Z Y) = false:=by
      cases hb:allOk (cellsK Z Y) with
      | false => rfl
      | true => exact absurd ((ok_cells (hY rfl)).1 hb) no
    rw [this]
    exact ⟨X,.inl ⟨by decide,rfl⟩⟩
  · rw [(ok_cells (hY rfl)).2 ok]
    exact ⟨X,.inr ⟨rfl,w1,w2,rfl,O⟩⟩
end Go.Tidy
namespace Go.Tidy
open Go Go.Proofs Tab
variable {tp:TProg}
structure Cel (s:ByteArray) (n:Int) (F:List Nat) (es:List Int) (C:List (Int × Bool)):Prop where
  len:F.length = C.length
  e:SErr F es
  lev:Lev F (C.map fun c => c.1)
  r:runE s n F.length (holesOf (C.map fun c => c.2)) es (C.map fun c => c.1) = 0
  v:Valid s n F (holesOf (C.map fun c => c.2)) (C.map fun c => c.1)
  c:cellsL (C.map fun c => c.1) (holesOf (C.map fun c => c.2)) = C
def RunC (s:ByteArray) (n:Int) (h:TH) (v1 v2:Value) (C:List (Int × Bool)):Prop:=∃ F es,RunH h v1 v2 F (holesOf (C.map fun c => c.2)) ∧ Cel s n F es C
theorem RunC.hx {s:ByteArray} {n:Int} {h h':TH} {v1 v2:Value} {C:List (Int × Bool)} (r:RunC s n h v1 v2 C) (x:HX h h'):RunC s n h' v1 v2 C:=by
  obtain ⟨F,es,r,c⟩:=r
  exact ⟨F,es,r.hx x,c⟩
section
variable {s:ByteArray} {n:Int} {F:List Nat} {es L:List Int} {S:List (Int × Int)} {C:List (Int × Bool)}
theorem Cel.m (c:Cel s n F es C):C.length ≤ 4096:=by have:=c.v.m; rw [c.len] at this; exact this
theorem Cel.lim (c:Cel s n F es C):∀ x,x ∈ C → x.1.natAbs ≤ 16384:=by have:=c.v.lim; rwa [c.c] at this
theorem Cel.dk (c:Cel s n F es C):DarkC C:=by have:=c.v.darkC; rwa [c.c] at this
theorem Cel.holes (_:Cel s n F es C):(holesOf (C.map fun c => c.2)).length ≤ C.length:=by
  have:=holesN_len (C.map fun c => c.2) (C.map fun c => c.2).length
  show (holesN _ _).length ≤ _
  rwa [List.length_map] at this ⊢
theorem Cel.head (c:Cel s n F es C):headE s n C.length = 0:=by
  have:=c.r
  unfold runE at this
  rw [c.len] at this
  rcases nz_cases (headE s n C.length) with h | h
  · exact h
  · rw [h] at this; rw [show headE s n C.length = 0 from this] at h; cases h
theorem Cel.top (c:Cel s n F es C):n + C.length ≤ 100000000:=by have:=c.v.n1; rw [c.len] at this; exact this
theorem Valid.back (V:Valid s n F S L):((cellsL L S).map fun c => c.1) = L ∧ holesOf ((cellsL L S).map fun c => c.2) = S:=by
  have kl:=V.kl
  have ll:=V.lev.1
  constructor
  · apply List.ext_getElem?
    intro i
    rw [List.getElem?_map]
    by_cases hi:i < F.length
    · obtain ⟨k,hk⟩:=V.cell hi
      rw [hk,List.getElem?_eq_getElem (by omega:i < L.length)]
      simp [List.getD_eq_getElem?_getD,List.getElem?_eq_getElem (by omega:i < L.length)]
    · rw [List.getElem?_eq_none (by rw [cells_len V.lev V.in_]; omega),List.getElem?_eq_none (by omega)]
      rfl
  · rw [V.cells,cellsK_snd kl,holes_back V.hole]
theorem Cel.of (V:Valid s n F S L) (hE:SErr F es) (h0:runE s n F.length S es L = 0):Cel s n F es (cellsL L S):=by
  obtain ⟨b1,b2⟩:=V.back
  refine ⟨(cells_len V.lev V.in_).symm,hE,by rw [b1]; exact V.lev,by rw [b1,b2]; exact h0,by rw [b1,b2]; exact V,by rw [b1,b2]⟩
theorem Cel.made (hd:headE s n C.length = 0) (hn:n + C.length ≤ 100000000) (lim:∀ c,c ∈ C → c.1.natAbs ≤ 16384) (dk:DarkC C):∃ es,Cel s n (C.map fun c => smp c.1) es C:=by
  obtain ⟨es,e1,e2,e3,e4,e5⟩:=made_run hd hn lim dk
  exact ⟨es,by simp,e1,e2,e3,e4,e5⟩
theorem RunO.cel {B:Nat} {h:TH} {w1 w2:Value} (o:RunO B h w1 w2 (C.map fun c => smp c.1) (holesOf (C.map fun c => c.2))) (hd:headE s n C.length = 0) (hn:n + C.length ≤ 100000000) (lim:∀ c,c ∈ C → c.1.natAbs ≤ 16384) (dk:DarkC C):RunC s n h w1 w2 C:=by
  obtain ⟨es,c⟩:=Cel.made hd hn lim dk
  exact ⟨_,es,o.r,c⟩
end
section
variable {s:ByteArray} {n:Int} {h:TH} {v1 v2 w1 w2:Value} {C D:List (Int × Bool)}
def NewC (s:ByteArray) (n:Int) (C:List (Int × Bool)) (h:TH) (v:Value) (h':TH):Prop :=
  ∃ bo1 l1 k1 bo2 l2 k2,v = .tuple #[runV s n (.slice bo1 l1 k1) (.slice bo2 l2 k2),.int .i64 0] ∧ HX h h' ∧ RunC s n h' (.slice bo1 l1 k1) (.slice bo2 l2 k2) C ∧ Above h.next (.slice bo1 l1 k1) ∧ Above h.next (.slice bo2 l2 k2)
theorem RunR.new {h':TH} {v:Value} (r:RunR h h' v s n C 0) (hd:headE s n C.length = 0) (hn:n + C.length ≤ 100000000) (lim:∀ c,c ∈ C → c.1.natAbs ≤ 16384) (dk:DarkC C):NewC s n C h v h':=by
  obtain ⟨X,⟨he,_⟩ | ⟨_,w1,w2,rfl,O⟩⟩:=r
  · exact absurd rfl he
  · obtain ⟨bo1,k1,rfl⟩:=O.r.f.form
    obtain ⟨bo2,k2,rfl⟩:=O.r.s.form
    exact ⟨_,_,_,_,_,_,rfl,X,O.cel hd hn lim dk,O.o1,O.o2⟩
theorem c31 (H:Has tp) (r:RunC s n h v1 v2 C):CallW Tryz.prog tp (.func (.func 31) #[] #[]) #[runV s n v1 v2] h fun v h' => v = .int .i64 0 ∧ HX h h':=by
  obtain ⟨F,es,r,c⟩:=r
  have m:=c.m
  have l:=c.len
  have q:=c.holes
  refine (k31 H r c.e (fun _ => c.lev) (by omega) (by omega)).mono ?_
  rintro v h' ⟨rfl,x⟩
  rw [c.r]
  exact ⟨rfl,x⟩
theorem c25 (H:Has tp) (r:RunC s n h v1 v2 C) (f:Free0 h.next h):CallW Tryz.prog tp (.func (.func 25) #[] #[]) #[runV s n v1 v2] h fun v h' => ∃ w1 w2,v = runV s n w1 w2 ∧ HX h h' ∧ RunC s n h' w1 w2 C:=by
  obtain ⟨F,es,r,c⟩:=r
  have m:=c.m
  have l:=c.len
  have q:=c.holes
  refine (k25 H r (by omega) (by omega) f).mono ?_
  rintro v h' ⟨w1,w2,rfl,x,o⟩
  exact ⟨w1,w2,rfl,x,F,es,o.r,c⟩
theorem c28 (H:Has tp) (X:HasX tp) (r:RunC s n h v1 v2 C) (f:Free0 h.next h):CallW Tryz.prog tp (.func (.func 28) #[] #[]) #[runV s n v1 v2] h fun v h' => NewC s n C.reverse h v h':=by
  obtain ⟨F,es,r,c⟩:=r
  have m:=c.m
  have l:=c.len
  have q:=c.holes
  refine (k28 H X r c.e (fun _ => c.lev) (by omega) (by omega) f).mono ?_
  intro v h' R
  rw [c.r,c.c] at R
  exact R.new (by rw [List.length_reverse]; exact c.head) (by rw [List.length_reverse]; exact c.top) (fun x hx => c.lim x (List.mem_reverse.1 hx)) (fun x hx => c.dk x (List.mem_reverse.1 hx))
theorem c57 (H:Has tp) (r:RunC s n h v1 v2 C) (r':RunC s n h w1 w2 C):CallW Tryz.prog tp (.func (.func 57) #[] #[]) #[runV s n v1 v2,runV s n w1 w2] h fun v h' => v = .bool true ∧ HX h h':=by
  obtain ⟨F,es,r,c⟩:=r
  obtain ⟨F',es',r',c'⟩:=r'
  have m:=c.m
  have l:=c.len
  have q:=c.holes
  exact k57 H r.f r'.f c.lev c'.lev r.s r'.s (by omega) (by omega)
theorem c24 (H:Has tp) (X:HasX tp) {place:Int} (r:RunC s n h v1 v2 C) (h1:n ≤ place) (h2:place < n + C.length) (f:Free0 h.next h):CallW Tryz.prog tp (.func (.func 24) #[] #[]) #[runV s n v1 v2,.int .i64 place] h fun v h' => v = .tuple #[.float .f32 (smp (C.getD (place - n).toNat (0,false)).1),.bool (C.getD (place - n).toNat (0,false)).2,.int .i64 0] ∧ HX h h':=by
  obtain ⟨F,es,r,c⟩:=r
  have m:=c.m
  have l:=c.len
  have q:=c.holes
  refine (k24 H X r c.e (fun _ => c.lev) (by omega) (by omega) f).mono ?_
  rintro v h' ⟨rfl,x⟩
  refine ⟨?_,x⟩
  unfold atV
  rw [c.r,c.c,decide_eq_false (by omega),decide_eq_false (by rw [l]; omega)]
  rfl
theorem c29 (H:Has tp) (X:HasX tp) (r:RunC s n h v1 v2 C) (f:Free0 h.next h):CallW Tryz.prog tp (.func (.func 29) #[] #[]) #[runV s n v1 v2] h fun v h' => v = .tuple #[.int .i64 (sqL (knownV C)),.int .i64 0] ∧ HX h h':=by
  obtain ⟨F,es,r,c⟩:=r
  have m:=c.m
  have l:=c.len
  have q:=c.holes
  refine (k29 H X r c.e (fun _ => c.lev) (by omega) (by omega) f).mono ?_
  rintro v h' ⟨rfl,x⟩
  rw [c.r,c.c]
  exact ⟨rfl,x⟩
theorem c26 (H:Has tp) (X:HasX tp) (r:RunC s n h v1 v2 C) (f:Free0 h.next h):CallW Tryz.prog tp (.func (.func 26) #[] #[]) #[runV s n v1 v2] h fun v h' => v = .tuple #[.int .i64 ((knownV C).length:Int),.int .i64 0] ∧ HX h h':=by
  obtain ⟨F,es,r,c⟩:=r
  have m:=c.m
  have l:=c.len
  have q:=c.holes
  refine (k26 H X r c.e (fun _ => c.lev) (by omega) (by omega) f).mono ?_
  rintro v h' ⟨rfl,x⟩
  rw [c.r,c.c]
  exact ⟨rfl,x⟩
def meanT (sum:Int) (k:Nat):Value:=cond (k == 0) (.tuple #[ratio0,.int .i64 7]) (.tuple #[meanR sum k,.int .i64 0])
theorem c30 (H:Has tp) (X:HasX tp) (r:RunC s n h v1 v2 C) (f:Free0 h.next h):CallW Tryz.prog tp (.func (.func 30) #[] #[]) #[runV s n v1 v2] h fun v h' => v = meanT (sumL (knownV C)) (knownV C).length ∧ HX h h':=by
  obtain ⟨F,es,r,c⟩:=r
  have m:=c.m
  have l:=c.len
  have q:=c.holes
  refine (k30 H X r c.e (fun _ => c.lev) (by omega) (by omega) f).mono ?_
  rintro v h' ⟨rfl,x⟩
  rw [c.r,c.c]
  exact ⟨rfl,x⟩
def filC (z:Int) (C:List (Int × Bool)):List (Int × Bool):=(holesOf (C.map fun c => c.2)).foldl (fillS z C.length (fillC (C.map fun c => c.1))) C
theorem setN_dark {D:List (Int × Bool)} {p:Nat} {g:Nat → Int} (h:DarkC D) (w:Nat):DarkC (setN D p (fun i => (g i,true)) w):=fun c hc hk => by
  rcases setN_mem w hc with hc | ⟨j,_,rfl⟩
  · exact h c hc hk
  · cases hk
theorem fills_dark {L:List Int} {z:Int} {m:Nat}:∀ {S:List (Int × Int)} {D:List (Int × Bool)},DarkC D → DarkC (S.foldl (fillS z m (fillC L)) D)
  | [],_,h => h
  | p :: S,D,h => by
    rw [List.foldl_cons]
    refine fills_dark ?_
    unfold fillS
    cases fillOn z m p with
    | false => exact h
    | true => exact setN_dark h _
theorem c45 (H:Has tp) (X:HasX tp) {z:Int} (hz:0 ≤ z) (hz2:z ≤ 4096) (r:RunC s n h v1 v2 C) (f:Free0 h.next h):CallW Tryz.prog tp (.func (.func 45) #[] #[]) #[runV s n v1 v2,.int .i64 z] h fun v h' => NewC s n (filC z C) h v h':=by
  obtain ⟨F,es,r,c⟩:=r
  have m:=c.m
  have l:=c.len
  have q:=c.holes
  refine (k45 H X r c.e (fun _ => c.lev) (by omega) (by omega) f).mono ?_
  intro v h' R
  have ho:outB z 0 4096 = 0:=by unfold outB; rw [decide_eq_false (by omega),decide_eq_false (by omega)]; rfl
  rw [c.r,c.c,ho,l] at R
  have hl:(filC z C).length = C.length:=fills_len
  exact R.new (by rw [fills_len]; exact c.head) (by rw [fills_len]; exact c.top) (fills_lim (lev_lim c.lev) c.lim) (fills_dark c.dk)
theorem scC_dark {m d:Int} (hd:0 < d) (h:DarkC C):DarkC (scC m d C):=fun c hc hk => by
  unfold scC at hc
  obtain ⟨x,hx,rfl⟩:=List.mem_map.1 hc
  have:=h x hx hk
  show rnd (x.1 * m) d = 0
  rw [this,Int.zero_mul,rnd_zero hd]
theorem c43 (H:Has tp) (X:HasX tp) {m d:Int} (hm:outB m (-1000) 1000 = 0) (hd:outB d 1 1000 = 0) (r:RunC s n h v1 v2 C) (f:Free0 h.next h):CallW Tryz.prog tp (.func (.func 43) #[] #[]) #[runV s n v1 v2,.int .i64 m,.int .i64 d] h fun v h' =>
    (allOk (scC m d C) = false ∧ v = .tuple #[run0,.int .i64 4] ∧ HX h h') ∨ (allOk (scC m d C) = true ∧ NewC s n (scC m d C) h v h'):=by
  obtain ⟨F,es,r,c⟩:=r
  have mm:=c.m
  have l:=c.len
  have q:=c.holes
  have d1:=outB_zero hd
  refine (k43 H X r c.e (fun _ => c.lev) (by omega) (by omega) f).mono ?_
  intro v h' R
  rw [c.r,c.c,hm,hd] at R
  cases hb:allOk (scC m d C) with
  | false =>
    left
    have he:scErr (firstNZ [0,0,0]) (scC m d C) = 4:=by unfold scErr; rw [hb]; rfl
    rw [he] at R
    obtain ⟨x,⟨_,rfl⟩ | ⟨e,_⟩⟩:=R
    · exact ⟨rfl,rfl,x⟩
    · cases e
  | true =>
    right
    have he:scErr (firstNZ [0,0,0]) (scC m d C) = 0:=by unfold scErr; rw [hb]; rfl
    rw [he] at R
    exact ⟨rfl,R.new (by rw [scC_ok]; exact c.head) (by rw [scC_ok]; exact c.top) (allOk_iff.1 hb) (scC_dark (by omega) c.dk)⟩
end
end Go.Tidy
namespace Go.Tidy
open Go Go.Proofs Tab
variable {tp:TProg}
theorem fillG_rev {a b:Int} {w j:Nat} (h:j < w):fillG b a w (w - 1 - j) = fillG a b w j:=by
  obtain ⟨k,rfl⟩:∃ k,w = j + k + 1:=⟨w - 1 - j,by omega⟩
  unfold fillG
  congr 1
  rw [show j + k + 1 - 1 - j = k by omega]
  simp only [Int.natCast_add,Int.mul_add,Int.sub_mul,Int.natCast_one,Int.mul_one]
  omega
theorem fillOn_mir {z:Int} {m:Nat} {p:Int × Int}:fillOn z m (mirP m p) = fillOn z m p:=by
  unfold fillOn mirP
  simp only
  rw [show (m:Int) - p.1 - ((m:Int) - p.2) = p.2 - p.1 by omega]
  rw [show decide ((m:Int) - p.2 > 0) = decide (p.2 < (m:Int)) from decide_eq_decide.2 (by omega),show decide ((m:Int) - p.1 < (m:Int)) = decide (p.1 > 0) from decide_eq_decide.2 (by omega)]
  cases decide (p.2 - p.1 ≤ z) <;> cases decide (p.1 > 0) <;> cases decide (p.2 < (m:Int)) <;> rfl
theorem getD_rev {L:List Int} {i:Nat} (h:i < L.length):L.reverse.getD i 0 = L.getD (L.length - 1 - i) 0:=by
  rw [List.getD_eq_getElem?_getD,List.getD_eq_getElem?_getD,List.getElem?_reverse h]
theorem filC_len {z:Int} {C:List (Int × Bool)}:(filC z C).length = C.length:=fills_len
theorem filC_rev (z:Int) (C:List (Int × Bool)):filC z C.reverse = (filC z C).reverse:=by
  have hS:=holes_ok (C.map fun c => c.2)
  have hM:=holes_mir (C.map fun c => c.2)
  rw [List.length_map] at hS hM
  apply List.ext_getElem?
  intro i
  by_cases hi:i < C.length
  · rw [List.getElem?_reverse (by rw [filC_len]; exact hi),filC_len]
    unfold filC
    rw [List.map_reverse,List.map_reverse,hM,List.length_reverse]
    have hT:=(mir_ok (prev:=-1) (by omega) hS).1
    generalize holesOf (C.map fun c => c.2) = S at *
    have hc:((C.length - 1 - i:Nat):Int) = (C.length:Int) - 1 - i:=by omega
    cases hk:knownB S ((C.length:Int) - 1 - i) with
    | true =>
      rw [fills_known (holeE_in hT) (by rw [known_mir]; exact hk),fills_known (holeE_in hS) (by rw [hc]; exact hk),List.getElem?_reverse hi]
    | false =>
      obtain ⟨p,hp,h1,h2⟩:=known_no.1 hk
      have hpm:mirP C.length p ∈ mirS C.length S:=by unfold mirS; rw [List.mem_reverse,List.mem_map]; exact ⟨p,hp,rfl⟩
      have hin:=holeE_in hS p hp
      rw [fills_in (p:=mirP C.length p) (by show (C.length:Int) - p.2 ≤ i; omega) (by show (i:Int) < (C.length:Int) - p.1; omega) (by simp) hT hpm,fills_in (p:=p) (by omega) (by omega) rfl hS hp,fillOn_mir,List.getElem?_reverse hi]
      cases ho:fillOn z C.length p with
      | false => rfl
      | true =>
        show some (fillC _ _ _) = some (fillC _ _ _)
        congr 1
        unfold fillC
        congr 1
        unfold fillOn at ho
        simp only [Bool.and_eq_true,decide_eq_true_eq] at ho
        obtain ⟨p1,p2⟩:=p
        obtain ⟨lo,rfl⟩:=Int.eq_ofNat_of_zero_le hin.1
        obtain ⟨hi',rfl⟩:=Int.eq_ofNat_of_zero_le (Int.le_trans hin.1 hin.2.1)
        simp only at h1 h2 ho
        unfold fillV mirP
        simp only
        rw [show ((C.length:Int) - (lo:Int) - ((C.length:Int) - (hi':Int))).toNat = hi' - lo by omega,show ((hi':Int) - (lo:Int)).toNat = hi' - lo by omega]
        rw [show ((C.length:Int) - (hi':Int) - 1).toNat = C.length - 1 - hi' by omega,show ((C.length:Int) - (lo:Int)).toNat = C.length - lo by omega,show ((lo:Int) - 1).toNat = lo - 1 by omega,Int.toNat_natCast,Int.toNat_natCast]
        have hl:(C.map fun c => c.1).length = C.length:=by simp
        rw [getD_rev (by rw [hl]; omega),getD_rev (by rw [hl]; omega),hl]
        rw [show C.length - 1 - (C.length - 1 - hi') = hi' by omega,show C.length - 1 - (C.length - lo) = lo - 1 by omega]
        rw [show ((C.length:Int) - (hi':Int)).toNat = C.length - hi' by omega]
        have:=fillG_rev (a:=(C.map fun c => c.1).getD (lo - 1) 0) (b:=(C.map fun c => c.1).getD hi' 0) (w:=hi' - lo) (j:=C.length - 1 - i - lo) (by omega)
        rw [← this]
        congr 1
        omega
  · rw [List.getElem?_eq_none (by rw [filC_len,List.length_reverse]; omega),List.getElem?_eq_none (by rw [List.length_reverse,filC_len]; omega)]
theorem scC_rev (m d:Int) (C:List (Int × Bool)):scC m d C.reverse = (scC m d C).reverse:=by unfold scC; rw [List.map_reverse]
theorem allOk_rev (C:List (Int × Bool)):allOk C.reverse = allOk C:=by
  cases h:allOk C with
  | true => exact allOk_iff.2 fun c hc => allOk_iff.1 h c (List.mem_reverse.1 hc)
  | false =>
    cases h':allOk C.reverse with
    | false => rfl
    | true =>
      have:allOk C = true:=allOk_iff.2 fun c hc => allOk_iff.1 h' c (List.mem_reverse.2 hc)
      rw [h] at this; cases this
theorem knownV_rev (C:List (Int × Bool)):knownV C.reverse = (knownV C).reverse:=by unfold knownV; rw [List.filter_reverse,List.map_reverse]
theorem sumL_rev:∀ l:List Int,sumL l.reverse = sumL l
  | [] => rfl
  | x :: l => by
    rw [List.reverse_cons,sumL_append,sumL_rev l]
    show sumL l + (x + 0) = x + sumL l
    omega
theorem sqL_rev (l:List Int):sqL l.reverse = sqL l:=by unfold sqL; rw [List.map_reverse,sumL_rev]
theorem getD_revC {C:List (Int × Bool)} {i:Nat} {d:Int × Bool} (h:i < C.length):C.reverse.getD (C.length - 1 - i) d = C.getD i d:=by
  rw [List.getD_eq_getElem?_getD,List.getD_eq_getElem?_getD,List.getElem?_reverse (by omega)]
  congr 2
  omega
theorem u91:Tryz.prog.underlying 91 = some (.int .i8):=by kernel_rfl
theorem u92:Tryz.prog.underlying 92 = some (.array 3 91):=by kernel_rfl
theorem tp91:Tp Tryz.prog 91 1 [.int .i8 0] false:=tp_of (by kernel_rfl) (by kernel_rfl) rfl
theorem ixB0 {c:Nat}:indexAddrT Tryz.prog 92 (.pointer (some ⟨c,0,none⟩)) (.int .i64 0) = some (.pointer (some ⟨c,0,none⟩)):=by kernel_rfl
theorem ixB1 {c:Nat}:indexAddrT Tryz.prog 92 (.pointer (some ⟨c,0,none⟩)) (.int .i64 1) = some (.pointer (some ⟨c,1,none⟩)):=by kernel_rfl
theorem ixB2 {c:Nat}:indexAddrT Tryz.prog 92 (.pointer (some ⟨c,0,none⟩)) (.int .i64 2) = some (.pointer (some ⟨c,2,none⟩)):=by kernel_rfl
theorem WOL.conv8 {P:Program} {tp:TProg} {h:TH} {K:Regs → TH → Prop} {rest:List TOper} {d:Option Tmp} {ty:TypeId} {i:Nat} {x:Operand} {L:Rg} {s t:TypeId} {ds:TypeDesc} {k:IntKind} {n:Int} (hs:P.underlying s = some ds) (ht:P.underlying t = some (.int .i64)) (hx:getL L x = some (.int k n)) (h1:-128 ≤ n) (h2:n ≤ 127) (w:∀ a,Kn (putL L d (.int .i64 n)) a → WO P tp rest a h K):∀ a,Kn L a → WO P tp (⟨d,.convert s t x,ty,none,[],i⟩ :: rest) a h K:=fun a q => by
  refine WO.conv (q.o hx) rfl (conv_i2i hs ht) rfl ?_
  rw [show IntKind.i64.wrap n = n from IntWalk.i64_in _ (by omega)]
  exact w _ (q.put d _)
theorem WOL.remt {P:Program} {tp:TProg} {h:TH} {K:Regs → TH → Prop} {rest:List TOper} {d:Option Tmp} {ty:TypeId} {i:Nat} {x y:Operand} {t u:TypeId} {L:Rg} {m n:Int} (hx:getL L x = some (.int .i64 m)) (hy:getL L y = some (.int .i64 n)) (hn:n ≠ 0) (w:∀ a,Kn (putL L d (.int .i64 (m.tmod n))) a → WO P tp rest a h K):∀ a,Kn L a → WO P tp (⟨d,.binOp .rem t x y u,ty,none,[],i⟩ :: rest) a h K:=fun a k => WO.remI (k.o hx) (k.o hy) hn (w _ (k.put d _))
theorem tmod_in {x n:Int} (hn:0 < n):-n < x.tmod n ∧ x.tmod n < n:=by
  have h1:=Int.tmod_lt_of_pos x hn
  have h2:=Int.lt_tmod_of_pos x hn
  omega
end Go.Tidy
namespace Go.Tidy
open Go Go.Proofs Tab
variable {tp:TProg}
theorem lev_some (F:List Nat):∃ es L,SErr F es ∧ (firstNZ es = 0 → Lev F L):=by
  obtain ⟨es,hE⟩:=serr_ex F
  by_cases h0:firstNZ es = 0
  · obtain ⟨L,hL⟩:=lev_ex F es hE (firstNZ_zero h0)
    exact ⟨es,L,hE,fun _ => hL⟩
  · exact ⟨es,[],hE,fun h => absurd h h0⟩
attribute [local irreducible] Ty valOf
end Go.Tidy
namespace Go.Tidy
open Go Go.Proofs Tab
variable {tp:TProg}
section
variable {P:Program} {h:TH} {K:Regs → TH → Prop} {rest:List TOper} {d:Option Tmp} {ty:TypeId} {i:Nat} {x y:Operand} {t u:TypeId} {L:Rg}
theorem WO.neb {a:Regs} {b c:Bool} (hu:P.underlying t = some .bool) (hx:getO a x = some (.bool b)) (hy:getO a y = some (.bool c)) (w:WO P tp rest (a.put d (.bool (b != c))) h K):WO P tp (⟨d,.binOp .neq t x y u,ty,none,[],i⟩ :: rest) a h K:=by
  have ex:=getO_eval hx
  have ey:=getO_eval hy
  refine WO.plainly rfl rfl rfl (by simp [fastOp,fastBin,ex,ey]) (by simp [valueOp,ex,ey,eqT_bool]) (plainOp_of (by rfl) (fun q hq => ?_) ?_ rfl) w
  · simp only [Op.operands] at hq
    simp at hq
    rcases hq with rfl | rfl
    · rw [ex]; rfl
    · rw [ey]; rfl
  · show pv P (execOp a.eval ⟨d, .binOp .neq t x y u, ty, "", #[], none⟩) = _
    simp [execOp,pv_bind,pv_map,pv_pure,ex,ey,eqGuard,binOp,pv_eqb hu]
    cases b <;> cases c <;> rfl
theorem WOL.neb {b c:Bool} (hu:P.underlying t = some .bool) (hx:getL L x = some (.bool b)) (hy:getL L y = some (.bool c)) (w:∀ a,Kn (putL L d (.bool (b != c))) a → WO P tp rest a h K):∀ a,Kn L a → WO P tp (⟨d,.binOp .neq t x y u,ty,none,[],i⟩ :: rest) a h K:=fun a k => WO.neb hu (k.o hx) (k.o hy) (w _ (k.put d _))
theorem WOL.fne {b c:Nat} {m n:Int} (s:Samp b m) (s':Samp c n) (hx:getL L x = some (.float .f32 b)) (hy:getL L y = some (.float .f32 c)) (w:∀ a,Kn (putL L d (.bool (!decide (m = n)))) a → WO P tp rest a h K):∀ a,Kn L a → WO P tp (⟨d,.binOp .neq t x y u,ty,none,[],i⟩ :: rest) a h K:=fun a k => WO.fcmp (k.o hx) (k.o hy) s.nan s'.nan (s.cmp s').2 (w _ (k.put d _))
end
theorem meanT_form (sum:Int) (k:Nat):∃ x y z,meanT sum k = .tuple #[.agg #[.int .i64 x,.int .i64 y],.int .i64 z]:=by
  unfold meanT
  cases k == 0
  · exact ⟨_,_,_,rfl⟩
  · exact ⟨_,_,_,rfl⟩
def r8z:TCode:=(.seq (.reg r8_32) (.seq (.reg r8_33) (.seq (.reg r8_34) (.seq (.reg r8_35) (.seq (.reg r8_36) (.seq (.reg r8_37) (.seq (.reg r8_38) .ret)))))))
def r8y:TCode:=(.seq (.seq (.reg r8_26) (.cond (.tmp 222) (.seq (.reg r8_27) .ret) .skip)) (.seq (.seq (.reg r8_28) (.cond (.tmp 224) (.seq (.reg r8_29) (.seq (.reg r8_30) (.cond (.tmp 238) (.seq (.reg r8_31) .ret) .skip))) .skip)) r8z))
def r8x:TCode:=(.seq (.reg r8_17) (.seq (.reg r8_18) (.seq (.reg r8_19) (.seq (.seq (.reg r8_20) (.cond (.tmp 176) (.seq (.reg r8_21) .ret) .skip)) (.seq (.reg r8_22) (.seq (.reg r8_23) (.seq (.reg r8_24) (.seq (.reg r8_25) r8y))))))))
def r8w:TCode:=(.seq (.seq (.reg r8_9) (.block 0 (.loop (.seq (.reg r8_10) (.seq (.cond (.tmp 92) .skip (.exit 0)) (.seq (.block 1 (.seq (.reg r8_11) (.seq (.reg r8_12) (.seq (.reg r8_13) (.seq (.reg r8_14) (.cond (.tmp 144) (.seq (.reg r8_15) .ret) .skip)))))) (.reg r8_16))))))) r8x)
def r8v:TCode:=(.seq (.reg r8_3) (.seq (.seq (.reg r8_4) (.cond (.tmp 73) (.seq (.reg r8_5) .ret) .skip)) (.seq (.reg r8_6) (.seq (.seq (.reg r8_7) (.cond (.tmp 87) (.seq (.reg r8_8) .ret) .skip)) r8w))))
theorem c8_eq:c8 = .seq (.reg r8_0) (.seq (.seq (.reg r8_1) (.cond (.tmp 50) (.seq (.reg r8_2) .ret) .skip)) r8v):=rfl
section
variable {s:ByteArray} {n:Int} {g:TH} {v1 v2 p1 p2:Value} {C:List (Int × Bool)} {c2 c3 c5':Nat}
set_option maxHeartbeats 2000000 in
set_option maxRecDepth 100000 in
theorem k8z (H:Has tp) (X:HasX tp) (A:Awk tp) (f:Free0 g.next g) (A2:At g c2 (.cells (runV s n v1 v2).cells.toList true true 46)) (A5:At g c5' (.cells (runV s n p1 p2).cells.toList true true 52)) (r:RunC s n g v1 v2 C) (r':RunC s n g p1 p2 C.reverse) :
    ∀ a,Kn [(2,ptr c2),(5,ptr c5')] a → W Tryz.prog tp false r8z a g (Fin Tryz.prog [.tmp 4] fun v _ => v = .bool true):=by
  obtain ⟨mx,my,mz,hm⟩:=meanT_form (sumL (knownV C)) (knownV C).length
  refine WL.sr ?_
  refine WOL.ld rfl (load_row tp46 A2 rfl (Nat.le_of_ble_eq_true rfl)) ?_
  refine WOL.cl1 rfl rfl ((c25 H r f).mono ?_)
  rintro v h1 ⟨w1,w2,rfl,X1,R1⟩
  refine WOL.cl1 rfl rfl ((c29 H X R1 (f.on X1)).mono ?_)
  rintro v h2 ⟨rfl,X2⟩
  have Y2:=X1.trans X2
  refine WOL.mv rfl <| WOL.ex rfl rfl <| WOL.ex rfl rfl <| WOL.as rfl <| WOL.as rfl <| WOL.nil <| keep [(2,_),(5,_),(31,_),(32,_)] ⟨rfl,rfl,rfl,rfl,trivial⟩ ?_
  refine WL.sr ?_
  refine WOL.ld rfl (load_row tp52 (A5.hx Y2) rfl (Nat.le_of_ble_eq_true rfl)) ?_
  refine WOL.cl1 rfl rfl ((c25 H (r'.hx Y2) (f.on Y2)).mono ?_)
  rintro v h3 ⟨w1,w2,rfl,X3,R3⟩
  have Y3:=Y2.trans X3
  refine WOL.cl1 rfl rfl ((c29 H X R3 (f.on Y3)).mono ?_)
  rintro v h4 ⟨rfl,X4⟩
  have Y4:=Y3.trans X4
  rw [knownV_rev,sqL_rev]
  refine WOL.mv rfl <| WOL.ex rfl rfl <| WOL.ex rfl rfl <| WOL.as rfl <| WOL.as rfl <| WOL.nil <| keep [(2,_),(5,_),(31,_),(32,_),(33,_),(34,_)] ⟨rfl,rfl,rfl,rfl,rfl,rfl,trivial⟩ ?_
  refine WL.sr ?_
  refine WOL.ld rfl (load_row tp46 (A2.hx Y4) rfl (Nat.le_of_ble_eq_true rfl)) ?_
  refine WOL.cl1 rfl rfl ((c25 H (r.hx Y4) (f.on Y4)).mono ?_)
  rintro v h5 ⟨w1,w2,rfl,X5,R5⟩
  have Y5:=Y4.trans X5
  refine WOL.cl1 rfl rfl ((c30 H X R5 (f.on Y5)).mono ?_)
  rintro v h6 ⟨rfl,X6⟩
  have Y6:=Y5.trans X6
  rw [hm]
  refine WOL.mv rfl <| WOL.ex rfl rfl <| WOL.ex rfl rfl <| WOL.al tp24 fun h7 N7 => ?_
  have y6:=Y6.next
  refine WOL.sto rfl rfl tp24 N7.at_ rfl rfl (Nat.le_of_ble_eq_true rfl) rfl (f.hx (Y6.trans N7.hx)) y6 fun h8 P8 => ?_
  have Y8:HX g h8:=P8.hx _ (Y6.trans N7.hx) y6
  refine WOL.as rfl <| WOL.nil <| keep [(2,_),(5,_),(31,_),(32,_),(33,_),(34,_),(35,_),(36,_)] ⟨rfl,rfl,rfl,rfl,rfl,rfl,rfl,rfl,trivial⟩ ?_
  refine WL.sr ?_
  refine WOL.ld rfl (load_row tp52 (A5.hx Y8) rfl (Nat.le_of_ble_eq_true rfl)) ?_
  refine WOL.cl1 rfl rfl ((c25 H (r'.hx Y8) (f.on Y8)).mono ?_)
  rintro v h9 ⟨w1,w2,rfl,X9,R9⟩
  have Y9:=Y8.trans X9
  refine WOL.cl1 rfl rfl ((c30 H X R9 (f.on Y9)).mono ?_)
  rintro v h10 ⟨rfl,X10⟩
  have Y10:=Y9.trans X10
  rw [knownV_rev,sumL_rev,List.length_reverse,hm]
  refine WOL.mv rfl <| WOL.ex rfl rfl <| WOL.ex rfl rfl <| WOL.al tp24 fun h11 N11 => ?_
  have y10:=Y10.next
  have Z11:HX h8 h11:=(X9.trans X10).trans N11.hx
  refine WOL.sto rfl rfl tp24 N11.at_ rfl rfl (Nat.le_of_ble_eq_true rfl) rfl (f.hx (Y10.trans N11.hx)) y10 fun h12 P12 => ?_
  have Y12:HX g h12:=P12.hx _ (Y10.trans N11.hx) y10
  have Z12:HX h8 h12:=P12.hx _ Z11 (by have:=(X9.trans X10).next; omega)
  refine WOL.as rfl <| WOL.nil <| keep [(2,_),(5,_),(31,_),(32,_),(33,_),(34,_),(35,_),(36,_),(37,_),(38,_)] ⟨rfl,rfl,rfl,rfl,rfl,rfl,rfl,rfl,rfl,rfl,trivial⟩ ?_
  refine WL.sr ?_
  refine WOL.ld rfl (load_row tp46 (A2.hx Y12) rfl (Nat.le_of_ble_eq_true rfl)) ?_
  refine WOL.cl1 rfl rfl ((c25 H (r.hx Y12) (f.on Y12)).mono ?_)
  rintro v h13 ⟨w1,w2,rfl,X13,R13⟩
  have Y13:=Y12.trans X13
  refine WOL.cl1 rfl rfl ((c26 H X R13 (f.on Y13)).mono ?_)
  rintro v h14 ⟨rfl,X14⟩
  have Y14:=Y13.trans X14
  refine WOL.mv rfl <| WOL.ex rfl rfl <| WOL.ex rfl rfl <| WOL.as rfl <| WOL.as rfl <| WOL.nil <| keep [(5,_),(31,_),(32,_),(33,_),(34,_),(35,_),(36,_),(37,_),(38,_),(39,_),(40,_)] ⟨rfl,rfl,rfl,rfl,rfl,rfl,rfl,rfl,rfl,rfl,rfl,trivial⟩ ?_
  refine WL.sr ?_
  refine WOL.ld rfl (load_row tp52 (A5.hx Y14) rfl (Nat.le_of_ble_eq_true rfl)) ?_
  refine WOL.cl1 rfl rfl ((c25 H (r'.hx Y14) (f.on Y14)).mono ?_)
  rintro v h15 ⟨w1,w2,rfl,X15,R15⟩
  have Y15:=Y14.trans X15
  refine WOL.cl1 rfl rfl ((c26 H X R15 (f.on Y15)).mono ?_)
  rintro v h16 ⟨rfl,X16⟩
  rw [knownV_rev,List.length_reverse]
  refine WOL.mv rfl <| WOL.ex rfl rfl <| WOL.ex rfl rfl <| WOL.as rfl <| WOL.as rfl <| WOL.nil <| keep [(31,_),(32,_),(33,_),(34,_),(35,_),(36,_),(37,_),(38,_),(39,_),(40,_),(41,_),(42,_)] ⟨rfl,rfl,rfl,rfl,rfl,rfl,rfl,rfl,rfl,rfl,rfl,rfl,trivial⟩ ?_
  have W16:HX h12 h16:=((X13.trans X14).trans X15).trans X16
  have B35:=(P8.at_.hx Z12).hx W16
  have B37:=P12.at_.hx W16
  refine WL.sr <| WOL.mv rfl ?_
  refine WOL.bi (v:=.bool true) rfl rfl rfl ?_
  refine WOL.mv rfl <| WOL.now (b:=true) rfl rfl <| WOL.mv rfl <| WOL.now (b:=true) rfl rfl ?_
  refine WOL.bi (v:=.bool true) rfl rfl rfl ?_
  refine WOL.pkt rfl rfl <| WOL.mv rfl <| WOL.now (b:=true) rfl rfl <| WOL.mv rfl <| WOL.now (b:=true) rfl rfl <| WOL.mv rfl <| WOL.now (b:=true) rfl rfl ?_
  refine WOL.bi rfl rfl (fb_eq _) ?_
  refine WOL.pkt rfl rfl <| WOL.mv rfl <| WOL.now (b:=true) rfl rfl <| WOL.mv rfl <| WOL.now (b:=true) rfl rfl <| WOL.mv rfl <| WOL.now (b:=true) rfl rfl ?_
  refine WOL.bi rfl rfl (fb_eq _) ?_
  refine WOL.pkt rfl rfl <| keep [(35,_),(37,_),(39,_),(40,_),(41,_),(42,_),(290,_)] ⟨rfl,rfl,rfl,rfl,rfl,rfl,rfl,trivial⟩ <| WOL.mv rfl <| WOL.now (b:=true) rfl rfl ?_
  refine WOL.ld rfl (load_row tp24 B35 rfl (Nat.le_of_ble_eq_true rfl)) ?_
  refine WOL.now (b:=true) rfl rfl ?_
  refine WOL.ld rfl (load_row tp24 B37 rfl (Nat.le_of_ble_eq_true rfl)) ?_
  refine WOL.now (b:=true) rfl rfl ?_
  refine fun a q => WO.eqr rat24 (q.o rfl) (q.o rfl) (q.nx ?_)
  refine WOL.pkt rfl rfl <| WOL.mv rfl <| WOL.now (b:=true) rfl rfl <| WOL.mv rfl <| WOL.now (b:=true) rfl rfl ?_
  refine WOL.bi (v:=.bool true) rfl rfl rfl ?_
  refine WOL.pkt rfl rfl <| WOL.mv rfl <| WOL.now (b:=true) rfl rfl <| WOL.mv rfl <| WOL.now (b:=true) rfl rfl ?_
  refine WOL.bi (v:=.bool true) rfl rfl rfl ?_
  refine WOL.pkt rfl rfl <| WOL.mv rfl <| WOL.now (b:=true) rfl rfl <| WOL.mv rfl <| WOL.now (b:=true) rfl rfl <| WOL.mv rfl <| WOL.now (b:=true) rfl rfl ?_
  refine WOL.bi rfl rfl (fb_eq _) ?_
  refine WOL.pkt rfl rfl <| WOL.mv rfl <| WOL.now (b:=true) rfl rfl ?_
  refine WOL.cl0 rfl ((k11 A h16).mono ?_)
  rintro v h17 ⟨rfl,rfl⟩
  refine WOL.pkt rfl rfl <| WOL.as rfl <| WOL.nil <| keep [(4,_)] ⟨rfl,trivial⟩ ?_
  exact WL.done rfl rfl
end
end Go.Tidy
namespace Go.Tidy
open Go Go.Proofs Tab
variable {tp:TProg}
theorem ne_same (z:Int):fastBin .neq (.int .i64 z) (.int .i64 z) = some (.bool false):=by
  show some (Value.bool (z != z)) = _
  simp
section
variable {s:ByteArray} {n:Int} {g:TH} {v1 v2 p1 p2:Value} {C D:List (Int × Bool)} {c2 c3 c5':Nat}
set_option maxHeartbeats 2000000 in
set_option maxRecDepth 100000 in
theorem k8y (H:Has tp) (X:HasX tp) (A:Awk tp) {E:List (Int × Bool)} {c17 c21 c25' c27:Nat} {e:Int} {q1 q2 u1 u2:Value} (f:Free0 g.next g) (A2:At g c2 (.cells (runV s n v1 v2).cells.toList true true 46)) (A5:At g c5' (.cells (runV s n p1 p2).cells.toList true true 52)) (r:RunC s n g v1 v2 C) (r':RunC s n g p1 p2 C.reverse)
    (A17:At g c17 (.cells (runV s n q1 q2).cells.toList true true 52)) (A21:At g c21 (.cells (runV s n u1 u2).cells.toList true true 52)) (r17:RunC s n g q1 q2 D) (r21:RunC s n g u1 u2 D)
    (he:e = 4 ∨ (e = 0 ∧ ∃ y1 y2 z1 z2,At g c25' (.cells (runV s n y1 y2).cells.toList true true 52) ∧ At g c27 (.cells (runV s n z1 z2).cells.toList true true 52) ∧ RunC s n g y1 y2 E.reverse ∧ RunC s n g z1 z2 E)) :
    ∀ a,Kn [(2,ptr c2),(5,ptr c5'),(17,ptr c17),(21,ptr c21),(22,zi 0),(25,ptr c25'),(26,zi e),(27,ptr c27),(28,zi e)] a → W Tryz.prog tp false r8y a g (Fin Tryz.prog [.tmp 4] fun v _ => v = .bool true):=by
  refine WL.seq ?_
  refine WL.sr <| WOL.mv rfl ?_
  refine WOL.bi (v:=.bool false) rfl rfl rfl ?_
  refine WOL.mv rfl <| WOL.now (b:=false) rfl rfl ?_
  refine WOL.ld rfl (load_row tp52 A21 rfl (Nat.le_of_ble_eq_true rfl)) ?_
  refine WOL.now (b:=false) rfl rfl ?_
  refine WOL.ld rfl (load_row tp52 A17 rfl (Nat.le_of_ble_eq_true rfl)) ?_
  refine WOL.now (b:=false) rfl rfl ?_
  refine WOL.cl2 rfl rfl rfl ((c57 H r21 r17).mono ?_)
  rintro v h1 ⟨rfl,X1⟩
  refine WOL.now (b:=false) rfl rfl <| WOL.nt rfl <| WOL.pkf rfl rfl <| WOL.mv rfl <| WOL.now (b:=false) rfl rfl <| WOL.mv rfl <| WOL.now (b:=false) rfl rfl <| WOL.mv rfl <| WOL.now (b:=false) rfl rfl ?_
  refine WOL.bi rfl rfl (ne_same _) ?_
  refine WOL.pkf rfl rfl <| WOL.nil <| keep [(2,_),(5,_),(25,_),(27,_),(28,_),(222,_)] ⟨rfl,rfl,rfl,rfl,rfl,rfl,trivial⟩ ?_
  refine WL.no rfl <| WL.skip ?_
  refine WL.seq ?_
  refine WL.sr <| WOL.mv rfl ?_
  refine WOL.bi rfl rfl ezero ?_
  refine WOL.nil <| keep [(2,_),(5,_),(25,_),(27,_),(224,_)] ⟨rfl,rfl,rfl,rfl,rfl,trivial⟩ ?_
  rcases he with rfl | ⟨rfl,y1,y2,z1,z2,A25,A27,R25,R27⟩
  · refine WL.no rfl <| WL.skip ?_
    exact kto (k8z H X A (f.on X1) (A2.hx X1) (A5.hx X1) (r.hx X1) (r'.hx X1)) ⟨rfl,rfl,trivial⟩
  · refine WL.yes rfl ?_
    refine WL.sr ?_
    refine WOL.ld rfl (load_row tp52 (A27.hx X1) rfl (Nat.le_of_ble_eq_true rfl)) ?_
    refine WOL.cl1 rfl rfl ((c25 H (R27.hx X1) (f.on X1)).mono ?_)
    rintro v h2 ⟨w1,w2,rfl,X2,R2⟩
    have Y2:=X1.trans X2
    refine WOL.cl1 rfl rfl ((c28 H X R2 (f.on Y2)).mono ?_)
    rintro v h3 ⟨bo1,l1,k1,bo2,l2,k2,rfl,X3,R3,_,_⟩
    have Y3:=Y2.trans X3
    have y3:=Y3.next
    refine WOL.mv rfl <| WOL.ex rfl rfl <| WOL.ex rfl rfl <| WOL.al tp52 fun h4 N4 => ?_
    refine WOL.sto rfl rfl tp52 N4.at_ rfl rfl (Nat.le_of_ble_eq_true rfl) rfl (f.hx (Y3.trans N4.hx)) y3 fun h5 P5 => ?_
    have Z5:HX h3 h5:=P5.hx _ N4.hx (Nat.le_refl _)
    have Y5:=Y3.trans Z5
    refine WOL.as rfl <| WOL.nil <| keep [(2,_),(5,_),(25,_),(29,_),(30,_)] ⟨rfl,rfl,rfl,rfl,rfl,trivial⟩ ?_
    refine WL.sr <| WOL.mv rfl ?_
    refine WOL.bi (v:=.bool false) rfl rfl rfl ?_
    refine WOL.mv rfl <| WOL.now (b:=false) rfl rfl ?_
    refine WOL.ld rfl (load_row tp52 P5.at_ rfl (Nat.le_of_ble_eq_true rfl)) ?_
    refine WOL.now (b:=false) rfl rfl ?_
    refine WOL.ld rfl (load_row tp52 (A25.hx Y5) rfl (Nat.le_of_ble_eq_true rfl)) ?_
    refine WOL.now (b:=false) rfl rfl ?_
    refine WOL.cl2 rfl rfl rfl ((c57 H (R3.hx Z5) (R25.hx Y5)).mono ?_)
    rintro v h6 ⟨rfl,X6⟩
    have Y6:=Y5.trans X6
    refine WOL.now (b:=false) rfl rfl <| WOL.nt rfl <| WOL.pkf rfl rfl <| WOL.nil <| keep [(2,_),(5,_),(238,_)] ⟨rfl,rfl,rfl,trivial⟩ ?_
    refine WL.no rfl <| WL.skip ?_
    exact kto (k8z H X A (f.on Y6) (A2.hx Y6) (A5.hx Y6) (r.hx Y6) (r'.hx Y6)) ⟨rfl,rfl,trivial⟩
set_option maxHeartbeats 4000000 in
set_option maxRecDepth 100000 in
theorem k8x (H:Has tp) (X:HasX tp) (A:Awk tp) {x y z:Int} (hx:-128 ≤ x ∧ x ≤ 127) (hy:-128 ≤ y ∧ y ≤ 127) (hz:-128 ≤ z ∧ z ≤ 127) (f:Free0 g.next g) (A2:At g c2 (.cells (runV s n v1 v2).cells.toList true true 46)) (A3:At g c3 (.cells [.int .i8 x,.int .i8 y,.int .i8 z] true true 92)) (A5:At g c5' (.cells (runV s n p1 p2).cells.toList true true 52)) (r:RunC s n g v1 v2 C) (r':RunC s n g p1 p2 C.reverse) :
    ∀ a,Kn [(2,ptr c2),(3,ptr c3),(5,ptr c5')] a → W Tryz.prog tp false r8x a g (Fin Tryz.prog [.tmp 4] fun v _ => v = .bool true):=by
  refine WL.sr ?_
  refine WOL.ix rfl rfl ixB0 ?_
  refine WOL.ld rfl (load_one tp91 A3 rfl) ?_
  refine WOL.conv8 u91 u3 rfl hx.1 hx.2 ?_
  have m1:=tmod_in (x:=x) (n:=10) (by decide)
  refine WOL.remt rfl rfl (by decide) ?_
  refine WOL.add rfl rfl (by omega) (by omega) ?_
  have m2:0 ≤ (x.tmod 10 + 10).tmod 10 ∧ (x.tmod 10 + 10).tmod 10 < 10:=by
    rw [Int.tmod_eq_emod_of_nonneg (by omega)]; omega
  refine WOL.remt rfl rfl (by decide) ?_
  generalize (x.tmod 10 + 10).tmod 10 = t at *
  refine WOL.as rfl <| WOL.nil <| keep [(2,_),(3,_),(5,_),(16,_)] ⟨rfl,rfl,rfl,rfl,trivial⟩ ?_
  refine WL.sr ?_
  refine WOL.ld rfl (load_row tp52 A5 rfl (Nat.le_of_ble_eq_true rfl)) ?_
  refine WOL.cl1 rfl rfl ((c25 H r' f).mono ?_)
  rintro v h1 ⟨w1,w2,rfl,X1,R1⟩
  refine WOL.mv rfl ?_
  refine WOL.cl2 rfl rfl rfl ((c45 H X (z:=t) (by omega) (by omega) R1 (f.on X1)).mono ?_)
  rintro v h2 ⟨bo1,l1,k1,bo2,l2,k2,rfl,X2,R2,_,_⟩
  have Y2:=X1.trans X2
  have y2:=Y2.next
  refine WOL.mv rfl <| WOL.ex rfl rfl <| WOL.ex rfl rfl <| WOL.al tp52 fun h3 N3 => ?_
  refine WOL.sto rfl rfl tp52 N3.at_ rfl rfl (Nat.le_of_ble_eq_true rfl) rfl (f.hx (Y2.trans N3.hx)) y2 fun h4 P4 => ?_
  have Z4:HX h2 h4:=P4.hx _ N3.hx (Nat.le_refl _)
  have Y4:=Y2.trans Z4
  have B17:=P4.at_
  have R17:=R2.hx Z4
  rw [filC_rev] at R17
  refine WOL.as rfl <| WOL.nil <| keep [(2,_),(3,_),(5,_),(16,_),(17,_),(18,_)] ⟨rfl,rfl,rfl,rfl,rfl,rfl,trivial⟩ ?_
  refine WL.sr ?_
  refine WOL.ld rfl (load_row tp46 (A2.hx Y4) rfl (Nat.le_of_ble_eq_true rfl)) ?_
  refine WOL.cl1 rfl rfl ((c25 H (r.hx Y4) (f.on Y4)).mono ?_)
  rintro v h5 ⟨w1,w2,rfl,X5,R5⟩
  have Y5:=Y4.trans X5
  refine WOL.mv rfl ?_
  refine WOL.cl2 rfl rfl rfl ((c45 H X (z:=t) (by omega) (by omega) R5 (f.on Y5)).mono ?_)
  rintro v h6 ⟨co1,i1,j1,co2,i2,j2,rfl,X6,R6,_,_⟩
  have Y6:=Y5.trans X6
  have y6:=Y6.next
  refine WOL.mv rfl <| WOL.ex rfl rfl <| WOL.ex rfl rfl <| WOL.al tp52 fun h7 N7 => ?_
  refine WOL.sto rfl rfl tp52 N7.at_ rfl rfl (Nat.le_of_ble_eq_true rfl) rfl (f.hx (Y6.trans N7.hx)) y6 fun h8 P8 => ?_
  have Z8:HX h6 h8:=P8.hx _ N7.hx (Nat.le_refl _)
  have Y8:=Y6.trans Z8
  have B19:=P8.at_
  have R19:=R6.hx Z8
  have U8:HX h4 h8:=(X5.trans X6).trans Z8
  refine WOL.as rfl <| WOL.nil <| keep [(2,_),(3,_),(5,_),(17,_),(18,_),(19,_),(20,_)] ⟨rfl,rfl,rfl,rfl,rfl,rfl,rfl,trivial⟩ ?_
  refine WL.seq ?_
  refine WL.sr <| WOL.mv rfl ?_
  refine WOL.bi (v:=.bool false) rfl rfl rfl ?_
  refine WOL.mv rfl <| WOL.now (b:=false) rfl rfl <| WOL.mv rfl <| WOL.now (b:=false) rfl rfl ?_
  refine WOL.bi (v:=.bool false) rfl rfl rfl ?_
  refine WOL.pkf rfl rfl <| WOL.mv rfl <| WOL.now (b:=false) rfl rfl ?_
  refine WOL.ld rfl (load_row tp52 B19 rfl (Nat.le_of_ble_eq_true rfl)) ?_
  refine WOL.now (b:=false) rfl rfl ?_
  refine WOL.cl1 rfl rfl ((c31 H R19).mono ?_)
  rintro v h9 ⟨rfl,X9⟩
  have Y9:=Y8.trans X9
  refine WOL.now (b:=false) rfl rfl ?_
  refine WOL.bi (v:=.bool false) rfl rfl rfl ?_
  refine WOL.pkf rfl rfl <| WOL.nil <| keep [(2,_),(3,_),(5,_),(17,_),(19,_),(176,_)] ⟨rfl,rfl,rfl,rfl,rfl,rfl,trivial⟩ ?_
  refine WL.no rfl <| WL.skip ?_
  refine WL.sr ?_
  refine WOL.ld rfl (load_row tp52 (B19.hx X9) rfl (Nat.le_of_ble_eq_true rfl)) ?_
  refine WOL.cl1 rfl rfl ((c25 H (R19.hx X9) (f.on Y9)).mono ?_)
  rintro v h10 ⟨w1,w2,rfl,X10,R10⟩
  have Y10:=Y9.trans X10
  refine WOL.cl1 rfl rfl ((c28 H X R10 (f.on Y10)).mono ?_)
  rintro v h11 ⟨do1,m1',o1,do2,m2',o2,rfl,X11,R11,_,_⟩
  have Y11:=Y10.trans X11
  have y11:=Y11.next
  refine WOL.mv rfl <| WOL.ex rfl rfl <| WOL.ex rfl rfl <| WOL.al tp52 fun h12 N12 => ?_
  refine WOL.sto rfl rfl tp52 N12.at_ rfl rfl (Nat.le_of_ble_eq_true rfl) rfl (f.hx (Y11.trans N12.hx)) y11 fun h13 P13 => ?_
  have Z13:HX h11 h13:=P13.hx _ N12.hx (Nat.le_refl _)
  have Y13:=Y11.trans Z13
  have B21:=P13.at_
  have R21:=R11.hx Z13
  have U13:HX h4 h13:=((((U8.trans X9).trans X10).trans X11).trans Z13)
  have D17:=B17.hx U13
  have S17:=R17.hx U13
  refine WOL.as rfl <| WOL.nil <| keep [(2,_),(3,_),(5,_),(17,_),(21,_),(22,_)] ⟨rfl,rfl,rfl,rfl,rfl,rfl,trivial⟩ ?_
  refine WL.sr ?_
  refine WOL.ix rfl rfl ixB1 ?_
  refine WOL.ld rfl (load_one tp91 (A3.hx Y13) rfl) ?_
  refine WOL.conv8 u91 u3 rfl hy.1 hy.2 ?_
  refine WOL.remt rfl rfl (by decide) ?_
  refine WOL.ix rfl rfl ixB2 ?_
  refine WOL.ld rfl (load_one tp91 (A3.hx Y13) rfl) ?_
  refine WOL.conv8 u91 u3 rfl hz.1 hz.2 ?_
  have m3:=tmod_in (x:=y) (n:=10) (by decide)
  have m4:=tmod_in (x:=z) (n:=9) (by decide)
  refine WOL.remt rfl rfl (by decide) ?_
  refine WOL.add rfl rfl (by omega) (by omega) ?_
  have m5:0 ≤ (z.tmod 9 + 9).tmod 9 ∧ (z.tmod 9 + 9).tmod 9 < 9:=by
    rw [Int.tmod_eq_emod_of_nonneg (by omega)]; omega
  refine WOL.remt rfl rfl (by decide) ?_
  refine WOL.add rfl rfl (by omega) (by omega) ?_
  generalize (z.tmod 9 + 9).tmod 9 = u at *
  generalize y.tmod 10 = w at *
  have o1':outB w (-1000) 1000 = 0:=by unfold outB; rw [decide_eq_false (by omega),decide_eq_false (by omega)]; rfl
  have o2':outB (1 + u) 1 1000 = 0:=by unfold outB; rw [decide_eq_false (by omega),decide_eq_false (by omega)]; rfl
  refine WOL.as rfl <| WOL.as rfl <| WOL.nil <| keep [(2,_),(5,_),(17,_),(21,_),(22,_),(23,_),(24,_)] ⟨rfl,rfl,rfl,rfl,rfl,rfl,rfl,trivial⟩ ?_
  refine WL.sr ?_
  refine WOL.ld rfl (load_row tp52 (A5.hx Y13) rfl (Nat.le_of_ble_eq_true rfl)) ?_
  refine WOL.cl1 rfl rfl ((c25 H (r'.hx Y13) (f.on Y13)).mono ?_)
  rintro v h14 ⟨w1,w2,rfl,X14,R14⟩
  have Y14:=Y13.trans X14
  refine WOL.mv rfl <| WOL.mv rfl ?_
  refine WOL.cl3 rfl rfl rfl rfl ((c43 H X o1' o2' R14 (f.on Y14)).mono ?_)
  intro v h15 hv
  rw [scC_rev,allOk_rev] at hv
  have cont:∀ {e:Int} {sa:ByteArray} {na:Int} {ao1:Option Addr} {al1 ak1:Nat} {ao2:Option Addr} {al2 ak2:Nat},HX h14 h15 → (e = 0 → allOk (scC w (1 + u) C) = true ∧ sa = s ∧ na = n ∧ RunC s n h15 (.slice ao1 al1 ak1) (.slice ao2 al2 ak2) (scC w (1 + u) C).reverse) → (e = 4 ∧ allOk (scC w (1 + u) C) = false ∨ e = 0) →
      ∀ a,Kn (putL [(2,ptr c2),(5,ptr c5'),(17,ptr h2.next),(21,ptr h11.next),(22,zi 0),(23,zi w),(24,zi (1 + u))] (some 199) (.tuple #[runV sa na (.slice ao1 al1 ak1) (.slice ao2 al2 ak2),zi e])) a → WO Tryz.prog tp (r8_24.drop 5) a h15 (fun a h => W Tryz.prog tp false (.seq (.reg r8_25) r8y) a h (Fin Tryz.prog [.tmp 4] fun v _ => v = .bool true)):=by
    intro e sa na ao1 al1 ak1 ao2 al2 ak2 X15 h0 h1
    have Y15:=Y14.trans X15
    have y15:=Y15.next
    refine WOL.mv rfl <| WOL.ex rfl rfl <| WOL.ex rfl rfl <| WOL.al tp52 fun h16 N16 => ?_
    refine WOL.sto rfl rfl tp52 N16.at_ rfl rfl (Nat.le_of_ble_eq_true rfl) rfl (f.hx (Y15.trans N16.hx)) y15 fun h17 P17 => ?_
    have Z17:HX h15 h17:=P17.hx _ N16.hx (Nat.le_refl _)
    have Y17:=Y15.trans Z17
    have B25:=P17.at_
    refine WOL.as rfl <| WOL.nil <| keep [(2,_),(5,_),(17,_),(21,_),(22,_),(23,_),(24,_),(25,_),(26,_)] ⟨rfl,rfl,rfl,rfl,rfl,rfl,rfl,rfl,rfl,trivial⟩ ?_
    refine WL.sr ?_
    refine WOL.ld rfl (load_row tp46 (A2.hx Y17) rfl (Nat.le_of_ble_eq_true rfl)) ?_
    refine WOL.cl1 rfl rfl ((c25 H (r.hx Y17) (f.on Y17)).mono ?_)
    rintro v h18 ⟨w1,w2,rfl,X18,R18⟩
    have Y18:=Y17.trans X18
    refine WOL.mv rfl <| WOL.mv rfl ?_
    refine WOL.cl3 rfl rfl rfl rfl ((c43 H X o1' o2' R18 (f.on Y18)).mono ?_)
    rintro v h19 (⟨hb,rfl,X19⟩ | ⟨hb,eo1,q1,s1,eo2,q2,s2,rfl,X19,R19,_,_⟩)
    · have Y19:=Y18.trans X19
      have y19:=Y19.next
      have e4:e = 4:=by
        rcases h1 with h1 | h1
        · exact h1.1
        · rw [(h0 h1).1] at hb; cases hb
      subst e4
      refine WOL.mv rfl <| WOL.ex rfl rfl <| WOL.ex rfl rfl <| WOL.al tp52 fun h20 N20 => ?_
      refine WOL.sto rfl rfl tp52 N20.at_ rfl rfl (Nat.le_of_ble_eq_true rfl) rfl (f.hx (Y19.trans N20.hx)) y19 fun h21 P21 => ?_
      have Y21:HX g h21:=P21.hx _ (Y19.trans N20.hx) y19
      have V21:HX h13 h21:=P21.hx _ ((((((X14.trans X15).trans Z17).trans X18).trans X19).trans N20.hx)) (by have:=((((X14.trans X15).trans Z17).trans X18).trans X19).next; omega)
      refine WOL.as rfl <| WOL.nil ?_
      exact kto (k8y H X A (E:=scC w (1 + u) C) (f.on Y21) (A2.hx Y21) (A5.hx Y21) (r.hx Y21) (r'.hx Y21) (D17.hx V21) (B21.hx V21) (S17.hx V21) (R21.hx V21) (.inl rfl)) ⟨rfl,rfl,rfl,rfl,rfl,rfl,rfl,rfl,rfl,trivial⟩
    · have Y19:=Y18.trans X19
      have y19:=Y19.next
      have e0:e = 0:=by
        rcases h1 with h1 | h1
        · rw [h1.2] at hb; cases hb
        · exact h1
      subst e0
      obtain ⟨_,rfl,rfl,R15⟩:=h0 rfl
      refine WOL.mv rfl <| WOL.ex rfl rfl <| WOL.ex rfl rfl <| WOL.al tp52 fun h20 N20 => ?_
      refine WOL.sto rfl rfl tp52 N20.at_ rfl rfl (Nat.le_of_ble_eq_true rfl) rfl (f.hx (Y19.trans N20.hx)) y19 fun h21 P21 => ?_
      have Y21:HX g h21:=P21.hx _ (Y19.trans N20.hx) y19
      have T21:HX h19 h21:=P21.hx _ N20.hx (Nat.le_refl _)
      have S21:HX h17 h21:=(X18.trans X19).trans T21
      have V21:HX h13 h21:=(((X14.trans X15).trans Z17).trans S21)
      refine WOL.as rfl <| WOL.nil ?_
      exact kto (k8y H X A (E:=scC w (1 + u) C) (f.on Y21) (A2.hx Y21) (A5.hx Y21) (r.hx Y21) (r'.hx Y21) (D17.hx V21) (B21.hx V21) (S17.hx V21) (R21.hx V21) (.inr ⟨rfl,_,_,_,_,B25.hx S21,P21.at_,(R15.hx Z17).hx S21,R19.hx T21⟩)) ⟨rfl,rfl,rfl,rfl,rfl,rfl,rfl,rfl,rfl,trivial⟩
  rcases hv with ⟨hb,rfl,X15⟩ | ⟨hb,eo1,q1,s1,eo2,q2,s2,rfl,X15,R15,_,_⟩
  · exact kto (cont X15 (fun e => by cases e) (.inl ⟨rfl,hb⟩)) ⟨rfl,rfl,rfl,rfl,rfl,rfl,rfl,rfl,trivial⟩
  · exact kto (cont X15 (fun _ => ⟨hb,rfl,rfl,R15⟩) (.inr rfl)) ⟨rfl,rfl,rfl,rfl,rfl,rfl,rfl,rfl,trivial⟩
end
end Go.Tidy
namespace Go.Tidy
open Go Go.Proofs Tab
variable {tp:TProg}
section
variable {s:ByteArray} {n:Int} {g:TH} {v1 v2 p1 p2:Value} {C:List (Int × Bool)} {c2 c3 c5':Nat}
theorem RunC.lens (r:RunC s n g v1 v2 C):∃ F:List Nat,F.length = C.length ∧ SlL encF 1 g v1 F:=by
  obtain ⟨F,es,r,c⟩:=r
  exact ⟨F,c.len,r.f⟩
theorem RunC.relock (r:RunC s n g v1 v2 C) (M:List Nat):RunC s n (g.withLock M) v1 v2 C:=by
  obtain ⟨F,es,r,c⟩:=r
  exact ⟨F,es,r.relock' M,c⟩
theorem RunC.hx' {h':TH} (r:RunC s n g v1 v2 C) (x:HX g h') (M:List Nat):RunC s n (h'.withLock M) v1 v2 C:=(r.hx x).relock M
theorem RunC.small (r:RunC s n g v1 v2 C):C.length ≤ 4096 ∧ 0 ≤ n ∧ n + C.length ≤ 100000000 ∧ DarkC C ∧ ∀ x,x ∈ C → x.1.natAbs ≤ 16384:=by
  obtain ⟨F,es,r,c⟩:=r
  exact ⟨c.m,c.v.n0,c.top,c.dk,c.lim⟩
set_option maxHeartbeats 4000000 in
set_option maxRecDepth 100000 in
theorem k8w (H:Has tp) (X:HasX tp) (A:Awk tp) {x y z:Int} (hx:-128 ≤ x ∧ x ≤ 127) (hy:-128 ≤ y ∧ y ≤ 127) (hz:-128 ≤ z ∧ z ≤ 127) (f:Free0 g.next g) (A2:At g c2 (.cells (runV s n v1 v2).cells.toList true true 46)) (A3:At g c3 (.cells [.int .i8 x,.int .i8 y,.int .i8 z] true true 92)) (A5:At g c5' (.cells (runV s n p1 p2).cells.toList true true 52)) (r:RunC s n g v1 v2 C) (r':RunC s n g p1 p2 C.reverse) :
    ∀ a,Kn [(2,ptr c2),(3,ptr c3),(5,ptr c5')] a → W Tryz.prog tp false r8w a g (Fin Tryz.prog [.tmp 4] fun v _ => v = .bool true):=by
  obtain ⟨F,hF,sF⟩:=r.lens
  obtain ⟨m,n0,n1,dk,lim⟩:=r.small
  have lt2:=A2.lt
  refine WL.seq ?_
  refine WL.sr <| WOL.fa rfl (fa_of fo46_2) ?_
  refine WOL.ld rfl (load_one tp43 A2 rfl) ?_
  refine WOL.len rfl sF u43 ?_
  rw [hF]
  refine WOL.mv rfl <| WOL.nil <| keep [(2,_),(3,_),(5,_),(90,_),(91,_)] ⟨rfl,rfl,rfl,rfl,rfl,trivial⟩ ?_
  refine WL.block ?_
  refine WL.loop (fun k a h2 => ∃ j:Nat,j ≤ C.length ∧ k = C.length - j ∧ HX g h2 ∧ Kn [(2,ptr c2),(3,ptr c3),(5,ptr c5'),(90,zi C.length),(91,zi (j:Nat))] a) C.length (fun a q => ⟨0,by omega,by omega,HX.refl _,q.sub ⟨rfl,rfl,rfl,rfl,rfl,trivial⟩⟩) ?_
  rintro k a h2 ⟨j,hj,rfl,X2,q⟩
  refine q.go ?_
  refine WL.sr ?_
  refine WOL.bi (v:=.bool (decide ((j:Int) < C.length))) rfl rfl rfl ?_
  refine WOL.nil <| keep [(2,_),(3,_),(5,_),(90,_),(91,_),(92,_)] ⟨rfl,rfl,rfl,rfl,rfl,rfl,trivial⟩ ?_
  refine WL.seq ?_
  by_cases hlt:j < C.length
  · rw [show decide ((j:Int) < (C.length:Int)) = true by simpa using hlt]
    refine WL.yes rfl <| WL.skip ?_
    refine WL.seq ?_
    refine WL.block ?_
    refine WL.sr <| WOL.mv rfl <| WOL.as rfl <| WOL.nil <| keep [(2,_),(3,_),(5,_),(9,_),(90,_),(91,_)] ⟨rfl,rfl,rfl,rfl,rfl,rfl,trivial⟩ ?_
    refine WL.sr ?_
    refine WOL.ld rfl (load_row tp46 (A2.hx X2) rfl (Nat.le_of_ble_eq_true rfl)) ?_
    refine WOL.fa rfl (fa_of fo46_1) ?_
    refine WOL.ld rfl (load_one tp3 (A2.hx X2) rfl) ?_
    refine WOL.mv rfl ?_
    refine WOL.add rfl rfl (by omega) (by omega) ?_
    refine WOL.lq1 [c2] rfl rfl rfl fun M hM => ((c25 H (r.hx' X2 M) ((f.on X2).held hM (fun b hb => by simp at hb; have:=X2.next; omega))).mono ?_)
    rintro v h3 ⟨w1,w2,rfl,X3,R3⟩
    replace R3:=R3.relock h2.lock
    replace X3:=X3.relock
    generalize h3.withLock h2.lock = h3 at *
    have Y3:=X2.trans X3
    refine WOL.cl2 rfl rfl rfl ((c24 H X R3 (by omega) (by omega) (f.on Y3)).mono ?_)
    rintro v h4 ⟨rfl,X4⟩
    have Y4:=Y3.trans X4
    rw [show (n + (j:Int) - n).toNat = j by omega]
    refine WOL.mv rfl <| WOL.ex rfl rfl <| WOL.ex rfl rfl <| WOL.ex rfl rfl <| WOL.as rfl <| WOL.as rfl <| WOL.as rfl <| WOL.nil <| keep [(2,_),(3,_),(5,_),(9,_),(10,_),(11,_),(12,_),(90,_),(91,_)] ⟨rfl,rfl,rfl,rfl,rfl,rfl,rfl,rfl,rfl,trivial⟩ ?_
    refine WL.sr ?_
    refine WOL.ld rfl (load_row tp52 (A5.hx Y4) rfl (Nat.le_of_ble_eq_true rfl)) ?_
    refine WOL.fa rfl (fa_of fo46_1) ?_
    refine WOL.ld rfl (load_one tp3 (A2.hx Y4) rfl) ?_
    refine WOL.fa rfl (fa_of fo46_2) ?_
    refine WOL.ld rfl (load_one tp43 (A2.hx Y4) rfl) ?_
    refine WOL.len rfl (SlC.hx sF Y4) u43 ?_
    rw [hF]
    refine WOL.add rfl rfl (by omega) (by omega) ?_
    refine WOL.sub rfl rfl (by omega) (by omega) ?_
    refine WOL.mv rfl ?_
    refine WOL.sub rfl rfl (by omega) (by omega) ?_
    refine WOL.lq1 [c2,c2] rfl rfl rfl fun M hM => ((c25 H (r'.hx' Y4 M) ((f.on Y4).held hM (fun b hb => by simp at hb; have:=Y4.next; omega))).mono ?_)
    rintro v h5 ⟨w1,w2,rfl,X5,R5⟩
    replace R5:=R5.relock h4.lock
    replace X5:=X5.relock
    generalize h5.withLock h4.lock = h5 at *
    have Y5:=Y4.trans X5
    have hrl:C.reverse.length = C.length:=List.length_reverse
    refine WOL.cl2 rfl rfl rfl ((c24 H X R5 (by omega) (by omega) (f.on Y5)).mono ?_)
    rintro v h6 ⟨rfl,X6⟩
    have Y6:=Y5.trans X6
    rw [show (n + (C.length:Int) - 1 - (j:Int) - n).toNat = C.length - 1 - j by omega,getD_revC hlt]
    have hc:C.getD j (0,false) ∈ C:=by
      rw [List.getD_eq_getElem?_getD,List.getElem?_eq_getElem hlt]
      exact List.getElem_mem hlt
    have hd:=dk _ hc
    have hl:=lim _ hc
    generalize C.getD j (0,false) = c at *
    have sm:=(smp_ok hl).2.2
    refine WOL.mv rfl <| WOL.ex rfl rfl <| WOL.ex rfl rfl <| WOL.ex rfl rfl <| WOL.as rfl <| WOL.as rfl <| WOL.as rfl <| WOL.nil <| keep [(2,_),(3,_),(5,_),(10,_),(11,_),(12,_),(13,_),(14,_),(15,_),(90,_),(91,_)] ⟨rfl,rfl,rfl,rfl,rfl,rfl,rfl,rfl,rfl,rfl,rfl,trivial⟩ ?_
    refine WL.sr <| WOL.mv rfl ?_
    refine WOL.bi (v:=.bool false) rfl rfl rfl ?_
    refine WOL.mv rfl <| WOL.now (b:=false) rfl rfl <| WOL.mv rfl <| WOL.now (b:=false) rfl rfl ?_
    refine WOL.bi (v:=.bool false) rfl rfl rfl ?_
    refine WOL.pkf rfl rfl <| WOL.mv rfl <| WOL.now (b:=false) rfl rfl <| WOL.mv rfl <| WOL.now (b:=false) rfl rfl <| WOL.mv rfl <| WOL.now (b:=false) rfl rfl ?_
    refine WOL.fne sm sm rfl rfl ?_
    rw [show (!decide (c.1 = c.1)) = false by simp]
    refine WOL.pkf rfl rfl <| WOL.mv rfl <| WOL.now (b:=false) rfl rfl <| WOL.mv rfl <| WOL.now (b:=false) rfl rfl <| WOL.mv rfl <| WOL.now (b:=false) rfl rfl ?_
    refine WOL.neb u4 rfl rfl ?_
    rw [show (c.2 != c.2) = false by simp]
    refine WOL.pkf rfl rfl <| WOL.mv rfl <| WOL.now (b:=false) rfl rfl <| WOL.mv rfl <| WOL.now (b:=false) rfl rfl <| WOL.nt rfl ?_
    have fin:∀ a,Kn [(2,ptr c2),(3,ptr c3),(5,ptr c5'),(90,zi C.length),(91,zi (j:Nat)),(144,.bool false)] a → W Tryz.prog tp false (.cond (.tmp 144) (.seq (.reg r8_15) .ret) .skip) a h6 (leaves 1 (andThen (fun a h => W Tryz.prog tp false (.reg r8_16) a h (andThen (fun a h => ∃ j',j' < C.length - j ∧ ∃ j:Nat,j ≤ C.length ∧ j' = C.length - j ∧ HX g h ∧ Kn [(2,ptr c2),(3,ptr c3),(5,ptr c5'),(90,zi C.length),(91,zi (j:Nat))] a) (leaves 0 (andThen (fun a h => W Tryz.prog tp false r8x a h (Fin Tryz.prog [.tmp 4] fun v _ => v = .bool true)) (Fin Tryz.prog [.tmp 4] fun v _ => v = .bool true))))) (andThen (fun a h => ∃ j',j' < C.length - j ∧ ∃ j:Nat,j ≤ C.length ∧ j' = C.length - j ∧ HX g h ∧ Kn [(2,ptr c2),(3,ptr c3),(5,ptr c5'),(90,zi C.length),(91,zi (j:Nat))] a) (leaves 0 (andThen (fun a h => W Tryz.prog tp false r8x a h (Fin Tryz.prog [.tmp 4] fun v _ => v = .bool true)) (Fin Tryz.prog [.tmp 4] fun v _ => v = .bool true)))))):=by
      refine WL.no rfl <| WL.skip ?_
      refine WL.reg ?_
      refine WOL.bi (v:=zi ((j + 1:Nat):Int)) rfl rfl (by show some (Value.int .i64 (fwrap .i64 ((j:Int) + 1))) = _; rw [fwrap_i64 (by omega) (by omega)]; rfl) ?_
      refine WOL.mv rfl <| WOL.nil ?_
      exact fun a q => ⟨C.length - (j + 1),by omega,j + 1,by omega,rfl,Y6,q.sub ⟨rfl,rfl,rfl,rfl,rfl,trivial⟩⟩
    cases hk:c.2 with
    | true =>
      refine WOL.now (b:=false) rfl rfl <| WOL.mv rfl <| WOL.skp (b:=false) rfl rfl <| WOL.skp (b:=false) rfl rfl <| WOL.now (b:=false) rfl rfl <| WOL.pkf rfl rfl <| WOL.pkf rfl rfl <| WOL.nil ?_
      exact kto fin ⟨rfl,rfl,rfl,rfl,rfl,rfl,trivial⟩
    | false =>
      have h0:=hd hk
      refine WOL.now (b:=false) rfl rfl <| WOL.mv rfl <| WOL.now (b:=true) rfl rfl <| WOL.mv rfl <| WOL.now (b:=true) rfl rfl ?_
      refine WOL.fne sm zero_samp rfl rfl ?_
      rw [show (!decide (c.1 = 0)) = false by simp [h0]]
      refine WOL.now (b:=false) rfl rfl <| WOL.pkt rfl rfl <| WOL.pkf rfl rfl <| WOL.nil ?_
      exact kto fin ⟨rfl,rfl,rfl,rfl,rfl,rfl,trivial⟩
  · rw [show decide ((j:Int) < (C.length:Int)) = false by simpa using hlt]
    refine WL.no rfl <| WL.exit ?_
    exact kto (k8x H X A hx hy hz (f.on X2) (A2.hx X2) (A3.hx X2) (A5.hx X2) (r.hx X2) (r'.hx X2)) ⟨rfl,rfl,rfl,trivial⟩
set_option maxHeartbeats 4000000 in
set_option maxRecDepth 100000 in
theorem k8v (H:Has tp) (X:HasX tp) (A:Awk tp) {x y z:Int} (hx:-128 ≤ x ∧ x ≤ 127) (hy:-128 ≤ y ∧ y ≤ 127) (hz:-128 ≤ z ∧ z ≤ 127) (f:Free0 g.next g) (A2:At g c2 (.cells (runV s n v1 v2).cells.toList true true 46)) (A3:At g c3 (.cells [.int .i8 x,.int .i8 y,.int .i8 z] true true 92)) (r:RunC s n g v1 v2 C) :
    ∀ a,Kn [(2,ptr c2),(3,ptr c3)] a → W Tryz.prog tp false r8v a g (Fin Tryz.prog [.tmp 4] fun v _ => v = .bool true):=by
  obtain ⟨F,hF,sF⟩:=r.lens
  refine WL.sr ?_
  refine WOL.ld rfl (load_row tp46 A2 rfl (Nat.le_of_ble_eq_true rfl)) ?_
  refine WOL.cl1 rfl rfl ((c25 H r f).mono ?_)
  rintro v h1 ⟨w1,w2,rfl,X1,R1⟩
  refine WOL.cl1 rfl rfl ((c28 H X R1 (f.on X1)).mono ?_)
  rintro v h2 ⟨bo1,l1,k1,bo2,l2,k2,rfl,X2,R2,_,_⟩
  have Y2:=X1.trans X2
  have y2:=Y2.next
  refine WOL.mv rfl <| WOL.ex rfl rfl <| WOL.ex rfl rfl <| WOL.al tp52 fun h3 N3 => ?_
  refine WOL.sto rfl rfl tp52 N3.at_ rfl rfl (Nat.le_of_ble_eq_true rfl) rfl (f.hx (Y2.trans N3.hx)) y2 fun h4 P4 => ?_
  have Z4:HX h2 h4:=P4.hx _ N3.hx (Nat.le_refl _)
  have Y4:=Y2.trans Z4
  have B5:=P4.at_
  have R5:=R2.hx Z4
  refine WOL.as rfl <| WOL.nil <| keep [(2,_),(3,_),(5,_),(6,_)] ⟨rfl,rfl,rfl,rfl,trivial⟩ ?_
  refine WL.seq ?_
  refine WL.sr <| WOL.mv rfl ?_
  refine WOL.bi (v:=.bool false) rfl rfl rfl ?_
  refine WOL.mv rfl <| WOL.now (b:=false) rfl rfl ?_
  refine WOL.ld rfl (load_row tp52 B5 rfl (Nat.le_of_ble_eq_true rfl)) ?_
  refine WOL.now (b:=false) rfl rfl ?_
  refine WOL.cl1 rfl rfl ((c31 H R5).mono ?_)
  rintro v h5 ⟨rfl,X5⟩
  have Y5:=Y4.trans X5
  obtain ⟨G,hG,sG⟩:=(R5.hx X5).lens
  rw [List.length_reverse] at hG
  refine WOL.now (b:=false) rfl rfl ?_
  refine WOL.bi (v:=.bool false) rfl rfl rfl ?_
  refine WOL.pkf rfl rfl <| WOL.mv rfl <| WOL.now (b:=false) rfl rfl <| WOL.fa rfl (fa_of fo52_2) <| WOL.now (b:=false) rfl rfl ?_
  refine WOL.ld rfl (load_one tp43 (B5.hx X5) rfl) ?_
  refine WOL.now (b:=false) rfl rfl ?_
  refine WOL.len rfl sG u43 ?_
  refine WOL.now (b:=false) rfl rfl <| WOL.fa rfl (fa_of fo46_2) <| WOL.now (b:=false) rfl rfl ?_
  refine WOL.ld rfl (load_one tp43 (A2.hx Y5) rfl) ?_
  refine WOL.now (b:=false) rfl rfl ?_
  refine WOL.len rfl (SlC.hx sF Y5) u43 ?_
  refine WOL.now (b:=false) rfl rfl ?_
  rw [hG,hF]
  refine WOL.bi rfl rfl (ne_same _) ?_
  refine WOL.pkf rfl rfl <| WOL.nil <| keep [(2,_),(3,_),(5,_),(73,_)] ⟨rfl,rfl,rfl,rfl,trivial⟩ ?_
  refine WL.no rfl <| WL.skip ?_
  refine WL.sr ?_
  refine WOL.ld rfl (load_row tp52 (B5.hx X5) rfl (Nat.le_of_ble_eq_true rfl)) ?_
  refine WOL.cl1 rfl rfl ((c25 H (R5.hx X5) (f.on Y5)).mono ?_)
  rintro v h6 ⟨w1,w2,rfl,X6,R6⟩
  have Y6:=Y5.trans X6
  refine WOL.cl1 rfl rfl ((c28 H X R6 (f.on Y6)).mono ?_)
  rintro v h7 ⟨co1,i1,j1,co2,i2,j2,rfl,X7,R7,_,_⟩
  rw [List.reverse_reverse] at R7
  have Y7:=Y6.trans X7
  have y7:=Y7.next
  refine WOL.mv rfl <| WOL.ex rfl rfl <| WOL.ex rfl rfl <| WOL.al tp52 fun h8 N8 => ?_
  refine WOL.sto rfl rfl tp52 N8.at_ rfl rfl (Nat.le_of_ble_eq_true rfl) rfl (f.hx (Y7.trans N8.hx)) y7 fun h9 P9 => ?_
  have Z9:HX h7 h9:=P9.hx _ N8.hx (Nat.le_refl _)
  have Y9:=Y7.trans Z9
  have U9:HX h4 h9:=((X5.trans X6).trans X7).trans Z9
  refine WOL.as rfl <| WOL.nil <| keep [(2,_),(3,_),(5,_),(7,_),(8,_)] ⟨rfl,rfl,rfl,rfl,rfl,trivial⟩ ?_
  refine WL.seq ?_
  refine WL.sr <| WOL.mv rfl ?_
  refine WOL.bi (v:=.bool false) rfl rfl rfl ?_
  refine WOL.mv rfl <| WOL.now (b:=false) rfl rfl ?_
  refine WOL.ld rfl (load_row tp52 P9.at_ rfl (Nat.le_of_ble_eq_true rfl)) ?_
  refine WOL.now (b:=false) rfl rfl ?_
  refine WOL.ld rfl (load_row tp46 (A2.hx Y9) rfl (Nat.le_of_ble_eq_true rfl)) ?_
  refine WOL.now (b:=false) rfl rfl ?_
  refine WOL.cl2 rfl rfl rfl ((c57 H (R7.hx Z9) (r.hx Y9)).mono ?_)
  rintro v h10 ⟨rfl,X10⟩
  have Y10:=Y9.trans X10
  refine WOL.now (b:=false) rfl rfl <| WOL.nt rfl <| WOL.pkf rfl rfl <| WOL.nil <| keep [(2,_),(3,_),(5,_),(87,_)] ⟨rfl,rfl,rfl,rfl,trivial⟩ ?_
  refine WL.no rfl <| WL.skip ?_
  exact kto (k8w H X A hx hy hz (f.on Y10) (A2.hx Y10) (A3.hx Y10) ((B5.hx U9).hx X10) (r.hx Y10) ((R5.hx U9).hx X10)) ⟨rfl,rfl,rfl,trivial⟩
end
set_option maxHeartbeats 2000000 in
set_option maxRecDepth 100000 in
theorem k8all (H:Has tp) (X:HasX tp) (A:Awk tp) {s:ByteArray} {n x y z:Int} (hx:-128 ≤ x ∧ x ≤ 127) (hy:-128 ≤ y ∧ y ≤ 127) (hz:-128 ≤ z ∧ z ≤ 127) {v1 v2:Value} {F:List Nat} {S:List (Int × Int)} {h:TH} (r:RunH h v1 v2 F S) (f:Free0 h.next h) :
    CallW Tryz.prog tp (.func (.func 8) #[] #[]) #[runV s n v1 v2,.agg #[.int .i8 x,.int .i8 y,.int .i8 z]] h fun v _ => v = .bool true:=by
  refine CallW.fnL (H.fn 8 f8 rfl rfl) ?_
  show ∀ a,Kn _ a → W Tryz.prog tp false c8 a h _
  rw [c8_eq]
  obtain ⟨bv1,kv1,rfl⟩:=r.f.form
  obtain ⟨bv2,kv2,rfl⟩:=r.s.form
  refine WL.sr <| WOL.box rfl fun h1 N1 => ?_
  refine WOL.box rfl fun h2 N2 => ?_
  refine WOL.as rfl <| WOL.nil <| keep [(2,_),(3,_)] ⟨rfl,rfl,trivial⟩ ?_
  have X2:=N1.hx.trans N2.hx
  have A2:=N1.at_.hx N2.hx
  have A3:=N2.at_
  have exit:∀ g,∀ a,Kn [(50,.bool true)] a → W Tryz.prog tp false (.cond (Ot 50) (.seq (.reg r8_2) .ret) .skip) a g (andThen (fun a h => W Tryz.prog tp false r8v a h (Fin Tryz.prog f8.results fun v _ => v = .bool true)) (Fin Tryz.prog f8.results fun v _ => v = .bool true)):=by
    intro g
    refine WL.yes rfl <| WL.sr <| WOL.cl0 rfl ((k11 A g).mono ?_)
    rintro v h4 ⟨rfl,rfl⟩
    refine WOL.as rfl <| WOL.nil ?_
    exact WL.ret (WL.end_ rfl rfl)
  refine WL.seq ?_
  refine WL.sr ?_
  refine WOL.ld rfl (load_row tp46 A2 rfl (Nat.le_of_ble_eq_true rfl)) ?_
  refine WOL.cl1 rfl rfl ((k23 H (s:=s) (n:=n) (r.f.hx X2) (r.s.hx X2)).mono ?_)
  rintro v h3 ⟨rfl,X3⟩
  have Y3:=X2.trans X3
  refine WOL.nt rfl <| WOL.mv rfl ?_
  cases hb:shortB s F.length S.length with
  | false =>
    refine WOL.skp (b:=true) rfl rfl <| WOL.skp (b:=true) rfl rfl <| WOL.skp (b:=true) rfl rfl <| WOL.pkt rfl rfl <| WOL.nil ?_
    exact kto (exit h3) ⟨rfl,trivial⟩
  | true =>
    obtain ⟨hF,hS⟩:=short_small hb
    obtain ⟨es,L,hE,hL⟩:=lev_some F
    refine WOL.now (b:=false) rfl rfl ?_
    refine WOL.ld rfl (load_row tp46 (A2.hx X3) rfl (Nat.le_of_ble_eq_true rfl)) ?_
    refine WOL.now (b:=false) rfl rfl ?_
    refine WOL.cl1 rfl rfl ((k31 H (s:=s) (n:=n) (r.hx Y3) hE hL (by omega) (by omega)).mono ?_)
    rintro v h4 ⟨rfl,X4⟩
    have Y4:=Y3.trans X4
    refine WOL.now (b:=false) rfl rfl ?_
    refine WOL.bi rfl rfl nzero ?_
    refine WOL.pkf rfl rfl <| WOL.nil ?_
    rcases nz_cases (runE s n F.length S es L) with h0 | h0
    · have V:=valid_of hL h0
      have c:=Cel.of V hE h0
      obtain ⟨_,b2⟩:=V.back
      have R:RunC s n h4 (.slice bv1 F.length kv1) (.slice bv2 S.length kv2) (cellsL L S):=⟨F,es,by rw [b2]; exact r.hx Y4,c⟩
      rw [h0]
      refine WL.no rfl <| WL.skip ?_
      exact kto (k8v H X A hx hy hz (f.on Y4) ((A2.hx X3).hx X4) ((A3.hx X3).hx X4) R) ⟨rfl,rfl,trivial⟩
    · rw [h0]
      exact kto (exit h4) ⟨rfl,trivial⟩
attribute [local irreducible] Ty valOf
theorem i8_in {z:Int} (h:(Lit.int .i8 z).wf = true):-128 ≤ z ∧ z ≤ 127:=by
  have h:(decide (IntKind.i8.min ≤ z) && decide (z ≤ IntKind.i8.max)) = true:=h
  have e1:IntKind.i8.min = -128:=by decide
  have e2:IntKind.i8.max = 127:=by decide
  rw [e1,e2] at h
  simpa using h
theorem ty_three {h:TH} {n:Nat} {ps:List Value} (y:Ty Tryz.prog h (n + 2) 92 ps):∃ a b c:Int,ps = [.int .i8 a,.int .i8 b,.int .i8 c] ∧ (-128 ≤ a ∧ a ≤ 127) ∧ (-128 ≤ b ∧ b ≤ 127) ∧ (-128 ≤ c ∧ c ≤ 127):=by
  obtain ⟨p,q,rfl,_,y1,p',q',rfl,_,y2,p3,q3,rfl,_,y3,rfl⟩:=tyg_array u92 y
  obtain ⟨a,rfl,ha⟩:=tyg_int u91 y1
  obtain ⟨b,rfl,hb⟩:=tyg_int u91 y2
  obtain ⟨c,rfl,hc⟩:=tyg_int u91 y3
  exact ⟨a,b,c,rfl,i8_in ha,i8_in hb,i8_in hc⟩
theorem law8:Law tpE 8 5 [46,92]:=by
  intro h us f ha
  match us,ha with
  | [a0,a1],⟨⟨p0,y0,e0⟩,⟨p1,y1,e1⟩,_⟩ =>
    obtain ⟨s,z,v1,v2,F,S,rfl,r⟩:=ty_run y0
    obtain ⟨a,b,c,rfl,ha,hb,hc⟩:=ty_three y1
    rw [val_agg (.inl ⟨_,Tryz.underlying46⟩)] at e0
    rw [val_agg (.inr ⟨_,_,u92⟩)] at e1
    subst e0 e1
    exact k8all hasE hasXE awkE (s:=s) (n:=z) ha hb hc r f
end Go.Tidy
