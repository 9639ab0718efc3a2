/- A part of the proof. -/
import Derived.Test.YtcgodmeccmkcaaaGreatDoorPa5
import Derived.Test.YtcgodmeccmkcaaaGreatDoorPa4
import Derived.Test.YtcgodmeccmkcaaaGreatDoorPa2
set_option linter.all false
namespace Go.Tidy
open Go Go.Proofs Tab
variable {tp:TProg}
theorem trace_ok {n:Int} {L:List Int} {S:List (Int × Int)} (h:traceE n L S = 0):(0 ≤ n ∧ n ≤ 100000000) ∧ (∀ i,-1073741824 ≤ L.getD i 0 ∧ L.getD i 0 ≤ 1073741824) ∧ holeE L.length (-1) S = 0 ∧ S.any (anyIn L) = false ∧ L.length ≤ 4096 ∧ n + (L.length:Int) ≤ 100000000:=by
  have all:=firstNZ_zero h
  have a1:=all _ (List.mem_cons_self ..)
  have a2:=all (cond (decide ((L.length:Int) > 4096)) 5 0) (by simp)
  have a3:=all (cond (decide (n + (L.length:Int) > 100000000)) 4 0) (by simp)
  have a4:=all (firstNZ (L.map readE)) (by simp)
  have a5:=all (cond (holeE L.length (-1) S != 0) (holeE L.length (-1) S) (formE L S)) (by simp)
  have a6:=firstNZ_zero a4
  have hh:holeE L.length (-1) S = 0:=by
    cases hb:(holeE L.length (-1) S != 0) with
    | true => rw [hb] at a5;exact a5
    | false => exact bne_eq_false_iff_eq.1 hb
  refine ⟨out_in a1,fun i => ?_,hh,?_,?_,?_⟩
  · rw [List.getD_eq_getElem?_getD]
    cases hL:L[i]? with
    | none => exact ⟨by decide,by decide⟩
    | some x =>
      have:=a6 _ (List.mem_map.2 ⟨x,List.mem_of_getElem? hL,rfl⟩)
      unfold readE outB at this
      show -1073741824 ≤ x ∧ x ≤ 1073741824
      cases h1:decide (x < -1073741824) with
      | true => rw [h1] at this;cases this
      | false =>
        cases h2:decide (x > 1073741824) with
        | true => rw [h1,h2] at this;cases this
        | false =>
          have:=of_decide_eq_false h1
          have:=of_decide_eq_false h2
          omega
  · rw [hh] at a5
    replace a5:formE L S = 0:=a5
    unfold formE at a5
    cases hf:S.any (anyIn L) with
    | true => rw [hf] at a5;cases a5
    | false => rfl
  · cases hb:decide ((L.length:Int) > 4096) with
    | true => rw [hb] at a2;cases a2
    | false => have:=of_decide_eq_false hb;omega
  · cases hb:decide (n + (L.length:Int) > 100000000) with
    | true => rw [hb] at a3;cases a3
    | false => have:=of_decide_eq_false hb;omega
section
variable {h:TH} {n n':Int} {v1 v2 w1 w2:Value} {L1 L2:List Int} {S1 S2:List (Int × Int)}
set_option maxHeartbeats 4000000 in
set_option maxRecDepth 10000 in
theorem k1114 (H:Has tp) (r1:TrcH h v1 v2 L1 S1) (r2:TrcH h w1 w2 L2 S2) (l1:L1.length ≤ 900000) (l2:L2.length ≤ 900000) (t1:S1.length ≤ 900000) (t2:S2.length ≤ 900000) (f:Free0 h.next h) :
  CallW Tryz.prog tp (.func (.func 13) #[] #[]) #[trcV n v1 v2,trcV n' w1 w2] h fun v h' => HX h h' ∧ ProgR n (firstNZ [traceE n L1 S1,traceE n' L2 S2,shapeE n n' L1.length L2.length]) (addC L1 L2 S1 S2 L1.length) h.next h' v:=by
 obtain ⟨b1,k1,e1,_⟩:=id r1.l
 obtain ⟨b2,k2,e2,_⟩:=id r1.s
 obtain ⟨b3,k3,e3,_⟩:=id r2.l
 obtain ⟨b4,k4,e4,_⟩:=id r2.s
 subst e1 e2 e3 e4
 refine CallW.fnL (H.fn 13 f1114 rfl rfl) ?_
 refine WL.sr <| WOL.box rfl fun h1 N1 => WOL.box rfl fun h2 N2 => WOL.al tp1117 fun h3 N3 => WOL.as rfl <| WOL.nil <| keep [(2,_),(3,_),(4,_)] ⟨rfl,rfl,rfl,trivial⟩ ?_
 have n1:=N1.next
 have n2:=N2.next
 have n3:=N3.next
 have A2:At h3 h.next (.cells [zi n,.slice b1 L1.length k1,.slice b2 S1.length k2] true true 31):=(N1.at_.hx N2.hx).hx N3.hx
 have A3:At h3 h1.next (.cells [zi n',.slice b3 L2.length k3,.slice b4 S2.length k4] true true 31):=N2.at_.hx N3.hx
 have A4:=N3.at_
 have X3:=(N1.hx.trans N2.hx).trans N3.hx
 have F0:∀ {g:TH},HX h g → Free0 g.next g:=fun X => f.on X
 refine WL.seq <| WL.sr <| WOL.ld rfl (load_row tp1117 A2 rfl (Nat.le_of_ble_eq_true rfl)) <| WOL.ld rfl (load_row tp1117 A3 rfl (Nat.le_of_ble_eq_true rfl)) <| WOL.ld rfl (load_row tp1117 A2 rfl (Nat.le_of_ble_eq_true rfl)) <| WOL.ld rfl (load_row tp1117 A3 rfl (Nat.le_of_ble_eq_true rfl)) ?_
 refine WOL.lq1 [h1.next,h.next,h1.next] rfl rfl rfl fun M hM => ((k1123 (n:=n) H ((r1.hx X3).relock M) (by omega) (by omega) ((F0 X3).held hM (fun b hb => by simp at hb;omega))).mono ?_)
 rintro v h4 ⟨rfl,X4⟩
 replace X4:=X4.relock
 generalize h4.withLock h3.lock = h4 at *
 have x4:=X4.next
 have Y4:=X3.trans X4
 refine WOL.lq1 [h1.next,h.next] rfl rfl rfl fun M hM => ((k1123 (n:=n') H ((r2.hx Y4).relock M) (by omega) (by omega) ((F0 Y4).held hM (fun b hb => by simp at hb;omega))).mono ?_)
 rintro v h5 ⟨rfl,X5⟩
 replace X5:=X5.relock
 generalize h5.withLock h4.lock = h5 at *
 have Y5:=Y4.trans X5
 refine WOL.cl2 rfl rfl rfl ((k1176 H (r1.hx Y5).l (r2.hx Y5).l).mono ?_)
 rintro v h6 ⟨rfl,X6⟩
 refine WOL.nt rfl <| WOL.cl2 rfl rfl rfl ((k77 H _ _ _).mono ?_)
 rintro v h7 ⟨rfl,rfl⟩
 refine WOL.bsl rfl u166 tp30 (by decide) (by decide) (by decide) (filled_ints3 _ _ _) fun h8 N8 => ?_
 refine WOL.cl1 rfl rfl ((k71 H (l:=[_,_,_]) N8.at_.get (by simp)).mono ?_)
 rintro v h9 ⟨rfl,rfl⟩
 have Z:=((X4.trans X5).trans X6).trans N8.hx
 have Y:=X3.trans Z
 replace A2:=A2.hx Z;replace A3:=A3.hx Z;replace A4:=A4.hx Z
 have yx:=Y.next
 show ∀ a,Kn _ a → WO _ _ _ a _ _
 refine WOL.as rfl <| WOL.nil <| keep [(2,_),(3,_),(4,_),(6,_)] ⟨rfl,rfl,rfl,rfl,trivial⟩ ?_
 have ee:firstNZ [traceE n L1 S1,traceE n' L2 S2,cond (!decide (n = n' ∧ L1.length = L2.length)) 2 0] = firstNZ [traceE n L1 S1,traceE n' L2 S2,shapeE n n' L1.length L2.length]:=rfl
 rw [ee]
 generalize hE:firstNZ [traceE n L1 S1,traceE n' L2 S2,shapeE n n' L1.length L2.length] = E
 by_cases e0:E ≠ 0
 ·refine WL.sr <| WOL.mv rfl <| WOL.bt rfl rfl rfl (bne_iff_ne.2 e0) <| WOL.nil <| keep [(4,_),(6,_),(27,_)] ⟨rfl,rfl,rfl,trivial⟩ ?_
  refine WL.yes rfl <| WL.sr <| WOL.bd rfl bd1117z <| WOL.mv rfl <| WOL.sto (vs:=[zi 0,.slice none 0 0,.slice none 0 0]) rfl rfl tp1117 A4 rfl rfl (Nat.le_of_ble_eq_true rfl) rfl (f.hx Y) (by omega) fun i1 M1 => WOL.as rfl <| WOL.nil ?_
  exact WL.ret (WL.endC1 rfl rfl (load_row tp1117 M1.at_ rfl (Nat.le_of_ble_eq_true rfl)) ⟨M1.hx _ Y (by omega),.inl ⟨e0,rfl⟩⟩)
 have e0:E = 0:=Classical.not_not.1 e0
 subst e0
 have all:=firstNZ_zero hE
 obtain ⟨⟨m1,m2⟩,m3,m4,m5,m6,m7⟩:=trace_ok (all (traceE n L1 S1) (by simp))
 obtain ⟨_,u3,u4,u5,u6,_⟩:=trace_ok (all (traceE n' L2 S2) (by simp))
 have sh:n = n' ∧ L1.length = L2.length:=by
  have:=all (shapeE n n' L1.length L2.length) (by simp)
  unfold shapeE at this
  cases hb:decide (n = n' ∧ L1.length = L2.length) with
  | true => exact of_decide_eq_true hb
  | false => rw [hb] at this;cases this
 refine WL.sr <| WOL.mv rfl <| WOL.bf rfl rfl rfl rfl <| WOL.nil <| keep [(2,_),(3,_),(4,_),(27,_)] ⟨rfl,rfl,rfl,rfl,trivial⟩ ?_
 refine WL.no rfl <| WL.skip ?_
 exact kto (M:=[(2,ptr h.next),(3,ptr h1.next),(4,ptr h2.next)]) (k1114b H Y (by omega) A2 A3 A4 (r1.hx Y) (r2.hx Y) m1 (by omega) sh.1 sh.2 l1 (by omega) (by omega) (holeE_in m4) (holeE_in u4) (fun i => by have:=m3 i;have:=u3 i;omega) f) ⟨rfl,rfl,rfl,trivial⟩
end
end Go.Tidy
namespace Go.Tidy
open Go Go.Proofs Tab
variable {tp:TProg}
def RevR (n p e:Int) (L:List Int) (S:List (Int × Int)) (n0:Nat) (h':TH) (v:Value):Prop :=
 (e ≠ 0 ∧ v = .tuple #[trcV 0 (.slice none 0 0) (.slice none 0 0),zi e]) ∨ (e = 0 ∧ (2 * p + 1 - (n + L.length) < 0 ∨ 2 * p + 1 - (n + L.length) + L.length > 100000000) ∧ v = .tuple #[trcV 0 (.slice none 0 0) (.slice none 0 0),zi 14]) ∨ (e = 0 ∧ 0 ≤ 2 * p + 1 - (n + L.length) ∧ 2 * p + 1 - (n + L.length) + L.length ≤ 100000000 ∧ ∃ bv w,v = .tuple #[trcV (2 * p + 1 - (n + L.length)) (slA bv L.length) w,zi 0] ∧ n0 ≤ bv ∧ TrcO n0 h' bv w L.reverse (holesOf (knownL S L.length).reverse))
section
variable {h:TH} {n p:Int} {v1 v2:Value} {L:List Int} {S:List (Int × Int)}
set_option maxHeartbeats 4000000 in
set_option maxRecDepth 10000 in
theorem k1116 (H:Has tp) (r:TrcH h v1 v2 L S) (hL:L.length ≤ 900000) (hS:S.length ≤ 900000) (f:Free0 h.next h) :
  CallW Tryz.prog tp (.func (.func 15) #[] #[]) #[trcV n v1 v2,zi p] h fun v h' => HX h h' ∧ RevR n p (firstNZ [traceE n L S,outB p 0 100000000]) L S h.next h' v:=by
 obtain ⟨b1,k1,e1,_⟩:=id r.l
 obtain ⟨b2,k2,e2,_⟩:=id r.s
 subst e1 e2
 refine CallW.fnL (H.fn 15 f1116 rfl rfl) ?_
 refine WL.sr <| WOL.box rfl fun h1 N1 => WOL.al tp1117 fun h2 N2 => WOL.as rfl <| WOL.nil <| keep [(1,_),(2,_),(4,_)] ⟨rfl,rfl,rfl,trivial⟩ ?_
 have n1:=N1.next
 have n2:=N2.next
 have A2:At h2 h.next (.cells [zi n,.slice b1 L.length k1,.slice b2 S.length k2] true true 31):=N1.at_.hx N2.hx
 have A4:=N2.at_
 have X2:=N1.hx.trans N2.hx
 refine WL.seq <| WL.sr <| WOL.ld rfl (load_row tp1117 A2 rfl (Nat.le_of_ble_eq_true rfl)) <| WOL.cl1 rfl rfl ((k1123 (n:=n) H (r.hx X2) (by omega) (by omega) (f.on X2)).mono ?_)
 rintro v h3 ⟨rfl,X3⟩
 refine WOL.mv rfl <| WOL.cl3 rfl rfl rfl rfl ((k72 H _ _ _ _).mono ?_)
 rintro v h4 ⟨rfl,rfl⟩
 refine WOL.bsl rfl u166 tp30 (by decide) (by decide) (by decide) (filled_ints _ _) fun h5 N5 => ?_
 refine WOL.cl1 rfl rfl ((k71 H (l:=[_,_]) N5.at_.get (by simp)).mono ?_)
 rintro v h6 ⟨rfl,rfl⟩
 have Z:=X3.trans N5.hx
 have Y:=X2.trans Z
 replace A2:=A2.hx Z;replace A4:=A4.hx Z
 have yx:=Y.next
 have yz:=Z.next
 show ∀ a,Kn _ a → WO _ _ _ a _ _
 refine WOL.as rfl <| WOL.nil <| keep [(1,_),(2,_),(4,_),(6,_)] ⟨rfl,rfl,rfl,rfl,trivial⟩ ?_
 generalize hE:firstNZ [traceE n L S,outB p 0 100000000] = E
 by_cases e0:E ≠ 0
 ·refine WL.sr <| WOL.mv rfl <| WOL.bt rfl rfl rfl (bne_iff_ne.2 e0) <| WOL.nil <| keep [(4,_),(6,_),(15,_)] ⟨rfl,rfl,rfl,trivial⟩ ?_
  refine WL.yes rfl <| WL.sr <| WOL.bd rfl bd1117z <| WOL.mv rfl <| WOL.sto (vs:=[zi 0,.slice none 0 0,.slice none 0 0]) rfl rfl tp1117 A4 rfl rfl (Nat.le_of_ble_eq_true rfl) rfl (f.hx Y) (by omega) fun i1 M1 => WOL.as rfl <| WOL.nil ?_
  exact WL.ret (WL.endC1 rfl rfl (load_row tp1117 M1.at_ rfl (Nat.le_of_ble_eq_true rfl)) ⟨M1.hx _ Y (by omega),.inl ⟨e0,rfl⟩⟩)
 have e0:E = 0:=Classical.not_not.1 e0
 subst e0
 have all:=firstNZ_zero hE
 obtain ⟨⟨m1,m2⟩,m3,m4,m5,m6,m7⟩:=trace_ok (all (traceE n L S) (by simp))
 obtain ⟨q1,q2⟩:=out_in (all (outB p 0 100000000) (by simp))
 refine WL.sr <| WOL.mv rfl <| WOL.bf rfl rfl rfl rfl <| WOL.nil <| keep [(1,_),(2,_),(4,_),(15,_)] ⟨rfl,rfl,rfl,rfl,trivial⟩ ?_
 refine WL.no rfl <| WL.skip ?_
 refine WL.sr <| WOL.ld rfl (load_row tp1117 A2 rfl (Nat.le_of_ble_eq_true rfl)) <| WOL.cl1 rfl rfl ((k1177 (n:=n) H (r.hx Y) (by omega) (by omega) (holeE_in m4) (f.on Y)).mono ?_)
 rintro v h7 ⟨X7,bv,bk,rfl,lv,lk,R⟩
 have x7:=X7.next
 have bvl:=R.v.lt
 have bkl:=R.k.lt
 refine WOL.al tp1194 fun h8 N8 => ?_
 have n8:=N8.next
 have Y8:=(Y.trans X7).trans N8.hx
 refine WOL.sto (vs:=[zi n,slA bv L.length,.slice none 0 0,slA bk L.length]) rfl rfl tp1194 N8.at_ rfl rfl (Nat.le_of_ble_eq_true rfl) rfl (f.hx Y8) (by omega) fun h9 P9 => WOL.nil <| keep [(1,_),(2,_),(4,_),(7,_)] ⟨rfl,rfl,rfl,rfl,trivial⟩ ?_
 have n9:=P9.next
 have Y9:HX h h9:=P9.hx _ Y8 (by omega)
 have x79:HX h7 h9:=P9.hx _ N8.hx (Nat.le_refl _)
 have x59:=X7.trans x79
 have B9:At h9 h7.next (.cells [zi n,slA bv L.length,.slice none 0 0,slA bk L.length] true true 113):=P9.at_
 replace R:=R.hx x79
 replace A2:=A2.hx x59;replace A4:=A4.hx x59
 have la4:=A4.lt
 refine WL.sr <| WOL.mv rfl <| WOL.mul (m:=2) (n:=p) rfl rfl (by omega) (by omega) <| WOL.add (m:=2 * p) (n:=1) rfl rfl (by omega) (by omega) <| WOL.ld rfl (load_row tp1117 A2 rfl (Nat.le_of_ble_eq_true rfl)) <| WOL.cl1 rfl rfl ((k1183 H (r.hx Y9).l).mono ?_)
 rintro v h10 ⟨rfl,X10⟩
 have x10:=X10.next
 rw [fwrap_i64 (by omega) (by omega)]
 have Y10:=Y9.trans X10
 replace A4:=A4.hx X10;replace B9:=B9.hx X10;replace R:=R.hx X10
 generalize hz:2 * p + 1 - (n + (L.length:Int)) = z
 refine WOL.sub (m:=2 * p + 1) (n:=n + (L.length:Int)) rfl rfl (by omega) (by omega) ?_
 rw [hz]
 refine WOL.fa rfl (fa_of fo1194_0) <| WOL.fa rfl (fa_of fo1117_0) <| WOL.sto (vs:=[zi z]) rfl rfl tp3 B9 rfl rfl (Nat.le_of_ble_eq_true rfl) rfl (f.hx Y10) (by omega) fun h11 P11 => WOL.nil <| keep [(4,_),(7,_)] ⟨rfl,rfl,trivial⟩ ?_
 have n11:=P11.next
 have Y11:HX h h11:=P11.hx _ Y10 (by omega)
 have C9:At h11 h7.next (.cells [zi z,slA bv L.length,.slice none 0 0,slA bk L.length] true true 113):=P11.at_
 have C4:=P11.oth _ _ (by omega) A4
 replace R:RowA h11 bv bk L (knownL S L.length):=⟨P11.oth _ _ (by omega) R.v,P11.oth _ _ (by omega) R.k,R.e,R.n⟩
 unfold RevR
 rw [hz]
 refine WL.seq <| WL.sr <| WOL.fa rfl (fa_of fo1194_0) <| WOL.fa rfl (fa_of fo1117_0) <| WOL.ld rfl (load_one tp3 C9 rfl) ?_
 by_cases z0:z < 0
 ·refine WOL.bt rfl rfl rfl (decide_eq_true z0) <| WOL.mv rfl <| WOL.skp (b:=true) rfl rfl <| WOL.skp (b:=true) rfl rfl <| WOL.skp (b:=true) rfl rfl <| WOL.skp (b:=true) rfl rfl <| WOL.pkt rfl rfl <| WOL.nil <| keep [(4,_),(37,_)] ⟨rfl,rfl,trivial⟩ ?_
  refine WL.yes rfl <| WL.sr <| WOL.bd rfl bd1117z <| WOL.sto (vs:=[zi 0,.slice none 0 0,.slice none 0 0]) rfl rfl tp1117 C4 rfl rfl (Nat.le_of_ble_eq_true rfl) rfl (f.hx Y11) (by omega) fun i1 M1 => WOL.as rfl <| WOL.nil ?_
  exact WL.ret (WL.endC1 rfl rfl (load_row tp1117 M1.at_ rfl (Nat.le_of_ble_eq_true rfl)) ⟨M1.hx _ Y11 (by omega),.inr (.inl ⟨rfl,.inl z0,rfl⟩)⟩)
 refine WOL.bf rfl rfl rfl (decide_eq_false z0) <| WOL.mv rfl <| WOL.now (b:=false) rfl rfl <| WOL.fa rfl (fa_of fo1194_0) <| WOL.now (b:=false) rfl rfl <| WOL.ld rfl (load_row tp1117 C9 (l:=[zi z,slA bv L.length,.slice none 0 0]) rfl (Nat.le_of_ble_eq_true rfl)) <| WOL.now (b:=false) rfl rfl <| WOL.cl1 rfl rfl ((k1183 (n:=z) (v2:=.slice none 0 0) H R.sv).mono ?_)
 rintro v h12 ⟨rfl,X12⟩
 have x12:=X12.next
 rw [fwrap_i64 (by omega) (by omega)]
 have Y12:=Y11.trans X12
 by_cases z1:z + (L.length:Int) > 100000000
 ·refine WOL.now (b:=false) rfl rfl <| WOL.bt rfl rfl rfl (decide_eq_true z1) <| WOL.pkf rfl rfl <| WOL.nil <| keep [(4,_),(37,_)] ⟨rfl,rfl,trivial⟩ ?_
  refine WL.yes rfl <| WL.sr <| WOL.bd rfl bd1117z <| WOL.sto (vs:=[zi 0,.slice none 0 0,.slice none 0 0]) rfl rfl tp1117 (C4.hx X12) rfl rfl (Nat.le_of_ble_eq_true rfl) rfl (f.hx Y12) (by omega) fun i1 M1 => WOL.as rfl <| WOL.nil ?_
  exact WL.ret (WL.endC1 rfl rfl (load_row tp1117 M1.at_ rfl (Nat.le_of_ble_eq_true rfl)) ⟨M1.hx _ Y12 (by omega),.inr (.inl ⟨rfl,.inr z1,rfl⟩)⟩)
 refine WOL.now (b:=false) rfl rfl <| WOL.bf rfl rfl rfl (decide_eq_false z1) <| WOL.pkf rfl rfl <| WOL.nil <| keep [(4,_),(7,_),(37,_)] ⟨rfl,rfl,rfl,trivial⟩ ?_
 refine WL.no rfl <| WL.skip ?_
 replace C4:=C4.hx X12;replace C9:=C9.hx X12;replace R:=R.hx X12
 have f12:=f.hx Y12
 refine WL.sr <| WOL.fa rfl (fa_of fo1194_0) <| WOL.fa rfl (fa_of fo1117_1) <| WOL.ld rfl (load_one tp29 C9 rfl) <| WOL.cl1 rfl rfl ((k1184 (n0:=h.next) H R.v hL f12 (by omega)).mono ?_)
 rintro v h13 ⟨D1,G1,O1,f13,n13⟩
 refine WOL.nil <| keep [(4,_),(7,_)] ⟨rfl,rfl,trivial⟩ ?_
 have Y13:=G1 _ Y12 (by omega)
 have D4:=O1 _ _ (by omega) C4
 have D9:=O1 _ _ (by omega) C9
 have Dk:=O1 _ _ (Ne.symm R.n) R.k
 have ek:=R.e
 have en:=R.n
 have sz:=k1185 (n0:=h.next) (tp:=tp) H Dk (by rw [ek];exact hL) f13 (by omega)
 rw [ek] at sz
 refine WL.sr <| WOL.fa rfl (fa_of fo1194_1) <| WOL.ld rfl (load_one tp145 D9 rfl) <| WOL.cl1 rfl rfl (sz.mono ?_)
 rintro v h14 ⟨E1,G2,O2,f14,n14⟩
 refine WOL.nil <| keep [(4,_),(7,_)] ⟨rfl,rfl,trivial⟩ ?_
 have Y14:=G2 _ Y13 (by omega)
 have E4:=O2 _ _ (by omega) D4
 have E9:=O2 _ _ (by omega) D9
 have E2:=O2 _ _ en D1
 have Q:RowA h14 bv bk L.reverse (knownL S L.length).reverse:=⟨E2,E1,by rw [List.length_reverse,List.length_reverse];exact ek,en⟩
 have k:=k1186 (n:=z) (tp:=tp) H Q (by rw [List.length_reverse];exact hL) (f.on Y14)
 rw [List.length_reverse] at k
 refine WL.sr <| WOL.ld rfl (load_row tp1194 E9 rfl (Nat.le_of_ble_eq_true rfl)) <| WOL.cl1 rfl rfl (k.mono ?_)
 rintro v h15 ⟨X15,w,rfl,to⟩
 have x15:=X15.next
 obtain ⟨b3,m8,k3,rfl⟩:=to.form
 have y14:=Y14.next
 refine WOL.sto (vs:=[zi z,slA bv L.length,.slice b3 m8 k3]) rfl rfl tp1117 (E4.hx X15) rfl rfl (Nat.le_of_ble_eq_true rfl) rfl (f.hx (Y14.trans X15)) (by omega) fun i1 M1 => WOL.as rfl <| WOL.nil ?_
 exact WL.ret (WL.endC1 rfl rfl (load_row tp1117 M1.at_ rfl (Nat.le_of_ble_eq_true rfl)) ⟨M1.hx _ (Y14.trans X15) (by omega),.inr (.inr ⟨rfl,by omega,by omega,bv,_,rfl,by omega,(to.put M1 (by omega) (by omega)).low (by omega)⟩)⟩)
end
end Go.Tidy
namespace Go.Tidy
open Go Go.Proofs Tab
variable {tp:TProg}
section
variable {h:TH} {n n' e:Int} {v1 v2 w1 w2:Value} {L:List Int} {S:List (Int × Int)}
theorem k1150 (H:Has tp) {b1 b2:Option Addr} {m1 c1 m2 c2:Nat} (f:Free0 h.next h):CallW Tryz.prog tp (.func (.func 53) #[] #[]) #[trcV n (.slice b1 m1 c1) (.slice b2 m2 c2)] h fun v h' => v = trcV n (.slice b1 m1 c1) (.slice b2 m2 c2) ∧ HX h h':=by
 refine CallW.fnL (H.fn 53 f1150 rfl rfl) ?_
 refine WL.sr <| WOL.box rfl fun h1 N1 => WOL.al tp1114 fun h2 N2 => WOL.nil <| keep [(1,_),(2,_)] ⟨rfl,rfl,trivial⟩ ?_
 have n1:=N1.next
 have n2:=N2.next
 have A1:At h2 h.next (.cells [zi n,.slice b1 m1 c1,.slice b2 m2 c2] true true 31):=N1.at_.hx N2.hx
 have X2:=N1.hx.trans N2.hx
 refine WL.sr <| WOL.ld rfl (load_row tp1117 A1 rfl (Nat.le_of_ble_eq_true rfl)) <| WOL.sto (vs:=[zi n,.slice b1 m1 c1,.slice b2 m2 c2]) rfl rfl tp1114 N2.at_ rfl rfl (Nat.le_of_ble_eq_true rfl) rfl (f.hx X2) (by omega) fun h3 P3 => WOL.nil ?_
 exact WL.ret (WL.endC rfl (load_row tp1114 P3.at_ rfl (Nat.le_of_ble_eq_true rfl)) ⟨rfl,P3.hx _ X2 (by omega)⟩)
end
end Go.Tidy
namespace Go.Tidy
open Go Go.Proofs Tab
theorem dark_zero {L:List Int} {S:List (Int × Int)} {i:Nat} (h:S.any (anyIn L) = false) (hi:knownB S (i:Int) = false):L.getD i 0 = 0:=by
 unfold knownB at hi
 rw [Bool.not_eq_false'] at hi
 obtain ⟨p,hp,hx⟩:=List.any_eq_true.1 hi
 have ha:=List.any_eq_false.1 h p hp
 unfold inS at hx
 simp only [Bool.and_eq_true,decide_eq_true_eq] at hx
 rw [List.getD_eq_getElem?_getD]
 cases hL:L[i]? with
 | none => rfl
 | some x =>
  show x = 0
  have hm:x ∈ (L.drop p.1.toNat).take (p.2.toNat - p.1.toNat):=by
   refine List.mem_of_getElem? (i:=i - p.1.toNat) ?_
   rw [List.getElem?_take_of_lt (by omega),List.getElem?_drop,show p.1.toNat + (i - p.1.toNat) = i by omega]
   exact hL
  by_cases h0:x = 0
  ·exact h0
  ·exact absurd (show anyIn L p = true by unfold anyIn;exact List.any_eq_true.2 ⟨x,hm,bne_iff_ne.2 h0⟩) ha
theorem zip_val {L:List Int} {S:List (Int × Int)} (h:S.any (anyIn L) = false):valC (zipK L S L.length) = L:=by
 unfold valC zipK
 rw [List.map_map]
 refine List.ext_getElem? fun i => ?_
 rw [List.getElem?_map]
 by_cases hi:i < L.length
 ·rw [List.getElem?_range hi,List.getElem?_eq_getElem hi]
  show some (cond (knownB S (i:Int)) (L.getD i 0) 0) = some L[i]
  have e:L.getD i 0 = L[i]:=by rw [List.getD_eq_getElem?_getD,List.getElem?_eq_getElem hi];rfl
  cases hk:knownB S (i:Int) with
  | true => rw [← e];rfl
  | false => rw [← e,dark_zero h hk];rfl
 ·rw [List.getElem?_eq_none (by rw [List.length_range];omega),List.getElem?_eq_none (by omega)];rfl
theorem zip_known {L:List Int} {S:List (Int × Int)} {m:Nat}:((zipK L S m).map fun c => c.2) = knownL S m:=by
 unfold zipK knownL
 rw [List.map_map];rfl
theorem rev_val {L:List Int} {S:List (Int × Int)} (h:S.any (anyIn L) = false):valC (zipK L S L.length).reverse = L.reverse:=by
 unfold valC
 rw [List.map_reverse]
 exact congrArg List.reverse (zip_val h)
theorem rev_known {L:List Int} {S:List (Int × Int)} {m:Nat}:((zipK L S m).reverse.map fun c => c.2) = (knownL S m).reverse:=by
 rw [List.map_reverse,zip_known]
theorem rev_big {L:List Int} {S:List (Int × Int)} {m:Nat} (lim:∀ i,-1073741824 ≤ L.getD i 0 ∧ L.getD i 0 ≤ 1073741824):bigC (zipK L S m).reverse = false:=by
 unfold bigC
 refine List.any_eq_false.2 fun c hc => ?_
 obtain ⟨i,_,rfl⟩:=List.mem_map.1 (List.mem_reverse.1 hc)
 have e:largeB (L.getD i 0) = false:=by
  obtain ⟨l1,l2⟩:=lim i
  unfold largeB readE outB
  rw [decide_eq_false (by omega),decide_eq_false (by omega)];rfl
 simp only [e,Bool.and_false]
 decide
def Ans (n:Int) (o:Int × List Int × List (Int × Int)) (n0:Nat) (g:TH) (v:Value):Prop:=∃ z y1 y2,v = .tuple #[trcV z y1 y2,zi o.1] ∧ IsInts g y1 o.2.1 ∧ SlL encS 2 g y2 o.2.2 ∧ (∀ z,bl y1 = some z → n0 ≤ z) ∧ (∀ z,bl y2 = some z → n0 ≤ z) ∧ ((o.1 ≠ 0 ∧ z = 0 ∧ o.2.1 = [] ∧ o.2.2 = []) ∨ (o.1 = 0 ∧ z = n))
theorem Ans.err {n e:Int} {n0:Nat} {g:TH} {v:Value} (he:e ≠ 0) (hv:v = .tuple #[trcV 0 (.slice none 0 0) (.slice none 0 0),zi e]):Ans n (e,[],[]) n0 g v:=⟨0,_,_,hv,.inl ⟨rfl,rfl⟩,SlL.nil,fun z hz => (by cases hz),fun z hz => (by cases hz),.inl ⟨he,rfl,rfl,rfl⟩⟩
theorem TrcO.ints {n0 bv m:Nat} {g:TH} {w:Value} {L:List Int} {S:List (Int × Int)} (r:TrcO n0 g bv w L S) (hm:m = L.length):IsInts g (slA bv m) L:=by
 subst hm
 have:=r.v
 rw [cat_I] at this
 exact .inr ⟨bv,L.length,_,_,_,rfl,this.lt,this.get⟩
end Go.Tidy
namespace Go.Tidy
open Go Go.Proofs Tab
def tapN (L:List Int) (i:Nat):List (Nat × Int) → Int → Int
 | [],s => s
 | t :: T,s => tapN L i T (s + t.2 * L.getD (i + t.1) 0)
def tapK (S:List (Int × Int)) (i:Nat) (T:List (Nat × Int)):Bool:=T.all fun t => knownB S ((i + t.1:Nat):Int)
def tapC (L:List Int) (S:List (Int × Int)) (T:List (Nat × Int)) (m:Nat):List (Int × Bool):=(List.range m).map fun i => (tapN L i T 0,tapK S i T)
theorem tapC_len {L:List Int} {S:List (Int × Int)} {T:List (Nat × Int)} {m:Nat}:(tapC L S T m).length = m:=by unfold tapC;rw [List.length_map,List.length_range]
theorem tapC_get {L:List Int} {S:List (Int × Int)} {T:List (Nat × Int)} {m i:Nat} (h:i < m):(tapC L S T m)[i]? = some (tapN L i T 0,tapK S i T):=by
 unfold tapC
 rw [tbl_get,if_pos h]
theorem tapN_app {L:List Int} {i:Nat}:∀ {T U:List (Nat × Int)} {s:Int},tapN L i (T ++ U) s = tapN L i U (tapN L i T s)
 | [],_,_ => rfl
 | t :: T,U,s => by
  show tapN L i (T ++ U) _ = tapN L i U (tapN L i T _)
  exact tapN_app
theorem tapN_lim {L:List Int} {i:Nat} (hL:∀ j,-1073741824 ≤ L.getD j 0 ∧ L.getD j 0 ≤ 1073741824):∀ {T:List (Nat × Int)} {s B:Int},(∀ t,t ∈ T → -10000 ≤ t.2 ∧ t.2 ≤ 10000) → -B ≤ s → s ≤ B → -(B + T.length * 10737418240000) ≤ tapN L i T s ∧ tapN L i T s ≤ B + T.length * 10737418240000
  | [],s,B,_,h1,h2 => by
    show -(B + ((0:Nat):Int) * _) ≤ s ∧ s ≤ B + ((0:Nat):Int) * _
    omega
  | t :: T,s,B,hT,h1,h2 => by
    obtain ⟨a1,a2⟩:=hT t (List.mem_cons_self ..)
    obtain ⟨b1,b2⟩:=hL (i + t.1)
    have hp:(t.2 * L.getD (i + t.1) 0).natAbs ≤ 10737418240000:=by
      rw [Int.natAbs_mul]
      exact Nat.le_trans (Nat.mul_le_mul (show t.2.natAbs ≤ 10000 by omega) (show (L.getD (i + t.1) 0).natAbs ≤ 1073741824 by omega)) (by decide)
    have ih:=tapN_lim (i:=i) hL (T:=T) (s:=s + t.2 * L.getD (i + t.1) 0) (B:=B + 10737418240000) (fun u hu => hT u (List.mem_cons_of_mem _ hu)) (by omega) (by omega)
    show _ ≤ tapN L i T _ ∧ tapN L i T _ ≤ _
    rw [List.length_cons]
    omega
end Go.Tidy
namespace Go.Tidy
open Go Go.Proofs Tab
variable {tp:TProg}
theorem tp1242:Tp Tryz.prog 192 2 [.int .i64 0,.int .i64 0] true:=tp_of (by kernel_rfl) (by kernel_rfl) rfl
theorem u1214:Tryz.prog.underlying 142 = some (.slice 192):=by kernel_rfl
theorem fo1242_0:fieldOff Tryz.prog 192 0 = some 0:=by kernel_rfl
theorem fo1242_1:fieldOff Tryz.prog 192 1 = some 1:=by kernel_rfl
theorem tp1214:Tp Tryz.prog 142 1 [.slice none 0 0] false:=tp_of (by kernel_rfl) (by kernel_rfl) rfl
theorem bd1242 {a b:Int}:buildT Tryz.prog 192 [(0,zi a),(1,zi b)] = some (.agg #[zi a,zi b]):=by kernel_rfl
theorem filled_taps3 (a b c:Int × Int):filled 2 3 [zi 0,zi 0] [(0,.agg #[zi a.1,zi a.2]),(1,.agg #[zi b.1,zi b.2]),(2,.agg #[zi c.1,zi c.2])] = some (cat encS [a,b,c]):=by
 rfl
def tapB (B:List Bool) (i:Nat) (T:List (Nat × Int)):Bool:=T.all fun t => B.getD (i + t.1) false
theorem tapB_known {S:List (Int × Int)} {m i:Nat} {T:List (Nat × Int)} (h:∀ t,t ∈ T → i + t.1 < m):tapB (knownL S m) i T = tapK S i T:=by
 unfold tapB tapK
 rw [Bool.eq_iff_iff,List.all_eq_true,List.all_eq_true]
 have e:∀ t,t ∈ T → (knownL S m).getD (i + t.1) false = knownB S ((i + t.1:Nat):Int):=fun t ht => by
  rw [List.getD_eq_getElem?_getD,knownL_get (h t ht)];rfl
 exact ⟨fun q t ht => (e t ht) ▸ q t ht,fun q t ht => (e t ht).symm ▸ q t ht⟩
def tapD (c:Int) (T:List (Nat × Int)):List (Int × Int):=T.map fun t => ((t.1:Int) + c,t.2)
theorem mul_lim {w x:Int} (a1:-10000 ≤ w) (a2:w ≤ 10000) (b1:-1073741824 ≤ x) (b2:x ≤ 1073741824):-10737418240000 ≤ w * x ∧ w * x ≤ 10737418240000:=by
 have hp:(w * x).natAbs ≤ 10737418240000:=by
  rw [Int.natAbs_mul]
  exact Nat.le_trans (Nat.mul_le_mul (show w.natAbs ≤ 10000 by omega) (show x.natAbs ≤ 1073741824 by omega)) (by decide)
 omega
section
variable {h:TH} {n:Int} {L:List Int} {B:List Bool} {bv bk:Nat}
set_option maxRecDepth 10000 in
theorem k1199 (H:Has tp) {a b:Int} (a1:-1000000 ≤ a) (a2:a ≤ 1000000) (b1:-1000000 ≤ b) (b2:b ≤ 1000000) (h:TH):CallW Tryz.prog tp (.func (.func 99) #[] #[]) #[.agg #[zi a,zi b]] h fun v h' => v = zi (a + b) ∧ HX h h':=by
 refine CallW.fnL (H.fn 99 f1199 rfl rfl) ?_
 refine WL.sr <| WOL.box rfl fun h1 N1 => WOL.as rfl <| WOL.nil <| keep [(1,_)] ⟨rfl,trivial⟩ ?_
 have A1:At h1 h.next (.cells [zi a,zi b] true true 44):=N1.at_
 refine WL.sr ?_
 repeat' (first
  | refine WOL.now (b:=true) rfl rfl ?_
  | refine WOL.now (b:=false) rfl rfl ?_
  | refine WOL.skp (b:=true) rfl rfl ?_
  | refine WOL.skp (b:=false) rfl rfl ?_
  | refine WOL.gu rfl rfl ?_
  | refine WOL.mv rfl ?_
  | refine WOL.as rfl ?_
  | refine WOL.ex rfl rfl ?_
  | refine WOL.nt rfl ?_
  | refine WOL.pkt rfl rfl ?_
  | refine WOL.pkf rfl rfl ?_
  | refine WOL.fa rfl (fa_of (by first | exact fo1117_0 | exact fo1117_1 | exact fo1117_2 | exact fo1114_0 | exact fo1114_1 | exact fo1114_2 | exact fo1194_0 | exact fo1194_1 | exact fo1112_0 | exact fo1112_1 | exact fo1128_0 | exact fo1128_1 | exact fo48_0 | exact fo48_1 | exact fo1207_0 | exact fo1207_1)) ?_
  | refine WOL.ld rfl (load_one (by first | exact tp3 | exact tp29 | exact tp4 | exact tp145 | exact tp44 | exact tp48 | exact tp1117 | exact tp1114 | exact tp1194 | exact tp1112 | exact tp1128 | exact tp1207) A1 rfl) ?_
  | refine WOL.ld rfl (load_row (by first | exact tp3 | exact tp29 | exact tp4 | exact tp145 | exact tp44 | exact tp48 | exact tp1117 | exact tp1114 | exact tp1194 | exact tp1112 | exact tp1128 | exact tp1207) A1 rfl (Nat.le_of_ble_eq_true rfl)) ?_
  | refine WOL.add rfl rfl (by omega) (by omega) ?_
  | refine WOL.sub rfl rfl (by omega) (by omega) ?_
  | refine WOL.bt rfl rfl rfl (by first | exact decide_eq_true (by omega) | exact beq_iff_eq.2 (by omega) | exact bne_iff_ne.2 (by omega)) ?_
  | refine WOL.bf rfl rfl rfl (by first | exact decide_eq_false (by omega) | exact beq_eq_false_iff_ne.2 (by omega) | exact bne_eq_false_iff_eq.2 (by omega)) ?_)
 exact WOL.nil <| WL.ret (WL.end_ rfl ⟨rfl,N1.hx⟩)
set_option maxRecDepth 10000 in
theorem k1194 (H:Has tp) {a b:Int} (a1:-1000000 ≤ a) (a2:a ≤ 1000000) (b1:-1000000 ≤ b) (b2:b ≤ 1000000) (h:TH):CallW Tryz.prog tp (.func (.func 94) #[] #[]) #[.agg #[zi a,zi b]] h fun v h' => HX h h' ∧ ∃ c,v = slA c 3 ∧ h.next ≤ c ∧ At h' c (.cells (cat encS [(-a,-b),(0,a + b),(b,-a)]) true true 192):=by
 refine CallW.fnL (H.fn 94 f1194 rfl rfl) ?_
 refine WL.sr <| WOL.box rfl fun h1 N1 => WOL.as rfl <| WOL.nil <| keep [(1,_)] ⟨rfl,trivial⟩ ?_
 have n1:=N1.next
 have A1:At h1 h.next (.cells [zi a,zi b] true true 44):=N1.at_
 refine WL.sr ?_
 repeat' (first
  | refine WOL.neg rfl (by omega) (by omega) ?_
  | refine WOL.bd rfl bd1242 ?_
  | refine WOL.now (b:=true) rfl rfl ?_
  | refine WOL.now (b:=false) rfl rfl ?_
  | refine WOL.skp (b:=true) rfl rfl ?_
  | refine WOL.skp (b:=false) rfl rfl ?_
  | refine WOL.gu rfl rfl ?_
  | refine WOL.mv rfl ?_
  | refine WOL.as rfl ?_
  | refine WOL.ex rfl rfl ?_
  | refine WOL.nt rfl ?_
  | refine WOL.pkt rfl rfl ?_
  | refine WOL.pkf rfl rfl ?_
  | refine WOL.fa rfl (fa_of (by first | exact fo1117_0 | exact fo1117_1 | exact fo1117_2 | exact fo1114_0 | exact fo1114_1 | exact fo1114_2 | exact fo1194_0 | exact fo1194_1 | exact fo1112_0 | exact fo1112_1 | exact fo1128_0 | exact fo1128_1 | exact fo48_0 | exact fo48_1 | exact fo1207_0 | exact fo1207_1)) ?_
  | refine WOL.ld rfl (load_one (by first | exact tp3 | exact tp29 | exact tp4 | exact tp145 | exact tp44 | exact tp48 | exact tp1117 | exact tp1114 | exact tp1194 | exact tp1112 | exact tp1128 | exact tp1207) A1 rfl) ?_
  | refine WOL.ld rfl (load_row (by first | exact tp3 | exact tp29 | exact tp4 | exact tp145 | exact tp44 | exact tp48 | exact tp1117 | exact tp1114 | exact tp1194 | exact tp1112 | exact tp1128 | exact tp1207) A1 rfl (Nat.le_of_ble_eq_true rfl)) ?_
  | refine WOL.add rfl rfl (by omega) (by omega) ?_
  | refine WOL.sub rfl rfl (by omega) (by omega) ?_
  | refine WOL.bt rfl rfl rfl (by first | exact decide_eq_true (by omega) | exact beq_iff_eq.2 (by omega) | exact bne_iff_ne.2 (by omega)) ?_
  | refine WOL.bf rfl rfl rfl (by first | exact decide_eq_false (by omega) | exact beq_eq_false_iff_ne.2 (by omega) | exact bne_eq_false_iff_eq.2 (by omega)) ?_)
 refine WOL.lk1 rfl rfl fun M => ((k1199 H a1 a2 b1 b2 _).mono ?_)
 rintro v h2 ⟨rfl,X2⟩
 replace X2:=X2.relock
 generalize h2.withLock h1.lock = h2 at *
 have x2:=X2.next
 refine WOL.bd rfl bd1242 <| WOL.bsl rfl u1214 tp1242 (by decide) (by decide) (by decide) (filled_taps3 (-a,-b) (0,a + b) (b,-a)) fun h3 N3 => WOL.as rfl <| WOL.nil ?_
 exact WL.ret (WL.end_ rfl ⟨(N1.hx.trans X2).trans N3.hx,h2.next,rfl,by omega,N3.at_⟩)
set_option maxHeartbeats 2000000 in
set_option maxRecDepth 10000 in
theorem k1226 (H:Has tp) (r:RowA h bv bk L B) {T:List (Nat × Int)} {c p:Int} {i:Nat} {v:Value} (s:SlL encS 2 h v (tapD c T)) (hp:p + c = n + (i:Nat)) (hT:∀ t,t ∈ T → i + t.1 < L.length) (hw:∀ t,t ∈ T → -10000 ≤ t.2 ∧ t.2 ≤ 10000) (lT:T.length ≤ 1000) (lim:∀ j,-1073741824 ≤ L.getD j 0 ∧ L.getD j 0 ≤ 1073741824) (h0:0 ≤ n) (h1:n ≤ 1000000000) (hl:L.length ≤ 1000000) (c1:-1000000 ≤ c) (c2:c ≤ 1000000) (f:Free0 h.next h) :
    CallW Tryz.prog tp (.func (.func 137) #[] #[]) #[rowV n (slA bv L.length) (slA bk L.length),zi p,v] h fun v h' => v = .tuple #[zi (cond (tapB B i T) (tapN L i T 0) 0),.bool (tapB B i T)] ∧ HX h h':=by
  refine CallW.fnL (H.fn 137 f1226 rfl rfl) ?_
  refine WL.sr <| WOL.box rfl fun h1 N1 => WOL.as rfl <| WOL.as rfl <| WOL.nil <| keep [(1,_),(2,_),(3,_)] ⟨rfl,rfl,rfl,trivial⟩ ?_
  have n1:=N1.next
  have A1:At h1 h.next (.cells [zi n,slA bv L.length,.slice none 0 0,slA bk L.length] true true 113):=N1.at_
  have lD:(tapD c T).length = T.length:=by unfold tapD;rw [List.length_map]
  refine WL.sr <| WOL.as rfl <| WOL.nil ?_
  refine WL.seq <| WL.sr <| WOL.mv rfl <| WOL.len rfl (s.hx N1.hx) u1214 <| WOL.mv rfl <| WOL.nil <| keep [(1,_),(3,_),(8,_),(13,_),(14,_),(15,_)] ⟨rfl,rfl,rfl,rfl,rfl,rfl,trivial⟩ ?_
  rw [lD]
  refine WL.upto (α:=Int) T.length (fun j z g => HX h1 g ∧ tapB B i (T.take j) = true ∧ z = tapN L i (T.take j) 0) (fun j z => [(1,zi p),(3,ptr h.next),(8,zi z),(13,v),(14,zi (T.length:Nat))]) 0 rfl rfl (by omega) ⟨HX.refl _,rfl,rfl⟩ ⟨rfl,rfl,rfl,rfl,rfl,rfl,trivial⟩ (fun _ _ => rfl) (fun _ _ _ => ⟨rfl,rfl,rfl,rfl,rfl,rfl,trivial⟩) (fun _ _ _ => ⟨rfl,rfl,rfl,rfl,rfl,rfl,trivial⟩) ?_ ?_
  · rintro j z g hj ⟨X,hB,hz⟩
    have hm:T[j] ∈ T:=List.getElem_mem hj
    have ht:T[j]? = some T[j]:=List.getElem?_eq_getElem hj
    have hz':tapN L i (T.take j) 0 + T[j].2 * L.getD (i + T[j].1) 0 = tapN L i (T.take (j + 1)) 0:=by
      rw [← List.take_append_getElem hj,tapN_app];rfl
    have hB':tapB B i (T.take (j + 1)) = B.getD (i + T[j].1) false:=by
      rw [← List.take_append_getElem hj]
      unfold tapB at hB ⊢
      rw [List.all_append,hB]
      simp
    have hT':=hT _ hm
    obtain ⟨w1,w2⟩:=hw _ hm
    generalize T[j] = t at *
    obtain ⟨o,w⟩:=t
    replace hT':i + o < L.length:=hT'
    replace w1:-10000 ≤ w:=w1
    replace w2:w ≤ 10000:=w2
    replace hz':tapN L i (T.take j) 0 + w * L.getD (i + o) 0 = tapN L i (T.take (j + 1)) 0:=hz'
    replace hB':tapB B i (T.take (j + 1)) = B.getD (i + o) false:=hB'
    have hd:(tapD c T)[j]? = some ((o:Int) + c,w):=by unfold tapD;rw [List.getElem?_map,ht];rfl
    have A1':=A1.hx X
    have xg:=X.next
    obtain ⟨b,off,cc,fix,wr,el,g1,g2,g3,g4,g5⟩:=(s.hx (N1.hx.trans X)).at eS u1214 tp1242 hd .i64
    refine WL.sr <| WOL.ix rfl rfl g1 <| WOL.ld rfl (load_row tp1242 g2 g4 g3) <| WOL.al tp1242 fun i1 M1 => ?_
    refine WOL.sto (vs:=encS ((o:Int) + c,w)) rfl rfl tp1242 M1.at_ rfl rfl (Nat.le_of_ble_eq_true rfl) rfl (f.hx (N1.hx.trans (X.trans M1.hx))) (by omega) fun i2 M2 => WOL.nil <| keep [(1,_),(3,_),(8,_),(10,_),(13,_),(14,_),(15,_)] ⟨rfl,rfl,rfl,rfl,rfl,rfl,rfl,trivial⟩ ?_
    have A2:At i2 g.next (.cells [zi ((o:Int) + c),zi w] true true 192):=M2.at_
    have XI:HX g i2:=M2.hx _ M1.hx (Nat.le_refl _)
    replace A1':=A1'.hx XI
    have Y:=X.trans XI
    obtain ⟨b1,b2⟩:=lim (i + o)
    refine WL.sr <| WOL.ld rfl (load_row tp1194 A1' rfl (Nat.le_of_ble_eq_true rfl)) <| WOL.mv rfl <| WOL.fa rfl (fa_of fo1242_0) <| WOL.ld rfl (load_one tp3 A2 rfl) <| WOL.add rfl rfl (by omega) (by omega) ?_
    rw [show p + ((o:Int) + c) = n + ((i + o:Nat):Int) by omega]
    refine WOL.cl2 rfl rfl rfl ((k1180 H (r.hx (N1.hx.trans Y)) hT' h0 ‹n ≤ 1000000000› hl).mono ?_)
    rintro u i3 ⟨rfl,X3⟩
    replace A2:=A2.hx X3
    refine WOL.mv rfl <| WOL.ex rfl rfl <| WOL.ex rfl rfl <| WOL.as rfl <| WOL.as rfl <| WOL.nil <| keep [(1,_),(3,_),(8,_),(10,_),(11,_),(12,_),(13,_),(14,_),(15,_)] ⟨rfl,rfl,rfl,rfl,rfl,rfl,rfl,rfl,rfl,trivial⟩ ?_
    cases hb:B.getD (i + o) false with
    | false =>
      have hF:tapB B i T = false:=by
        unfold tapB
        rw [List.all_eq_false]
        exact ⟨(o,w),hm,by show ¬ B.getD (i + o) false = true;rw [hb];decide⟩
      refine WL.seq <| WL.sr <| WOL.mv rfl <| WOL.nt rfl <| WOL.nil <| WL.yes rfl <| WL.sr <| WOL.as rfl <| WOL.as rfl <| WOL.nil ?_
      exact WL.ret (WL.end_ rfl ⟨by rw [hF];rfl,N1.hx.trans (Y.trans X3)⟩)
    | true =>
      rw [hb] at hB'
      refine WL.seq <| WL.sr <| WOL.mv rfl <| WOL.nt rfl <| WOL.nil <| WL.no rfl <| WL.skip ?_
      obtain ⟨m1,m2⟩:=mul_lim w1 w2 b1 b2
      have ll:=tapN_lim (i:=i) lim (T:=T.take j) (s:=0) (B:=0) (fun t ht => hw t (List.mem_of_mem_take ht)) (by omega) (by omega)
      have lj:(T.take j).length ≤ 1000:=by rw [List.length_take];omega
      rw [← hz] at ll hz'
      refine WL.reg <| WOL.mv rfl <| WOL.fa rfl (fa_of fo1242_1) <| WOL.ld rfl (load_one tp3 A2 rfl) <| WOL.mv rfl <| WOL.mul rfl rfl (by omega) (by omega) <| WOL.add rfl rfl (by omega) (by omega) <| WOL.as rfl <| WOL.nil fun a q => ?_
      exact ⟨_,⟨Y.trans X3,hB',hz'⟩,q.sub ⟨rfl,rfl,rfl,rfl,rfl,rfl,trivial⟩⟩
  · rintro z g ⟨X,hB,hz⟩
    rw [List.take_length] at hB hz
    refine WL.sr <| WOL.mv rfl <| WOL.as rfl <| WOL.as rfl <| WOL.nil ?_
    exact WL.ret (WL.end_ rfl ⟨by rw [hB,hz];rfl,N1.hx.trans X⟩)
end
end Go.Tidy
namespace Go.Tidy
open Go Go.Proofs Tab
variable {tp:TProg}
theorem tapV_get {L:List Int} {S:List (Int × Int)} {T:List (Nat × Int)} {m j:Nat} (h:j < m):(valC (tapC L S T m)).getD j 0 = cond (tapK S j T) (tapN L j T 0) 0:=by
 unfold valC
 rw [List.getD_eq_getElem?_getD,List.getElem?_map,tapC_get h];rfl
theorem tapM_get {L:List Int} {S:List (Int × Int)} {T:List (Nat × Int)} {m j:Nat} (h:j < m):((tapC L S T m).map fun c => c.2).getD j false = tapK S j T:=by
 rw [List.getD_eq_getElem?_getD,List.getElem?_map,tapC_get h];rfl
structure Taps (T:List (Nat × Int)) (W:Nat):Prop where
 a:∃ y,T[0]? = some (0,y)
 z:∃ y,T[T.length - 1]? = some (W,y)
 o:∀ t,t ∈ T → t.1 ≤ W
 w:∀ t,t ∈ T → -10000 ≤ t.2 ∧ t.2 ≤ 10000
 l:T.length ≤ 1000
section
variable {h:TH} {n:Int} {v1 v2:Value} {L:List Int} {S:List (Int × Int)} {T:List (Nat × Int)} {W:Nat} {c:Int} {w:Value}
set_option maxHeartbeats 4000000 in
set_option maxRecDepth 10000 in
theorem k1193 (H:Has tp) (r:TrcH h v1 v2 L S) (s:SlL encS 2 h w (tapD c T)) (ts:Taps T W) (lim:∀ j,-1073741824 ≤ L.getD j 0 ∧ L.getD j 0 ≤ 1073741824) (n0:0 ≤ n) (n1:n ≤ 100000000) (nc:0 ≤ n - c) (c1:-1000000 ≤ c) (c2:c ≤ 1000000) (l1:L.length ≤ 900000) (t1:S.length ≤ 1000000) (i1:In L.length S) (hW:W ≤ 1000000) (f:Free0 h.next h) :
  CallW Tryz.prog tp (.func (.func 93) #[] #[]) #[trcV n v1 v2,w] h fun v h' => HX h h' ∧ ProgR (n - c) (cond (decide (L.length ≤ W)) 16 0) (tapC L S T (L.length - W)) h.next h' v:=by
 refine CallW.fnL (H.fn 93 f1193 rfl rfl) ?_
 obtain ⟨b1,k1,e1,_⟩:=id r.l
 obtain ⟨b2,k2,e2,_⟩:=id r.s
 obtain ⟨b3,k3,e3,_⟩:=id s
 subst e1 e2 e3
 have lD:(tapD c T).length = T.length:=by unfold tapD;rw [List.length_map]
 refine WL.sr <| WOL.box rfl fun h1 N1 => WOL.box rfl fun h2 N2 => WOL.al tp1117 fun h3 N3 => WOL.as rfl <| WOL.nil <| keep [(2,_),(3,_),(4,_)] ⟨rfl,rfl,rfl,trivial⟩ ?_
 have q1:=N1.next
 have q2:=N2.next
 have q3:=N3.next
 have A2:At h3 h.next (.cells [zi n,.slice b1 L.length k1,.slice b2 S.length k2] true true 31):=(N1.at_.hx N2.hx).hx N3.hx
 have A3:At h3 h1.next (.cells [.slice b3 (tapD c T).length k3] true true 142):=N2.at_.hx N3.hx
 have A4:=N3.at_
 have X3:=(N1.hx.trans N2.hx).trans N3.hx
 have s3:=s.hx X3
 have r3:=r.hx X3
 obtain ⟨ya,ta⟩:=ts.a
 obtain ⟨yz,tz⟩:=ts.z
 have lT:0 < T.length:=(List.getElem?_eq_some_iff.1 ta).1
 have d0:(tapD c T)[0]? = some (c,ya):=by
  unfold tapD
  rw [List.getElem?_map,ta]
  show some (((0:Nat):Int) + c,ya) = _
  rw [show ((0:Nat):Int) + c = c by omega]
 have dz:(tapD c T)[T.length - 1]? = some ((W:Int) + c,yz):=by unfold tapD;rw [List.getElem?_map,tz];rfl
 obtain ⟨_,_,ca,fix,wr,el,g1,g2,g3,g4,g5⟩:=s3.at eS u1214 tp1242 d0 .i64
 obtain ⟨_,_,cz,fix',wr',el',y1,y2,y3,y4,y5⟩:=s3.at eS u1214 tp1242 dz .i64
 have ga:=g5 0 (by decide)
 have gz:=y5 0 (by decide)
 rw [Nat.add_zero] at ga gz
 replace ga:ca[_]? = some (zi c):=ga
 replace gz:cz[_]? = some (zi ((W:Int) + c)):=gz
 refine WL.sr <| WOL.ld rfl (load_one tp1214 A3 rfl) <| WOL.ix rfl rfl g1 <| WOL.fa rfl (fa_of fo1242_0) <| WOL.ld rfl (load_one tp3 g2 ga) <| WOL.ld rfl (load_one tp1214 A3 rfl) <| WOL.ld rfl (load_one tp1214 A3 rfl) <| WOL.len rfl s3 u1214 <| WOL.sub (m:=(((tapD c T).length:Nat):Int)) (n:=1) rfl rfl (by rw [lD];omega) (by rw [lD];have:=ts.l;omega) ?_
 rw [show (((tapD c T).length:Nat):Int) - 1 = ((T.length - 1:Nat):Int) by rw [lD];omega]
 refine WOL.ix rfl rfl y1 <| WOL.fa rfl (fa_of fo1242_0) <| WOL.ld rfl (load_one tp3 y2 gz) <| WOL.as rfl <| WOL.as rfl <| WOL.nil <| keep [(2,_),(3,_),(4,_),(6,_),(7,_)] ⟨rfl,rfl,rfl,rfl,rfl,trivial⟩ ?_
 clear g1 g2 g3 g4 g5 y1 y2 y3 y4 y5 ga gz
 refine WL.sr <| WOL.fa rfl (fa_of fo1117_1) <| WOL.ld rfl (load_one tp29 A2 rfl) <| WOL.len rfl r3.l u29 <| WOL.mv rfl <| WOL.mv rfl <| WOL.sub (m:=(W:Int) + c) (n:=c) rfl rfl (by omega) (by omega) <| WOL.sub (m:=((L.length:Nat):Int)) (n:=(W:Int) + c - c) rfl rfl (by omega) (by omega) <| WOL.as rfl <| WOL.nil <| keep [(2,_),(3,_),(4,_),(6,_),(8,_)] ⟨rfl,rfl,rfl,rfl,rfl,trivial⟩ ?_
 rw [show ((L.length:Nat):Int) - ((W:Int) + c - c) = (L.length:Int) - W by omega]
 have F0:∀ {g:TH},HX h g → Free0 g.next g:=fun X => f.on X
 by_cases hc:L.length ≤ W
 ·rw [decide_eq_true hc]
  refine WL.seq <| WL.sr <| WOL.mv rfl <| WOL.bt rfl rfl rfl (by first | exact decide_eq_true (by omega) | exact beq_iff_eq.2 (by omega) | exact bne_iff_ne.2 (by omega)) <| WOL.nil <| WL.yes rfl <| WL.sr <| WOL.bd rfl bd1117z <| WOL.sto (vs:=[zi 0,.slice none 0 0,.slice none 0 0]) rfl rfl tp1117 A4 rfl rfl (Nat.le_of_ble_eq_true rfl) rfl (f.hx X3) (by omega) fun i1 M1 => WOL.as rfl <| WOL.nil ?_
  exact WL.ret (WL.endC1 rfl rfl (load_row tp1117 M1.at_ rfl (Nat.le_of_ble_eq_true rfl)) ⟨M1.hx _ X3 (by omega),.inl ⟨by decide,rfl⟩⟩)
 rw [decide_eq_false hc]
 refine WL.seq <| WL.sr <| WOL.mv rfl <| WOL.bf rfl rfl rfl (by first | exact decide_eq_false (by omega) | exact beq_eq_false_iff_ne.2 (by omega) | exact bne_eq_false_iff_eq.2 (by omega)) <| WOL.nil <| WL.no rfl <| WL.skip ?_
 rw [show (L.length:Int) - W = ((L.length - W:Nat):Int) by omega]
 have hmW:L.length - W + W = L.length:=by omega
 generalize L.length - W = m at *
 refine keep [(2,_),(3,_),(4,_),(6,_),(8,_)] ⟨rfl,rfl,rfl,rfl,rfl,trivial⟩ ?_
 refine WL.sr <| WOL.ld rfl (load_row tp1117 A2 rfl (Nat.le_of_ble_eq_true rfl)) <| WOL.fa rfl (fa_of fo1117_0) <| WOL.ld rfl (load_one tp3 A2 rfl) <| WOL.mv rfl <| WOL.sub (m:=n) (n:=c) rfl rfl (by omega) (by omega) <| WOL.mv rfl <| WOL.al tp1194 fun h4 N4 => WOL.al tp1194 fun h5 N5 => ?_
 have q4:=N4.next
 have q5:=N5.next
 have X5:=(X3.trans N4.hx).trans N5.hx
 refine WOL.lq1 [h4.next,h3.next,h.next] rfl rfl rfl fun M hM => ((k1177 H ((r.hx X5).relock M) (by omega) t1 i1 ((F0 X5).held hM (fun b hb => by simp at hb;omega))).mono ?_)
 rintro v h6 ⟨X6,p1,p2,rfl,a1,a2,R1⟩
 replace X6:=X6.relock
 replace R1:RowA (h6.withLock h5.lock) p1 p2 L (knownL S L.length):=⟨R1.v.relock _,R1.k.relock _,R1.e,R1.n⟩
 replace a1:h5.next ≤ p1:=a1
 replace a2:h5.next ≤ p2:=a2
 generalize h6.withLock h5.lock = h6 at *
 have Y6:=X5.trans X6
 have q6:=X6.next
 have l11:=R1.v.lt
 have l12:=R1.k.lt
 refine WOL.lq2 [h4.next,h3.next] rfl rfl rfl rfl fun M hM => ((k1178 (h:=h6.withLock M) (n:=n - c) (m:=m) H (by omega) ((F0 Y6).held hM (fun b hb => by simp at hb;omega))).mono ?_)
 rintro v h7 ⟨X7,bv,bk,rfl,a3,a4,R2⟩
 replace X7:=X7.relock
 replace R2:RowA (h7.withLock h6.lock) bv bk (List.replicate m 0) (List.replicate m false):=⟨R2.v.relock _,R2.k.relock _,R2.e,R2.n⟩
 replace a3:h6.next ≤ bv:=a3
 replace a4:h6.next ≤ bk:=a4
 generalize h7.withLock h6.lock = h7 at *
 have Y7:=Y6.trans X7
 have q7:=X7.next
 have l21:=R2.v.lt
 have l22:=R2.k.lt
 have Z:=X6.trans X7
 refine WOL.sto (vs:=[zi n,slA p1 L.length,.slice none 0 0,slA p2 L.length]) rfl rfl tp1194 ((N4.at_.hx N5.hx).hx Z) rfl rfl (Nat.le_of_ble_eq_true rfl) rfl (f.hx Y7) (by omega) fun h8 P8 => ?_
 have q8:=P8.next
 have Y8:HX h h8:=P8.hx _ Y7 (by omega)
 refine WOL.sto (vs:=[zi (n - c),slA bv m,.slice none 0 0,slA bk m]) rfl rfl tp1194 (P8.oth _ _ (by omega) (N5.at_.hx Z)) rfl rfl (Nat.le_of_ble_eq_true rfl) rfl (f.hx Y8) (by omega) fun h9 P9 => WOL.nil <| keep [(3,_),(4,_),(9,_),(10,_)] ⟨rfl,rfl,rfl,rfl,trivial⟩ ?_
 have q9:=P9.next
 have Y9:HX h h9:=P9.hx _ Y8 (by omega)
 have O9:∀ b y,b ≠ h3.next → b ≠ h4.next → At h7 b y → At h9 b y:=fun b y e1 e2 a => P9.oth _ _ e2 (P8.oth _ _ e1 a)
 have B9:=P9.oth _ _ (by omega) P8.at_
 have B10:=P9.at_
 have B4:=O9 _ _ (by omega) (by omega) (((A4.hx N4.hx).hx N5.hx).hx Z)
 have B3:=O9 _ _ (by omega) (by omega) (((A3.hx N4.hx).hx N5.hx).hx Z)
 have C1:RowA h9 p1 p2 L (knownL S L.length):=⟨O9 _ _ (by omega) (by omega) (R1.v.hx X7),O9 _ _ (by omega) (by omega) (R1.k.hx X7),R1.e,R1.n⟩
 have C2:RowA h9 bv bk (List.replicate m 0) (List.replicate m false):=⟨O9 _ _ (by omega) (by omega) R2.v,O9 _ _ (by omega) (by omega) R2.k,R2.e,R2.n⟩
 have lb4:=B4.lt
 have lb3:=B3.lt
 refine WL.seq <| WL.sr <| WOL.fa rfl (fa_of fo1194_0) <| WOL.ld rfl (load_row tp1117 B10 (l:=[zi (n - c),slA bv m,.slice none 0 0]) rfl (Nat.le_of_ble_eq_true rfl)) <| WOL.cl1 rfl rfl ((k1179 H h9).mono ?_)
 rintro v h10 ⟨cc,rfl,X10,Ac,ac⟩
 have q10:=X10.next
 have lc:=Ac.lt
 have Y10:=Y9.trans X10
 replace B3:=B3.hx X10;replace B4:=B4.hx X10;replace B9:=B9.hx X10;replace B10:=B10.hx X10;replace C1:=C1.hx X10;replace C2:=C2.hx X10
 refine WOL.nil <| keep [(3,_),(4,_),(9,_),(10,_),(45,_)] ⟨rfl,rfl,rfl,rfl,rfl,trivial⟩ ?_
 rw [← upTo_zero (C:=valC (tapC L S T m)),← upTo_zero (C:=(tapC L S T m).map fun c => c.2)] at C2
 have lC:(tapC L S T m).length = m:=tapC_len
 refine WL.block <| WL.range rfl (H.fn 134 f1224 rfl rfl) (y1224 (v1:=slA bv m) (v2:=.slice none 0 0) H nc (by omega) (m:=m) (by omega)) (fun j g => HX h g ∧ h10.next ≤ g.next ∧ At g h1.next (.cells [.slice b3 (tapD c T).length k3] true true 142) ∧ At g h2.next (.cells [zi 0,.slice none 0 0,.slice none 0 0] true true 31) ∧ At g h3.next (.cells [zi n,slA p1 L.length,.slice none 0 0,slA p2 L.length] true true 113) ∧ At g h4.next (.cells [zi (n - c),slA bv m,.slice none 0 0,slA bk m] true true 113) ∧ RowA g p1 p2 L (knownL S L.length) ∧ RowA g bv bk (upTo 0 (valC (tapC L S T m)) m j) (upTo false ((tapC L S T m).map fun c => c.2) m j) ∧ At g cc (.cells [zi (n - c),slA bv m,.slice none 0 0] true true 31)) (fun j g q => ⟨q.2.2.2.2.2.2.2.2,_,upTo_len,by have:=q.2.2.2.2.2.2.2.1.sv;rwa [upTo_len] at this⟩) (fun j g q => (f.hx q.1).up (by omega)) ?_ ?_ ?_ ?_
 ·rintro j g g' x ⟨x1,x2,x3,x4,x5,x6,x7,x8,x9⟩ P
  have o:∀ b y,b < h10.next → At g b y → At g' b y:=fun b y hb a => P.oth _ _ (by omega) a
  exact ⟨P.hx _ x1 (by omega),by rw [P.next];exact x2,o _ _ (by omega) x3,o _ _ (by omega) x4,o _ _ (by omega) x5,o _ _ (by omega) x6,⟨o _ _ (by omega) x7.v,o _ _ (by omega) x7.k,x7.e,x7.n⟩,⟨o _ _ (by omega) x8.v,o _ _ (by omega) x8.k,x8.e,x8.n⟩,o _ _ (by omega) x9⟩
 ·rintro g x N
  have:=N.next
  exact ⟨Y10.trans N.hx,by omega,B3.hx N.hx,B4.hx N.hx,B9.hx N.hx,B10.hx N.hx,C1.hx N.hx,C2.hx N.hx,Ac.hx N.hx⟩
 ·rintro j g x hj _ A
  refine WL.reg <| WOL.as rfl <| WOL.nil ?_
  intro r' hr
  refine ⟨rfl,rfl,fun g2 xx ⟨x1,x2,x3,x4,x5,x6,x7,x8,x9⟩ A2 => ?_⟩
  refine hr.go ?_
  have hk:=tapB_known (S:=S) (m:=L.length) (i:=j) (T:=T) (fun t ht => by have:=ts.o t ht;omega)
  refine WL.block <| WL.sr <| WOL.ld rfl (load_row tp1194 x5 rfl (Nat.le_of_ble_eq_true rfl)) <| WOL.mv rfl <| WOL.ld rfl (load_one tp1214 x3 rfl) <| WOL.cl3 rfl rfl rfl rfl ((k1226 (n:=n) (i:=j) (p:=n - c + (j:Nat)) H x7 (s.hx x1) (by omega) (fun t ht => by have:=ts.o t ht;omega) ts.w ts.l lim n0 (by omega) (by omega) c1 c2 (f.on x1)).mono ?_)
  rintro u g3 ⟨rfl,X3⟩
  rw [hk]
  have hV:=tapV_get (L:=L) (S:=S) (T:=T) hj
  have hM:=tapM_get (L:=L) (S:=S) (T:=T) hj
  have xs:=X3.next
  refine WOL.mv rfl <| WOL.ex rfl rfl <| WOL.ex rfl rfl <| WOL.as rfl <| WOL.as rfl <| WOL.nil <| keep [(10,_),(11,_),(12,_),(13,_)] ⟨rfl,rfl,rfl,rfl,trivial⟩ ?_
  cases hb:tapK S j T with
  | false =>
   rw [hb] at hV hM
   refine WL.sr <| WOL.mv rfl <| WOL.nil <| WL.no rfl <| WL.skip fun r k => ⟨rfl,⟨x1.trans X3,by omega,x3.hx X3,x4.hx X3,x5.hx X3,x6.hx X3,x7.hx X3,?_,x9.hx X3⟩,A2.hx X3⟩
   rw [upTo_same hV,upTo_same hM]
   exact x8.hx X3
  | true =>
   rw [hb] at hV hM
   replace hV:(valC (tapC L S T m)).getD j 0 = tapN L j T 0:=hV
   have k:=k1181 (n:=n - c) (x:=tapN L j T 0) H (x8.hx X3) (i:=j) (by rw [upTo_len];exact hj) nc (by omega) (by rw [upTo_len];omega) (m:=h.next) (f.hx (x1.trans X3)) (by omega) (by omega)
   rw [upTo_len] at k
   refine WL.sr <| WOL.mv rfl <| WOL.nil <| WL.yes rfl <| WL.reg <| WOL.ld rfl (load_row tp1194 (x6.hx X3) rfl (Nat.le_of_ble_eq_true rfl)) <| WOL.mv rfl <| WOL.mv rfl <| WOL.cl3 rfl rfl rfl rfl (k.mono ?_)
   rintro u g5 ⟨z5,ra,o5,n5⟩
   refine WOL.nil fun r k => ⟨rfl,⟨z5 _ (x1.trans X3) (by omega) (by omega),by omega,o5 _ _ (by omega) (by omega) (x3.hx X3),o5 _ _ (by omega) (by omega) (x4.hx X3),o5 _ _ (by omega) (by omega) (x5.hx X3),o5 _ _ (by omega) (by omega) (x6.hx X3),⟨o5 _ _ (by omega) (by omega) (x7.v.hx X3),o5 _ _ (by omega) (by omega) (x7.k.hx X3),x7.e,x7.n⟩,?_,o5 _ _ (by omega) (by omega) (x9.hx X3)⟩,o5 _ _ (by omega) (by omega) (A2.hx X3)⟩
   rw [upTo_set,upTo_set,hV,hM]
   exact ra
 ·rintro g ⟨x1,x2,x3,x4,x5,x6,x7,x8,x9⟩
  rw [upTo_all (by unfold valC;rw [List.length_map];exact lC),upTo_all (by rw [List.length_map];exact lC)] at x8
  have lv:(valC (tapC L S T m)).length = m:=by unfold valC;rw [List.length_map];exact lC
  refine WL.sr <| WOL.ld rfl (load_row tp1194 x6 rfl (Nat.le_of_ble_eq_true rfl)) ?_
  have k:=k1182 (n:=n - c) H x8 (by omega) (f.on x1)
  rw [lv,← bigC_val] at k
  refine WOL.cl1 rfl rfl (k.mono ?_)
  rintro v g1 ⟨X,R⟩
  have xg:=(x1.trans X).next
  have xx:=X.next
  rcases R with ⟨hb,rfl⟩ | ⟨hb,w,rfl,to⟩
  ·refine WOL.ex rfl rfl <| WOL.ex rfl rfl <| WOL.sto (vs:=[zi 0,.slice none 0 0,.slice none 0 0]) rfl rfl tp1117 (x4.hx X) rfl rfl (Nat.le_of_ble_eq_true rfl) rfl (f.hx (x1.trans X)) (by omega) fun i1 M1 => WOL.as rfl <| WOL.nil ?_
   exact WL.ret (WL.endC1 rfl rfl (load_row tp1117 M1.at_ rfl (Nat.le_of_ble_eq_true rfl)) ⟨M1.hx _ (x1.trans X) (by omega),.inr (.inl ⟨rfl,hb,rfl⟩)⟩)
  ·obtain ⟨b2,m2,k2,rfl⟩:=to.form
   refine WOL.ex rfl rfl <| WOL.ex rfl rfl <| WOL.sto (vs:=[zi (n - c),slA bv m,.slice b2 m2 k2]) rfl rfl tp1117 (x4.hx X) rfl rfl (Nat.le_of_ble_eq_true rfl) rfl (f.hx (x1.trans X)) (by omega) fun i1 M1 => WOL.as rfl <| WOL.nil ?_
   refine WL.ret (WL.endC1 rfl rfl (load_row tp1117 M1.at_ rfl (Nat.le_of_ble_eq_true rfl)) ⟨M1.hx _ (x1.trans X) (by omega),.inr (.inr ⟨rfl,hb,bv,_,by rw [lC];rfl,by omega,(to.put M1 (by omega) (by omega)).low (by omega)⟩)⟩)
end
end Go.Tidy
namespace Go.Tidy
open Go Go.Proofs Tab
variable {tp:TProg}
section
variable {h:TH} {l:List Nat} {bo:Option Addr} {n k:Nat}
end
section
variable {h:TH} {K:Regs → TH → Prop} {rest:List TOper} {d:Option Tmp} {ty:TypeId} {i:Nat} {x:Operand} {L:Rg} {v:Value} {m:List Nat}
end
section
variable {hb h g g2 g':TH} {n b o cap c4 c2 c3 nB:Nat} {cur cur':Cu} {s s':ByteArray} {fi fi':Int} {w1 w2 w':Value} {F F':List Nat} {S S':List (Int × Int)}
theorem Put.relock {M:List Nat} {x:TB} {c:Nat} {h1:TH} (p:Put (h.withLock M) h1 c x):Put h (h1.withLock h.lock) c x :=
 ⟨p.at_.relock _,fun z y hz a => (p.oth z y hz (a.relock M)).relock _,p.next,p.floor,rfl,fun h0 y hb => by rw [y.lock];exact (p.hx _ (y.locked M) hb).relock⟩
end
end Go.Tidy
namespace Go.Tidy
open Go Go.Proofs Tab
variable {tp:TProg}
section
variable (l:List Nat) (c:Cu)
end
section
variable {h g:TH} {l:List Nat} {b o cap:Nat}
theorem Stm.relock (s:Stm h b o cap l) (M:List Nat):Stm (h.withLock M) b o cap l:=⟨by
 obtain ⟨cc,fix,wr,el,a,r⟩:=s.ex
 exact ⟨cc,fix,wr,el,a.relock M,r⟩,s.cap⟩
end
section
variable {hb h:TH} {l:List Nat} {b o cap c4:Nat} {c:Cu}
end
end Go.Tidy
namespace Go.Tidy
open Go Go.Proofs Tab
variable {tp:TProg}
section
variable {P:Program} {h:TH} {K:Regs → TH → Prop} {rest:List TOper} {d:Option Tmp} {ty:TypeId} {i:Nat} {x y:Operand} {t u:TypeId} {L:Rg} {s s':ByteArray}
end
section
variable (l:List Nat)
end
theorem RunH.relock {h:TH} {v1 v2:Value} {F:List Nat} {S:List (Int × Int)} (r:RunH h v1 v2 F S) (M:List Nat):RunH (h.withLock M) v1 v2 F S:=⟨r.f.relock M,r.s.relock M,r.g.relock M⟩
section
variable {h:TH} {l:List Nat} {b o n cap:Nat} {es L:List Int}
end
end Go.Tidy
namespace Go.Tidy
open Go Go.Proofs Tab
variable {tp:TProg}
section
variable {P:Program} {h:TH} {K:Regs → TH → Prop} {rest:List TOper} {d:Option Tmp} {ty:TypeId} {i:Nat} {x y:Operand} {t u:TypeId} {L:Rg}
theorem WOL.mulN {m k:Nat} (hx:getL L x = some (zi (m:Nat))) (hy:getL L y = some (zi (k:Nat))) (hb:m * k ≤ 1000000000) (w:∀ a,Kn (putL L d (zi ((m * k:Nat):Int))) a → WO P tp rest a h K):∀ a,Kn L a → WO P tp (⟨d,.binOp .mul t x y u,ty,none,[],i⟩ :: rest) a h K :=
 WOL.bi hx hy (by
  have e:((m * k:Nat):Int) = (m:Int) * (k:Int):=rfl
  show some (Value.int .i64 (fwrap .i64 ((m:Int) * (k:Int)))) = _
  rw [← e,fwrap_i64 (by omega) (by omega)]) w
end
structure RrU (h g:TH) (c2 c7 nB:Nat) (s:ByteArray) (fi:Int) (w1 w2:Value) (F:List Nat) (S:List (Int × Int)):Prop where
 x:HX h g
 nx:nB ≤ g.next
 a2:At g c2 (.cells [.string ⟨#[]⟩,zi 0,.slice none 0 0,.slice none 0 0] true true 76)
 a7:At g c7 (.cells [.string s,zi fi,w1,w2] true true 76)
 o1:OwnL encF nB g w1 156 F
 o2:OwnL encS nB g w2 103 S
 ne:∀ x,bl w1 = some x → bl w2 ≠ some x
section
variable {h g g2 g':TH} {c2 c7 nB:Nat} {s:ByteArray} {fi:Int} {w1 w2 w':Value} {F F':List Nat} {S S':List (Int × Int)}
theorem RrU.hx (q:RrU h g c2 c7 nB s fi w1 w2 F S) (x:HX g g'):RrU h g' c2 c7 nB s fi w1 w2 F S:=⟨q.x.trans x,Nat.le_trans q.nx x.next,q.a2.hx x,q.a7.hx x,q.o1.hx x,q.o2.hx x,q.ne⟩
end
end Go.Tidy
namespace Go.Tidy
open Go Go.Proofs Tab
variable {tp:TProg}
theorem bd1128 {a b:Int}:buildT Tryz.prog 44 [(0,zi a),(1,zi b)] = some (.agg #[zi a,zi b]):=by kernel_rfl
def vTn (p q:Nat):List (Nat × Int):=[(0,-(q:Int)),(p,(p:Int) + q),(p + q,-(p:Int))]
def errV (E:Int) (m w:Nat):Int:=if E ≠ 0 then E else cond (decide (m ≤ w)) 16 0
theorem errV_ok {m w:Nat}:errV 0 m w = cond (decide (m ≤ w)) 16 0:=by unfold errV;rw [if_neg (by decide)]
theorem errV_no {E:Int} {m w:Nat} (h:E ≠ 0):errV E m w = E:=by unfold errV;rw [if_pos h]
theorem chord_ok {a b:Int} (h:chordE a b = 0):1 ≤ a ∧ a ≤ 32 ∧ 1 ≤ b ∧ b ≤ 32:=by
 have all:=firstNZ_zero h
 have h1:=all (outB a 1 32) (by simp)
 have h2:=all (outB b 1 32) (by simp)
 have o:∀ x:Int,outB x 1 32 = 0 → 1 ≤ x ∧ x ≤ 32:=fun x hx => by
  unfold outB at hx
  by_cases c1:x < 1
  ·rw [decide_eq_true c1] at hx;cases hx
  ·by_cases c2:32 < x
   ·rw [decide_eq_false c1,decide_eq_true c2] at hx;cases hx
   ·omega
 exact ⟨(o _ h1).1,(o _ h1).2,(o _ h2).1,(o _ h2).2⟩
theorem vTaps {p q:Nat} (hp:1 ≤ p) (hp':p ≤ 32) (hq:1 ≤ q) (hq':q ≤ 32):Taps (vTn p q) (p + q):=⟨⟨_,rfl⟩,⟨_,rfl⟩,fun t ht => by
 unfold vTn at ht
 simp only [List.mem_cons,List.not_mem_nil,or_false] at ht
 rcases ht with rfl | rfl | rfl
 ·exact Nat.zero_le _
 ·exact Nat.le_add_right _ _
 ·exact Nat.le_refl _,fun t ht => by
 unfold vTn at ht
 simp only [List.mem_cons,List.not_mem_nil,or_false] at ht
 rcases ht with rfl | rfl | rfl
 ·show -10000 ≤ -(q:Int) ∧ -(q:Int) ≤ 10000;omega
 ·show -10000 ≤ (p:Int) + q ∧ (p:Int) + q ≤ 10000;omega
 ·show -10000 ≤ -(p:Int) ∧ -(p:Int) ≤ 10000;omega,by show 3 ≤ 1000;decide⟩
theorem vTapD {p q:Nat}:tapD (-(p:Int)) (vTn p q) = [(-(p:Int),-(q:Int)),(0,(p:Int) + q),((q:Int),-(p:Int))]:=by
 unfold tapD vTn
 simp only [List.map_cons,List.map_nil]
 rw [show ((0:Nat):Int) + -(p:Int) = -(p:Int) by omega,show ((p:Nat):Int) + -(p:Int) = 0 by omega,show ((p + q:Nat):Int) + -(p:Int) = q by omega]
section
variable {h:TH} {n a b:Int} {v1 v2:Value} {L:List Int} {S:List (Int × Int)}
set_option maxHeartbeats 2000000 in
set_option maxRecDepth 10000 in
theorem k1125 (H:Has tp) (r:TrcH h v1 v2 L S) (l1:L.length ≤ 900000) (t1:S.length ≤ 900000) (f:Free0 h.next h) :
  CallW Tryz.prog tp (.func (.func 25) #[] #[]) #[.agg #[zi a,zi b],trcV n v1 v2] h fun v h' => HX h h' ∧ ProgR (n + a) (errV (firstNZ [chordE a b,traceE n L S]) L.length (a.toNat + b.toNat)) (tapC L S (vTn a.toNat b.toNat) (L.length - (a.toNat + b.toNat))) h.next h' v:=by
 refine CallW.fnL (H.fn 25 f1125 rfl rfl) ?_
 obtain ⟨b1,k1,e1,_⟩:=id r.l
 obtain ⟨b2,k2,e2,_⟩:=id r.s
 subst e1 e2
 refine WL.sr <| WOL.box rfl fun h1 N1 => WOL.box rfl fun h2 N2 => WOL.al tp1117 fun h3 N3 => WOL.as rfl <| WOL.nil <| keep [(2,_),(3,_),(4,_)] ⟨rfl,rfl,rfl,trivial⟩ ?_
 have q1:=N1.next
 have q2:=N2.next
 have q3:=N3.next
 have A2:At h3 h.next (.cells [zi a,zi b] true true 44):=(N1.at_.hx N2.hx).hx N3.hx
 have A3:At h3 h1.next (.cells [zi n,.slice b1 L.length k1,.slice b2 S.length k2] true true 31):=N2.at_.hx N3.hx
 have A4:=N3.at_
 have X3:=(N1.hx.trans N2.hx).trans N3.hx
 refine WL.seq <| WL.sr <| WOL.ld rfl (load_row tp1128 A2 rfl (Nat.le_of_ble_eq_true rfl)) <| WOL.ld rfl (load_row tp1117 A3 rfl (Nat.le_of_ble_eq_true rfl)) ?_
 refine WOL.lk1 rfl rfl fun M => ((k1121 H a b _).mono ?_)
 rintro v h4 ⟨rfl,X4⟩
 replace X4:=X4.relock
 generalize h4.withLock h3.lock = h4 at *
 refine WOL.cl1 rfl rfl ((k1123 (n:=n) H (r.hx (X3.trans X4)) (by omega) (by omega) (f.on (X3.trans X4))).mono ?_)
 rintro v h5 ⟨rfl,X5⟩
 refine WOL.bsl rfl u166 tp30 (by decide) (by decide) (by decide) (filled_ints _ _) fun h6 N6 => WOL.cl1 rfl rfl ((k71 H (l:=[_,_]) N6.at_.get (by simp)).mono ?_)
 rintro v h6 ⟨rfl,rfl⟩
 have Z:=(X4.trans X5).trans N6.hx
 have Y:=X3.trans Z
 replace A2:=A2.hx Z;replace A3:=A3.hx Z;replace A4:=A4.hx Z
 have yn:=Y.next
 refine WOL.as rfl <| WOL.nil <| keep [(2,_),(3,_),(4,_),(6,_)] ⟨rfl,rfl,rfl,rfl,trivial⟩ ?_
 generalize hE:firstNZ [chordE a b,traceE n L S] = E
 by_cases e0:E ≠ 0
 ·rw [errV_no e0]
  refine WL.sr <| WOL.mv rfl <| WOL.bt rfl rfl rfl (bne_iff_ne.2 e0) <| WOL.nil <| WL.yes rfl <| WL.sr <| WOL.bd rfl bd1117z <| WOL.mv rfl <| WOL.sto (vs:=[zi 0,.slice none 0 0,.slice none 0 0]) rfl rfl tp1117 A4 rfl rfl (Nat.le_of_ble_eq_true rfl) rfl (f.hx Y) (by omega) fun i1 M1 => WOL.as rfl <| WOL.nil ?_
  exact WL.ret (WL.endC1 rfl rfl (load_row tp1117 M1.at_ rfl (Nat.le_of_ble_eq_true rfl)) ⟨M1.hx _ Y (by omega),.inl ⟨e0,rfl⟩⟩)
 have e0:E = 0:=Classical.not_not.1 e0
 subst e0
 have all:=firstNZ_zero hE
 obtain ⟨⟨m1,m2⟩,m3,m4,m5,m6,m7⟩:=trace_ok (all (traceE n L S) (by simp))
 obtain ⟨p1,p2,p3,p4⟩:=chord_ok (all (chordE a b) (by simp))
 obtain ⟨p,rfl⟩:∃ p:Nat,a = p:=⟨a.toNat,by omega⟩
 obtain ⟨q,rfl⟩:∃ q:Nat,b = q:=⟨b.toNat,by omega⟩
 rw [errV_ok,Int.toNat_natCast,Int.toNat_natCast]
 refine WL.sr <| WOL.mv rfl <| WOL.bf rfl rfl rfl rfl <| WOL.nil <| keep [(2,_),(3,_),(4,_),(14,_)] ⟨rfl,rfl,rfl,rfl,trivial⟩ <| WL.no rfl <| WL.skip ?_
 refine WL.sr <| WOL.ld rfl (load_row tp1117 A3 rfl (Nat.le_of_ble_eq_true rfl)) <| WOL.ld rfl (load_row tp1128 A2 rfl (Nat.le_of_ble_eq_true rfl)) ?_
 refine WOL.lk1 rfl rfl fun M => ((k1194 H (a:=p) (b:=q) (by omega) (by omega) (by omega) (by omega) _).mono ?_)
 rintro v g1 ⟨Xg,c,rfl,hc,Ac⟩
 replace Xg:=Xg.relock
 replace Ac:=Ac.relock h6.lock
 generalize g1.withLock h6.lock = g1 at *
 rw [← vTapD] at Ac
 have Yg:=Y.trans Xg
 refine WOL.cl2 rfl rfl rfl ((k1193 (n:=n) (W:=p + q) (c:=-(p:Int)) H (r.hx Yg) (SlL.own eS Ac rfl) (vTaps (by omega) (by omega) (by omega) (by omega)) m3 m1 m2 (by omega) (by omega) (by omega) l1 (by omega) (holeE_in m4) (by omega) (f.on Yg)).mono ?_)
 rintro v g2 ⟨X2,R⟩
 rw [Int.sub_neg] at R
 have x2:=(Yg.trans X2).next
 have x3:=Yg.next
 have l4:=(A4.hx Xg).lt
 rcases R with ⟨heT,rfl⟩ | ⟨heT,hbT,rfl⟩ | ⟨heT,hbT,bvT,wT,rfl,hvT,toT⟩
 ·exact WOL.ex rfl rfl <| WOL.ex rfl rfl <| WOL.sto (vs:=[zi 0,.slice none 0 0,.slice none 0 0]) rfl rfl tp1117 ((A4.hx Xg).hx X2) rfl rfl (Nat.le_of_ble_eq_true rfl) rfl (f.hx (Yg.trans X2)) (by omega) fun iT MT => WOL.as rfl <| WOL.nil <| WL.ret (WL.endC1 rfl rfl (load_row tp1117 MT.at_ rfl (Nat.le_of_ble_eq_true rfl)) ⟨MT.hx _ (Yg.trans X2) (by omega),.inl ⟨heT,rfl⟩⟩)
 ·exact WOL.ex rfl rfl <| WOL.ex rfl rfl <| WOL.sto (vs:=[zi 0,.slice none 0 0,.slice none 0 0]) rfl rfl tp1117 ((A4.hx Xg).hx X2) rfl rfl (Nat.le_of_ble_eq_true rfl) rfl (f.hx (Yg.trans X2)) (by omega) fun iT MT => WOL.as rfl <| WOL.nil <| WL.ret (WL.endC1 rfl rfl (load_row tp1117 MT.at_ rfl (Nat.le_of_ble_eq_true rfl)) ⟨MT.hx _ (Yg.trans X2) (by omega),.inr (.inl ⟨heT,hbT,rfl⟩)⟩)
 ·obtain ⟨b2T,m2T,k2T,rfl⟩:=toT.form
  exact WOL.ex rfl rfl <| WOL.ex rfl rfl <| WOL.sto (vs:=[zi _,slA bvT _,.slice b2T m2T k2T]) rfl rfl tp1117 ((A4.hx Xg).hx X2) rfl rfl (Nat.le_of_ble_eq_true rfl) rfl (f.hx (Yg.trans X2)) (by omega) fun iT MT => WOL.as rfl <| WOL.nil <| WL.ret (WL.endC1 rfl rfl (load_row tp1117 MT.at_ rfl (Nat.le_of_ble_eq_true rfl)) ⟨MT.hx _ (Yg.trans X2) (by omega),.inr (.inr ⟨heT,hbT,bvT,_,rfl,by omega,(toT.put MT (by omega) (by omega)).low (by omega)⟩)⟩)
end
end Go.Tidy
namespace Go.Tidy
open Go Go.Proofs Tab
variable {tp:TProg}
theorem k11t (A:Awk tp) (h:TH):CallW Tryz.prog tp (.func (.func 12) #[] #[]) #[] h fun v h' => v = .bool true ∧ h' = h:=by
 obtain ⟨e,e1,e2⟩:=A.e
 exact CallW.ext A.no e1 rfl e2 rfl ⟨rfl,rfl⟩
theorem ix1115_0 {c:Nat}:indexAddrT Tryz.prog 28 (.pointer (some ⟨c,0,none⟩)) (.int .i64 0) = some (.pointer (some ⟨c,0,none⟩)):=by kernel_rfl
theorem ix1115_1 {c:Nat}:indexAddrT Tryz.prog 28 (.pointer (some ⟨c,0,none⟩)) (.int .i64 1) = some (.pointer (some ⟨c,3,none⟩)):=by kernel_rfl
theorem IsInts.keep {g g':TH} {y:Value} {L:List Int} (i:IsInts g y L) (k:∀ b x,bl y = some b → At g b x → At g' b x):IsInts g' y L:=by
 rcases i with i | ⟨b,c,fix,wr,el,i1,i2,i3⟩
 ·exact .inl i
 ·subst i1
  have:=k b _ rfl ⟨i3,i2⟩
  exact .inr ⟨b,c,fix,wr,el,rfl,this.lt,this.get⟩
def CelA (ty:TypeId) (n:Int) (o:Int × List Int × List (Int × Int)) (g:TH) (c:Nat):Prop:=∃ z b1 m1 k1 b2 m2 k2,At g c (.cells [zi z,.slice b1 m1 k1,.slice b2 m2 k2] true true ty) ∧ IsInts g (.slice b1 m1 k1) o.2.1 ∧ SlL encS 2 g (.slice b2 m2 k2) o.2.2 ∧ ((o.1 ≠ 0 ∧ z = 0 ∧ o.2.1 = [] ∧ o.2.2 = []) ∨ (o.1 = 0 ∧ z = n))
theorem CelA.hx {ty:TypeId} {n:Int} {o:Int × List Int × List (Int × Int)} {g g':TH} {c:Nat} (q:CelA ty n o g c) (x:HX g g'):CelA ty n o g' c:=by
 obtain ⟨z,b1,m1,k1,b2,m2,k2,A,i,s,e⟩:=q
 exact ⟨z,b1,m1,k1,b2,m2,k2,A.hx x,i.hx x,s.hx x,e⟩
section
variable {h h0:TH} {a b n1 n2 m1 m2 e1:Int} {v1 v2 w1 w2:Value} {L1:List Int} {S1:List (Int × Int)} {o1 o2:Int × List Int × List (Int × Int)} {c3 c4 c7 c9 c14 c15:Nat}
end
end Go.Tidy
namespace Go.Tidy
open Go Go.Proofs Tab
variable {tp:TProg}
theorem holesOf_le (B:List Bool):(holesOf B).length ≤ B.length:=by
 have:=holesN_len B B.length
 show (holesN _ _).length ≤ _
 exact this
section
variable {h:TH} {a b n1 n2 p:Int} {v1 v2 w1 w2:Value} {L1 L2:List Int} {S1 S2:List (Int × Int)}
end
set_option maxRecDepth 100000 in
theorem ty_trc {h:TH} {n:Nat} {ps:List Value} (y:Ty Tryz.prog h (n + 4) 27 ps):∃ z v1 v2 L S,ps = [zi z,v1,v2] ∧ TrcH h v1 v2 L S:=by
 obtain ⟨p,q,rfl,_,y1,p',q',rfl,_,y2,p2,q2,rfl,_,y3,rfl⟩:=tyg_struct Tryz.underlying27 y
 obtain ⟨z,rfl,_⟩:=ty_int y1
 obtain ⟨v1,L,rfl,r1,g1⟩:=tyg_slice eI u29 (fun p y => by obtain ⟨b,e,_⟩:=ty_int y;exact ⟨b,e⟩) y2
 obtain ⟨v2,S,rfl,r2,_⟩:=tyg_slice eS u44 (fun p y => ty_span y) y3
 exact ⟨z,v1,v2,L,S,rfl,r1,r2,g1 3⟩
end Go.Tidy
namespace Go.Tidy
open Go Go.Proofs Tab
theorem args3 {P:Program} {h:TH} {m:Nat} {t0 t1 t2:TypeId} {us:List Value} (ha:Args P h m [t0,t1,t2] us):∃ x0 x1 x2,us = [x0,x1,x2] ∧ (∃ ps,Ty P h m t0 ps ∧ x0 = valOf P t0 ps) ∧ (∃ ps,Ty P h m t1 ps ∧ x1 = valOf P t1 ps) ∧ ∃ ps,Ty P h m t2 ps ∧ x2 = valOf P t2 ps:=by
 match us,ha with
 | [x0,x1,x2],⟨a0,a1,a2,_⟩ => exact ⟨x0,x1,x2,rfl,a0,a1,a2⟩
end Go.Tidy
namespace Go.Tidy
open Go Go.Proofs Tab
variable {tp:TProg}
theorem CelA.err {n e:Int} {g:TH} {c:Nat} {ty:TypeId} (h:e ≠ 0) (A:At g c (.cells [zi 0,.slice none 0 0,.slice none 0 0] true true ty)):CelA ty n (e,[],[]) g c:=⟨0,_,_,_,_,_,_,A,.inl ⟨rfl,rfl⟩,SlL.nil,.inl ⟨h,rfl,rfl,rfl⟩⟩
theorem CelA.keep {ty:TypeId} {n:Int} {o:Int × List Int × List (Int × Int)} {g g':TH} {c:Nat} (q:CelA ty n o g c) (k:∀ b x,At g b x → At g' b x):CelA ty n o g' c:=by
 obtain ⟨z,b1,m1,k1,b2,m2,k2,A,i,s,e⟩:=q
 exact ⟨z,b1,m1,k1,b2,m2,k2,k _ _ A,i.keep fun b x _ a => k _ _ a,slC_keep s fun b x _ a => k _ _ a,e⟩
section
variable {h h0:TH} {a b n m1 m2 E1:Int} {v1 v2 w9 w16:Value} {L:List Int} {S:List (Int × Int)} {l3:List Int} {o1 o2:Int × List Int × List (Int × Int)} {c2 c3 c5 c7 c14 c15 p q:Nat}
end
end Go.Tidy
namespace Go.Tidy
open Go Go.Proofs Tab
variable {tp:TProg}
theorem out_mm {x l m:Int} (h:outB x l m = 0):l ≤ x ∧ x ≤ m:=by
 unfold outB at h
 by_cases c1:x < l
 ·rw [decide_eq_true c1] at h;cases h
 ·by_cases c2:m < x
  ·rw [decide_eq_false c1,decide_eq_true c2] at h;cases h
  ·omega
section
variable {h:TH} {n a b s:Int} {v1 v2:Value} {L:List Int} {S:List (Int × Int)} {p q st:Nat}
end
end Go.Tidy
namespace Go.Tidy
open Go Go.Proofs Tab
variable {tp:TProg}
def rT (m:Nat) (g:Nat → Int):List (Nat × Int):=(List.range m).map fun i => (i,g i)
theorem rT_len {m:Nat} {g:Nat → Int}:(rT m g).length = m:=by unfold rT;rw [List.length_map,List.length_range]
theorem rT_get {m i:Nat} {g:Nat → Int} (h:i < m):(rT m g)[i]? = some (i,g i):=by
 unfold rT
 rw [tbl_get,if_pos h]
theorem rTaps {k:Nat} {g:Nat → Int} (hk:k ≤ 900) (hg:∀ i,i < k + 1 → -10000 ≤ g i ∧ g i ≤ 10000):Taps (rT (k + 1) g) k:=⟨⟨_,rT_get (by omega)⟩,⟨_,by rw [rT_len,rT_get (by omega)];rfl⟩,fun t ht => by
 obtain ⟨i,hi,rfl⟩:=List.mem_map.1 ht
 have:=List.mem_range.1 hi
 show i ≤ k
 omega,fun t ht => by
 obtain ⟨i,hi,rfl⟩:=List.mem_map.1 ht
 exact hg i (List.mem_range.1 hi),by rw [rT_len];omega⟩
def bw (s l i:Nat):Int:=if l ≤ i + s ∧ i ≤ l + s then -(2 * (s:Int) + 1) + (2 * (l:Int) + 1) else -(2 * (s:Int) + 1)
theorem bw_lim {s l i:Nat} (hs:s ≤ 64) (hl:l ≤ 64):-10000 ≤ bw s l i ∧ bw s l i ≤ 10000:=by
 unfold bw
 split <;> omega
section
variable {h:TH} {n a b:Int} {v1 v2:Value} {L:List Int} {S:List (Int × Int)} {s l:Nat}
theorem k1202 (H:Has tp) (x:Int) (h:TH):CallW Tryz.prog tp (.func (.func 102) #[] #[]) #[zi x] h fun v h' => v = zi (outB x 0 64) ∧ h' = h:=by
 refine CallW.fnL (H.fn 102 f1202 rfl rfl) ?_
 refine WL.sr <| WOL.as rfl <| WOL.nil ?_
 refine WL.sr <| WOL.mv rfl <| WOL.cl3 rfl rfl rfl rfl ((k72 H x _ _ _).mono ?_)
 rintro v h2 ⟨rfl,rfl⟩
 exact WOL.as rfl <| WOL.nil <| WL.ret (WL.end_ rfl ⟨rfl,rfl⟩)
set_option maxHeartbeats 2000000 in
set_option maxRecDepth 10000 in
theorem k1203 (H:Has tp) (hl:l ≤ 64) (f:Free0 h.next h) :
  CallW Tryz.prog tp (.func (.func 103) #[] #[]) #[zi (l:Nat)] h fun v h' => HX h h' ∧ ∃ c,v = slA c (2 * l + 1) ∧ h.next ≤ c ∧ At h' c (.cells (cat encS (tapD (-(l:Int)) (rT (2 * l + 1) fun _ => 1))) true true 192):=by
 refine CallW.fnL (H.fn 103 f1203 rfl rfl) ?_
 refine WL.sr <| WOL.as rfl <| WOL.nil ?_
 have lD:(tapD (-(l:Int)) (rT (2 * l + 1) fun _ => 1)).length = 2 * l + 1:=by unfold tapD;rw [List.length_map,rT_len]
 have hD:∀ i,i < 2 * l + 1 → (tapD (-(l:Int)) (rT (2 * l + 1) fun _ => 1))[i]? = some ((i:Int) - l,1):=fun i hi => by
  unfold tapD
  rw [List.getElem?_map,rT_get hi]
  show some ((i:Int) + -(l:Int),(1:Int)) = _
  rw [← Int.sub_eq_add_neg]
 generalize tapD (-(l:Int)) (rT (2 * l + 1) fun _ => 1) = D at *
 refine WL.sr <| WOL.mv rfl <| WOL.mulN (m:=2) (k:=l) rfl rfl (by omega) <| WOL.inc rfl (by omega) <| WOL.ms (m:=2 * l + 1) rfl rfl u1214 tp1242 (by decide) (by omega) fun h1 N1 => WOL.as rfl <| WOL.nil <| keep [(0,_),(3,_)] ⟨rfl,rfl,trivial⟩ ?_
 have q1:=N1.next
 have W0:=N1.at_
 rw [show ([zi 0,zi 0]:List Value) = encS (0,0) from rfl,Enc.rep,← lD,← fill_zero D] at W0
 rw [← lD]
 refine WL.seq <| WL.sr <| WOL.mv rfl <| WOL.len (m:=D.length) rfl (SlC.own (by rw [eS.cat_len,fill_len _ _ _ (by omega)]) W0) u1214 <| WOL.mv rfl <| WOL.nil <| keep [(0,_),(3,_),(10,_),(11,_)] ⟨rfl,rfl,rfl,rfl,trivial⟩ ?_
 refine WL.upto (α:=Unit) D.length (fun j _ g => HX h g ∧ At g h.next (.cells (cat encS (D.take j ++ List.replicate (D.length - j) (0,0))) true true 192)) (fun _ _ => [(0,zi (l:Nat)),(3,slA h.next D.length),(10,zi (D.length:Nat))]) () rfl rfl (by omega) ⟨N1.hx,W0⟩ ⟨rfl,rfl,rfl,rfl,trivial⟩ (fun _ _ => rfl) (fun _ _ _ => ⟨rfl,rfl,rfl,rfl,trivial⟩) (fun _ _ _ => ⟨rfl,rfl,rfl,rfl,trivial⟩) ?_ ?_
 ·rintro i _ g hi ⟨X,Wd⟩
  have hDi:=hD i (by omega)
  refine WL.sr <| WOL.mv rfl <| WOL.as rfl <| WOL.nil <| keep [(0,_),(3,_),(4,_),(10,_),(11,_)] ⟨rfl,rfl,rfl,rfl,rfl,trivial⟩ ?_
  refine WL.reg <| WOL.mv rfl <| WOL.mv rfl <| WOL.mv rfl <| WOL.mv rfl <| WOL.sub (m:=(i:Int)) (n:=(l:Int)) rfl rfl (by omega) (by omega) <| WOL.bd rfl bd1242 <| WOL.ix rfl rfl (indexAddr_tp (j:=i) u1214 tp1242 hi) ?_
  refine WOL.sto (vs:=encS ((i:Int) - l,1)) rfl rfl tp1242 Wd rfl rfl (by rw [eS.cat_len,fill_len _ _ _ (by omega)];omega) rfl (f.hx X) (by omega) fun h5 P5 => WOL.nil fun y k => ⟨(),⟨P5.hx _ X (by omega),?_⟩,k.sub ⟨rfl,rfl,rfl,rfl,trivial⟩⟩
  have:=P5.at_
  rw [Nat.zero_add,eS.set (by rw [fill_len _ _ _ (by omega)];omega),show ((i:Int) - l,(1:Int)) = D[i] from (Option.some.inj ((List.getElem?_eq_getElem hi).symm.trans hDi)).symm,fill_set D _ i hi] at this
  exact this
 ·rintro _ g ⟨X,Wd⟩
  rw [fill_all] at Wd
  exact WL.sr <| WOL.mv rfl <| WOL.as rfl <| WOL.nil <| WL.ret (WL.end_ rfl ⟨X,_,rfl,by omega,Wd⟩)
theorem take_set_drop {α:Type} (D E:List α) (i:Nat) (h:i < D.length) (he:i < E.length):(D.take i ++ E.drop i).set i D[i] = D.take (i + 1) ++ E.drop (i + 1):=by
 have e:(D.take i).length = i:=by rw [List.length_take];omega
 rw [List.set_append_right _ _ (by omega),e,Nat.sub_self,List.drop_eq_getElem_cons he,List.set_cons_zero,← List.take_append_getElem h,List.append_assoc]
 rfl
set_option maxHeartbeats 4000000 in
set_option maxRecDepth 10000 in
theorem k1204 (H:Has tp) (hl:l ≤ 64) (hs:s ≤ 64) (f:Free0 h.next h) :
    CallW Tryz.prog tp (.func (.func 104) #[] #[]) #[zi (s:Nat),zi (l:Nat)] h fun v h' => HX h h' ∧ ∃ c,v = slA c (2 * l + 1) ∧ h.next ≤ c ∧ At h' c (.cells (cat encS (tapD (-(l:Int)) (rT (2 * l + 1) (bw s l)))) true true 192):=by
  refine CallW.fnL (H.fn 104 f1204 rfl rfl) ?_
  refine WL.sr <| WOL.as rfl <| WOL.nil ?_
  refine WL.sr <| WOL.mv rfl <| WOL.cl1 rfl rfl ((k1203 (l:=l) H hl f).mono ?_)
  rintro v h1 ⟨X1,c,rfl,hc,W0⟩
  refine WOL.as rfl <| WOL.nil <| keep [(0,_),(1,_),(5,_)] ⟨rfl,rfl,rfl,trivial⟩ ?_
  have lD:(tapD (-(l:Int)) (rT (2 * l + 1) (bw s l))).length = 2 * l + 1:=by unfold tapD;rw [List.length_map,rT_len]
  have lE:(tapD (-(l:Int)) (rT (2 * l + 1) fun _ => 1)).length = 2 * l + 1:=by unfold tapD;rw [List.length_map,rT_len]
  have hD:∀ i,i < 2 * l + 1 → (tapD (-(l:Int)) (rT (2 * l + 1) (bw s l)))[i]? = some ((i:Int) - l,bw s l i):=fun i hi => by
    unfold tapD
    rw [List.getElem?_map,rT_get hi]
    show some ((i:Int) + -(l:Int),bw s l i) = _
    rw [← Int.sub_eq_add_neg]
  have hE:∀ i,i < 2 * l + 1 → (tapD (-(l:Int)) (rT (2 * l + 1) fun _ => 1))[i]? = some ((i:Int) - l,1):=fun i hi => by
    unfold tapD
    rw [List.getElem?_map,rT_get hi]
    show some ((i:Int) + -(l:Int),(1:Int)) = _
    rw [← Int.sub_eq_add_neg]
  generalize tapD (-(l:Int)) (rT (2 * l + 1) (bw s l)) = D at *
  generalize tapD (-(l:Int)) (rT (2 * l + 1) fun _ => 1) = E at *
  have lc:=W0.lt
  rw [← lE]
  refine WL.seq <| WL.sr <| WOL.mv rfl <| WOL.len (m:=E.length) rfl (SlC.own (eS.cat_len E) W0) u1214 <| WOL.mv rfl <| WOL.nil <| keep [(0,_),(1,_),(5,_),(10,_),(11,_),(12,_)] ⟨rfl,rfl,rfl,rfl,rfl,rfl,trivial⟩ ?_
  have W0':At h1 c (.cells (cat encS (D.take 0 ++ E.drop 0)) true true 192):=W0
  refine WL.upto (α:=Unit) E.length (fun j _ g => HX h g ∧ At g c (.cells (cat encS (D.take j ++ E.drop j)) true true 192)) (fun _ _ => [(0,zi (s:Nat)),(1,zi (l:Nat)),(5,slA c E.length),(10,slA c E.length),(11,zi (E.length:Nat))]) () rfl rfl (by omega) ⟨X1,W0'⟩ ⟨rfl,rfl,rfl,rfl,rfl,rfl,trivial⟩ (fun _ _ => rfl) (fun _ _ _ => ⟨rfl,rfl,rfl,rfl,rfl,rfl,trivial⟩) (fun _ _ _ => ⟨rfl,rfl,rfl,rfl,rfl,rfl,trivial⟩) ?_ ?_
  · rintro i _ g hi ⟨X,Wd⟩
    have hDi:=hD i (by omega)
    have hEi:=hE i (by omega)
    have lF:(D.take i ++ E.drop i).length = E.length:=by rw [List.length_append,List.length_take,List.length_drop];omega
    have hF:(D.take i ++ E.drop i)[i]? = some ((i:Int) - l,1):=by
      rw [List.getElem?_append_right (by rw [List.length_take];omega),List.length_take,Nat.min_eq_left (by omega),Nat.sub_self,List.getElem?_drop,Nat.add_zero]
      exact hEi
    have hset:(D.take i ++ E.drop i).set i ((i:Int) - l,bw s l i) = D.take (i + 1) ++ E.drop (i + 1):=by
      have:=take_set_drop D E i (by omega) hi
      rwa [show D[i]'(by omega) = ((i:Int) - l,bw s l i) from Option.some.inj ((List.getElem?_eq_getElem (by omega)).symm.trans hDi)] at this
    generalize D.take i ++ E.drop i = F at *
    have lw:=Wd.lt
    have xg:=X.next
    have sF:SlL encS 2 g (slA c E.length) F:=SlL.own eS Wd lF
    obtain ⟨_,_,cc,fix,wr,el,g1,g2,g3,g4,g5⟩:=sF.at eS u1214 tp1242 hF .i64
    refine WL.sr <| WOL.mv rfl <| WOL.ix rfl rfl g1 <| WOL.ld rfl (load_row tp1242 g2 g4 g3) <| WOL.al tp1242 fun i1 M1 => WOL.as rfl <| WOL.sto (vs:=encS ((i:Int) - l,1)) rfl rfl tp1242 M1.at_ rfl rfl (Nat.le_of_ble_eq_true rfl) rfl (f.hx (X.trans M1.hx)) (by omega) fun i2 M2 => WOL.nil <| keep [(0,_),(1,_),(5,_),(6,_),(7,_),(10,_),(11,_),(12,_)] ⟨rfl,rfl,rfl,rfl,rfl,rfl,rfl,rfl,trivial⟩ ?_
    have m1:=M1.next
    have m2:=M2.next
    have A7:At i2 g.next (.cells [zi ((i:Int) - l),zi 1] true true 192):=M2.at_
    have X2:HX h i2:=M2.hx _ (X.trans M1.hx) (by omega)
    have Wd2:=M2.oth _ _ (by omega) (Wd.hx M1.hx)
    refine WL.sr <| WOL.mv rfl <| WOL.mv rfl <| WOL.mv rfl <| WOL.mulN (m:=2) (k:=s) rfl rfl (by omega) <| WOL.inc rfl (by omega) <| WOL.neg rfl (by omega) (by omega) <| WOL.ix rfl rfl (indexAddr_tp (j:=i) u1214 tp1242 hi) <| WOL.fa rfl (fa_of fo1242_1) <| WOL.sto (vs:=[zi (-((2 * s + 1:Nat):Int))]) rfl rfl tp3 Wd2 rfl rfl (by rw [eS.cat_len,lF];omega) rfl (f.hx X2) (by omega) fun i3 M3 => WOL.nil <| keep [(0,_),(1,_),(5,_),(6,_),(7,_),(10,_),(11,_),(12,_)] ⟨rfl,rfl,rfl,rfl,rfl,rfl,rfl,rfl,trivial⟩ ?_
    have m3:=M3.next
    have Wd3:=M3.at_
    rw [show (0:Nat) + i * 2 + 1 = i * 2 + 1 by omega,splice_one _ _ _ (by rw [eS.cat_len,lF];omega),set_one _ _ _ _ hF] at Wd3
    have A7':=M3.oth _ _ (by omega) A7
    have X3:HX h i3:=M3.hx _ X2 (by omega)
    have lG:(F.set i ((i:Int) - l,-((2 * s + 1:Nat):Int))).length = E.length:=by rw [List.length_set];exact lF
    have hG:(F.set i ((i:Int) - l,-((2 * s + 1:Nat):Int)))[i]? = some ((i:Int) - l,-((2 * s + 1:Nat):Int)):=List.getElem?_set_self (by omega)
    have out:¬ (l ≤ i + s ∧ i ≤ l + s) → F.set i ((i:Int) - l,-((2 * s + 1:Nat):Int)) = D.take (i + 1) ++ E.drop (i + 1):=fun hn => by
      rw [← hset]
      unfold bw
      rw [if_neg hn,show -((2 * s + 1:Nat):Int) = -(2 * (s:Int) + 1) by omega]
    refine WL.sr <| WOL.mv rfl <| WOL.neg rfl (by omega) (by omega) <| WOL.fa rfl (fa_of fo1242_0) <| WOL.ld rfl (load_one tp3 A7' rfl) ?_
    by_cases c1:l ≤ i + s
    · refine WOL.bt rfl rfl rfl (by first | exact decide_eq_true (by omega) | exact beq_iff_eq.2 (by omega) | exact bne_iff_ne.2 (by omega)) <| WOL.mv rfl <| WOL.now (b:=true) rfl rfl <| WOL.fa rfl (fa_of fo1242_0) <| WOL.now (b:=true) rfl rfl <| WOL.ld rfl (load_one tp3 A7' rfl) <| WOL.now (b:=true) rfl rfl <| WOL.mv rfl <| WOL.now (b:=true) rfl rfl ?_
      by_cases c2:i ≤ l + s
      · have sG:SlL encS 2 i3 (slA c E.length) (F.set i ((i:Int) - l,-((2 * s + 1:Nat):Int))):=SlL.own eS Wd3 lG
        obtain ⟨_,_,cd,fixd,wrd,eld,d1,d2,d3,d4,d5⟩:=sG.at eS u1214 tp1242 hG .i64
        have dx:=d5 1 (by decide)
        replace dx:cd[_ + 1]? = some (zi (-((2 * s + 1:Nat):Int))):=dx
        refine WOL.bt rfl rfl rfl (by first | exact decide_eq_true (by omega) | exact beq_iff_eq.2 (by omega) | exact bne_iff_ne.2 (by omega)) <| WOL.pkt rfl rfl <| WOL.nil <| WL.yes rfl <| WL.reg <| WOL.mv rfl <| WOL.mv rfl <| WOL.ix rfl rfl d1 <| WOL.fa rfl (fa_of fo1242_1) <| WOL.ld rfl (load_one tp3 d2 dx) <| WOL.mv rfl <| WOL.mulN (m:=2) (k:=l) rfl rfl (by omega) <| WOL.inc rfl (by omega) <| WOL.add (m:=-((2 * s + 1:Nat):Int)) (n:=((2 * l + 1:Nat):Int)) rfl rfl (by omega) (by omega) <| WOL.ix rfl rfl (indexAddr_tp (j:=i) u1214 tp1242 hi) <| WOL.fa rfl (fa_of fo1242_1) <| WOL.sto (vs:=[zi (-((2 * s + 1:Nat):Int) + ((2 * l + 1:Nat):Int))]) rfl rfl tp3 Wd3 rfl rfl (by rw [eS.cat_len,lG];omega) rfl (f.hx X3) (by omega) fun i4 M4 => WOL.nil fun y k => ⟨(),⟨M4.hx _ X3 (by omega),?_⟩,k.sub ⟨rfl,rfl,rfl,rfl,rfl,rfl,trivial⟩⟩
        have Wd4:=M4.at_
        rw [show (0:Nat) + i * 2 + 1 = i * 2 + 1 by omega,splice_one _ _ _ (by rw [eS.cat_len,lG];omega),set_one _ _ _ _ hG,List.set_set] at Wd4
        rw [← hset]
        unfold bw
        rw [if_pos ⟨c1,c2⟩,show -(2 * (s:Int) + 1) + (2 * (l:Int) + 1) = -((2 * s + 1:Nat):Int) + ((2 * l + 1:Nat):Int) by omega]
        exact Wd4
      · rw [out (fun q => c2 q.2)] at Wd3
        exact WOL.bf rfl rfl rfl (by first | exact decide_eq_false (by omega) | exact beq_eq_false_iff_ne.2 (by omega) | exact bne_eq_false_iff_eq.2 (by omega)) <| WOL.pkt rfl rfl <| WOL.nil <| WL.no rfl <| WL.skip fun y k => ⟨(),⟨X3,Wd3⟩,k.sub ⟨rfl,rfl,rfl,rfl,rfl,rfl,trivial⟩⟩
    · rw [out (fun q => c1 q.1)] at Wd3
      exact WOL.bf rfl rfl rfl (by first | exact decide_eq_false (by omega) | exact beq_eq_false_iff_ne.2 (by omega) | exact bne_eq_false_iff_eq.2 (by omega)) <| WOL.mv rfl <| WOL.skp (b:=false) rfl rfl <| WOL.skp (b:=false) rfl rfl <| WOL.skp (b:=false) rfl rfl <| WOL.skp (b:=false) rfl rfl <| WOL.pkf rfl rfl <| WOL.nil <| WL.no rfl <| WL.skip fun y k => ⟨(),⟨X3,Wd3⟩,k.sub ⟨rfl,rfl,rfl,rfl,rfl,rfl,trivial⟩⟩
  · rintro _ g ⟨X,Wd⟩
    rw [List.drop_length,List.append_nil,show E.length = D.length by omega,List.take_length] at Wd
    exact WL.sr <| WOL.mv rfl <| WOL.as rfl <| WOL.nil <| WL.ret (WL.end_ rfl ⟨X,_,rfl,hc,Wd⟩)
set_option maxHeartbeats 2000000 in
set_option maxRecDepth 10000 in
theorem k1141 (H:Has tp) (r:TrcH h v1 v2 L S) (l1:L.length ≤ 900000) (t1:S.length ≤ 900000) (f:Free0 h.next h) :
  CallW Tryz.prog tp (.func (.func 41) #[] #[]) #[trcV n v1 v2,zi a] h fun v h' => HX h h' ∧ ProgR (n + a) (errV (firstNZ [traceE n L S,outB a 0 64]) L.length (2 * a.toNat)) (tapC L S (rT (2 * a.toNat + 1) fun _ => 1) (L.length - 2 * a.toNat)) h.next h' v:=by
 refine CallW.fnL (H.fn 41 f1141 rfl rfl) ?_
 obtain ⟨b1,k1,e1,_⟩:=id r.l
 obtain ⟨b2,k2,e2,_⟩:=id r.s
 subst e1 e2
 refine WL.sr <| WOL.box rfl fun h1 N1 => WOL.al tp1117 fun h2 N2 => WOL.as rfl <| WOL.nil <| keep [(1,_),(2,_),(4,_)] ⟨rfl,rfl,rfl,trivial⟩ ?_
 have q1:=N1.next
 have q2:=N2.next
 have A2:At h2 h.next (.cells [zi n,.slice b1 L.length k1,.slice b2 S.length k2] true true 31):=N1.at_.hx N2.hx
 have A4:=N2.at_
 have X2:=N1.hx.trans N2.hx
 refine WL.seq <| WL.sr <| WOL.ld rfl (load_row tp1117 A2 rfl (Nat.le_of_ble_eq_true rfl)) <| WOL.cl1 rfl rfl ((k1123 (n:=n) H (r.hx X2) (by omega) (by omega) (f.on X2)).mono ?_)
 rintro v h3 ⟨rfl,X3⟩
 refine WOL.mv rfl <| WOL.cl1 rfl rfl ((k1202 H a _).mono ?_)
 rintro v h3 ⟨rfl,rfl⟩
 refine WOL.bsl rfl u166 tp30 (by decide) (by decide) (by decide) (filled_ints _ _) fun h6 N6 => WOL.cl1 rfl rfl ((k71 H (l:=[_,_]) N6.at_.get (by simp)).mono ?_)
 rintro v h6 ⟨rfl,rfl⟩
 have Z:=X3.trans N6.hx
 have Y:=X2.trans Z
 replace A2:=A2.hx Z;replace A4:=A4.hx Z
 have yn:=Y.next
 refine WOL.as rfl <| WOL.nil <| keep [(1,_),(2,_),(4,_),(6,_)] ⟨rfl,rfl,rfl,rfl,trivial⟩ ?_
 generalize hE:firstNZ [traceE n L S,outB a 0 64] = E
 by_cases e0:E ≠ 0
 ·rw [errV_no e0]
  refine WL.sr <| WOL.mv rfl <| WOL.bt rfl rfl rfl (bne_iff_ne.2 e0) <| WOL.nil <| WL.yes rfl <| WL.sr <| WOL.bd rfl bd1117z <| WOL.mv rfl <| WOL.sto (vs:=[zi 0,.slice none 0 0,.slice none 0 0]) rfl rfl tp1117 A4 rfl rfl (Nat.le_of_ble_eq_true rfl) rfl (f.hx Y) (by omega) fun i1 M1 => WOL.as rfl <| WOL.nil ?_
  exact WL.ret (WL.endC1 rfl rfl (load_row tp1117 M1.at_ rfl (Nat.le_of_ble_eq_true rfl)) ⟨M1.hx _ Y (by omega),.inl ⟨e0,rfl⟩⟩)
 have e0:E = 0:=Classical.not_not.1 e0
 subst e0
 have all:=firstNZ_zero hE
 obtain ⟨⟨m1,m2⟩,m3,m4,m5,m6,m7⟩:=trace_ok (all (traceE n L S) (by simp))
 obtain ⟨p1,p2⟩:=out_mm (all (outB a 0 64) (by simp))
 obtain ⟨l,rfl⟩:∃ l:Nat,a = l:=⟨a.toNat,by omega⟩
 rw [errV_ok,Int.toNat_natCast]
 refine WL.sr <| WOL.mv rfl <| WOL.bf rfl rfl rfl rfl <| WOL.nil <| keep [(1,_),(2,_),(4,_),(14,_)] ⟨rfl,rfl,rfl,rfl,trivial⟩ <| WL.no rfl <| WL.skip ?_
 have l2:=A2.lt
 refine WL.sr <| WOL.ld rfl (load_row tp1117 A2 rfl (Nat.le_of_ble_eq_true rfl)) <| WOL.mv rfl ?_
 refine WOL.lq1 [h.next] rfl rfl rfl fun M hM => ((k1203 (h:=h6.withLock M) (l:=l) H (by omega) ((f.on Y).held hM (fun b hb => by simp at hb;omega))).mono ?_)
 rintro v g1 ⟨Xg,c,rfl,hc,Ac⟩
 replace Xg:=Xg.relock
 replace Ac:=Ac.relock h6.lock
 generalize g1.withLock h6.lock = g1 at *
 have Yg:=Y.trans Xg
 have lD:(tapD (-(l:Int)) (rT (2 * l + 1) fun _ => 1)).length = 2 * l + 1:=by unfold tapD;rw [List.length_map,rT_len]
 refine WOL.cl2 rfl rfl rfl ((k1193 (n:=n) (W:=2 * l) (c:=-(l:Int)) H (r.hx Yg) (SlL.own eS Ac lD) (rTaps (by omega) (fun i _ => by decide)) m3 m1 m2 (by omega) (by omega) (by omega) l1 (by omega) (holeE_in m4) (by omega) (f.on Yg)).mono ?_)
 rintro v g2 ⟨X2',R⟩
 rw [Int.sub_neg] at R
 have x2:=(Yg.trans X2').next
 have x3:=Yg.next
 have l4:=(A4.hx Xg).lt
 rcases R with ⟨heT,rfl⟩ | ⟨heT,hbT,rfl⟩ | ⟨heT,hbT,bvT,wT,rfl,hvT,toT⟩
 ·exact WOL.ex rfl rfl <| WOL.ex rfl rfl <| WOL.sto (vs:=[zi 0,.slice none 0 0,.slice none 0 0]) rfl rfl tp1117 ((A4.hx Xg).hx X2') rfl rfl (Nat.le_of_ble_eq_true rfl) rfl (f.hx (Yg.trans X2')) (by omega) fun iT MT => WOL.as rfl <| WOL.nil <| WL.ret (WL.endC1 rfl rfl (load_row tp1117 MT.at_ rfl (Nat.le_of_ble_eq_true rfl)) ⟨MT.hx _ (Yg.trans X2') (by omega),.inl ⟨heT,rfl⟩⟩)
 ·exact WOL.ex rfl rfl <| WOL.ex rfl rfl <| WOL.sto (vs:=[zi 0,.slice none 0 0,.slice none 0 0]) rfl rfl tp1117 ((A4.hx Xg).hx X2') rfl rfl (Nat.le_of_ble_eq_true rfl) rfl (f.hx (Yg.trans X2')) (by omega) fun iT MT => WOL.as rfl <| WOL.nil <| WL.ret (WL.endC1 rfl rfl (load_row tp1117 MT.at_ rfl (Nat.le_of_ble_eq_true rfl)) ⟨MT.hx _ (Yg.trans X2') (by omega),.inr (.inl ⟨heT,hbT,rfl⟩)⟩)
 ·obtain ⟨b2T,m2T,k2T,rfl⟩:=toT.form
  exact WOL.ex rfl rfl <| WOL.ex rfl rfl <| WOL.sto (vs:=[zi _,slA bvT _,.slice b2T m2T k2T]) rfl rfl tp1117 ((A4.hx Xg).hx X2') rfl rfl (Nat.le_of_ble_eq_true rfl) rfl (f.hx (Yg.trans X2')) (by omega) fun iT MT => WOL.as rfl <| WOL.nil <| WL.ret (WL.endC1 rfl rfl (load_row tp1117 MT.at_ rfl (Nat.le_of_ble_eq_true rfl)) ⟨MT.hx _ (Yg.trans X2') (by omega),.inr (.inr ⟨heT,hbT,bvT,_,rfl,by omega,(toT.put MT (by omega) (by omega)).low (by omega)⟩)⟩)
set_option maxHeartbeats 2000000 in
set_option maxRecDepth 10000 in
theorem k1142 (H:Has tp) (r:TrcH h v1 v2 L S) (l1:L.length ≤ 900000) (t1:S.length ≤ 900000) (f:Free0 h.next h) :
  CallW Tryz.prog tp (.func (.func 42) #[] #[]) #[trcV n v1 v2,zi a,zi b] h fun v h' => HX h h' ∧ ProgR (n + b) (errV (firstNZ [traceE n L S,outB a 0 64,outB b 0 64,cond (decide (a ≥ b)) 11 0]) L.length (2 * b.toNat)) (tapC L S (rT (2 * b.toNat + 1) (bw a.toNat b.toNat)) (L.length - 2 * b.toNat)) h.next h' v:=by
 refine CallW.fnL (H.fn 42 f1142 rfl rfl) ?_
 obtain ⟨b1,k1,e1,_⟩:=id r.l
 obtain ⟨b2,k2,e2,_⟩:=id r.s
 subst e1 e2
 refine WL.sr <| WOL.box rfl fun h1 N1 => WOL.al tp1117 fun h2 N2 => WOL.as rfl <| WOL.nil <| keep [(1,_),(2,_),(3,_),(6,_)] ⟨rfl,rfl,rfl,rfl,trivial⟩ ?_
 have q1:=N1.next
 have q2:=N2.next
 have A2:At h2 h.next (.cells [zi n,.slice b1 L.length k1,.slice b2 S.length k2] true true 31):=N1.at_.hx N2.hx
 have A4:=N2.at_
 have X2:=N1.hx.trans N2.hx
 refine WL.sr <| WOL.ld rfl (load_row tp1117 A2 rfl (Nat.le_of_ble_eq_true rfl)) <| WOL.cl1 rfl rfl ((k1123 (n:=n) H (r.hx X2) (by omega) (by omega) (f.on X2)).mono ?_)
 rintro v h3 ⟨rfl,X3⟩
 refine WOL.mv rfl <| WOL.cl1 rfl rfl ((k1202 H a _).mono ?_)
 rintro v h3 ⟨rfl,rfl⟩
 refine WOL.mv rfl <| WOL.cl1 rfl rfl ((k1202 H b _).mono ?_)
 rintro v h3 ⟨rfl,rfl⟩
 refine WOL.mv rfl <| WOL.mv rfl <| WOL.bi (v:=.bool (decide (a ≥ b))) rfl rfl rfl <| WOL.cl2 rfl rfl rfl ((k77 H _ _ _).mono ?_)
 rintro v h3 ⟨rfl,rfl⟩
 refine WOL.bsl rfl u166 tp30 (by decide) (by decide) (by decide) (filled_ints4 _ _ _ _) fun h6 N6 => WOL.cl1 rfl rfl ((k71 H (l:=[_,_,_,_]) N6.at_.get (by simp)).mono ?_)
 rintro v h6 ⟨rfl,rfl⟩
 have Z:=X3.trans N6.hx
 have Y:=X2.trans Z
 replace A2:=A2.hx Z;replace A4:=A4.hx Z
 have yn:=Y.next
 refine WOL.as rfl <| WOL.nil <| keep [(1,_),(2,_),(3,_),(6,_),(8,_)] ⟨rfl,rfl,rfl,rfl,rfl,trivial⟩ ?_
 generalize hE:firstNZ [traceE n L S,outB a 0 64,outB b 0 64,cond (decide (a ≥ b)) 11 0] = E
 by_cases e0:E ≠ 0
 ·rw [errV_no e0]
  refine WL.seq <| WL.sr <| WOL.mv rfl <| WOL.bt rfl rfl rfl (bne_iff_ne.2 e0) <| WOL.nil <| WL.yes rfl <| WL.sr <| WOL.bd rfl bd1117z <| WOL.mv rfl <| WOL.sto (vs:=[zi 0,.slice none 0 0,.slice none 0 0]) rfl rfl tp1117 A4 rfl rfl (Nat.le_of_ble_eq_true rfl) rfl (f.hx Y) (by omega) fun i1 M1 => WOL.as rfl <| WOL.nil ?_
  exact WL.ret (WL.endC1 rfl rfl (load_row tp1117 M1.at_ rfl (Nat.le_of_ble_eq_true rfl)) ⟨M1.hx _ Y (by omega),.inl ⟨e0,rfl⟩⟩)
 have e0:E = 0:=Classical.not_not.1 e0
 subst e0
 have all:=firstNZ_zero hE
 obtain ⟨⟨m1,m2⟩,m3,m4,m5,m6,m7⟩:=trace_ok (all (traceE n L S) (by simp))
 obtain ⟨p1,p2⟩:=out_mm (all (outB a 0 64) (by simp))
 obtain ⟨p3,p4⟩:=out_mm (all (outB b 0 64) (by simp))
 obtain ⟨s,rfl⟩:∃ s:Nat,a = s:=⟨a.toNat,by omega⟩
 obtain ⟨l,rfl⟩:∃ l:Nat,b = l:=⟨b.toNat,by omega⟩
 rw [errV_ok,Int.toNat_natCast,Int.toNat_natCast]
 refine WL.seq <| WL.sr <| WOL.mv rfl <| WOL.bf rfl rfl rfl rfl <| WOL.nil <| keep [(1,_),(2,_),(3,_),(6,_),(22,_)] ⟨rfl,rfl,rfl,rfl,rfl,trivial⟩ <| WL.no rfl <| WL.skip ?_
 have l2:=A2.lt
 refine WL.sr <| WOL.ld rfl (load_row tp1117 A2 rfl (Nat.le_of_ble_eq_true rfl)) <| WOL.mv rfl <| WOL.mv rfl ?_
 refine WOL.lq2 [h.next] rfl rfl rfl rfl fun M hM => ((k1204 (h:=h6.withLock M) (s:=s) (l:=l) H (by omega) (by omega) ((f.on Y).held hM (fun b hb => by simp at hb;omega))).mono ?_)
 rintro v g1 ⟨Xg,c,rfl,hc,Ac⟩
 replace Xg:=Xg.relock
 replace Ac:=Ac.relock h6.lock
 generalize g1.withLock h6.lock = g1 at *
 have Yg:=Y.trans Xg
 have lD:(tapD (-(l:Int)) (rT (2 * l + 1) (bw s l))).length = 2 * l + 1:=by unfold tapD;rw [List.length_map,rT_len]
 refine WOL.cl2 rfl rfl rfl ((k1193 (n:=n) (W:=2 * l) (c:=-(l:Int)) H (r.hx Yg) (SlL.own eS Ac lD) (rTaps (by omega) (fun i _ => bw_lim (by omega) (by omega))) m3 m1 m2 (by omega) (by omega) (by omega) l1 (by omega) (holeE_in m4) (by omega) (f.on Yg)).mono ?_)
 rintro v g2 ⟨X2',R⟩
 rw [Int.sub_neg] at R
 have x2:=(Yg.trans X2').next
 have x3:=Yg.next
 have l4:=(A4.hx Xg).lt
 rcases R with ⟨heT,rfl⟩ | ⟨heT,hbT,rfl⟩ | ⟨heT,hbT,bvT,wT,rfl,hvT,toT⟩
 ·exact WOL.ex rfl rfl <| WOL.ex rfl rfl <| WOL.sto (vs:=[zi 0,.slice none 0 0,.slice none 0 0]) rfl rfl tp1117 ((A4.hx Xg).hx X2') rfl rfl (Nat.le_of_ble_eq_true rfl) rfl (f.hx (Yg.trans X2')) (by omega) fun iT MT => WOL.as rfl <| WOL.nil <| WL.ret (WL.endC1 rfl rfl (load_row tp1117 MT.at_ rfl (Nat.le_of_ble_eq_true rfl)) ⟨MT.hx _ (Yg.trans X2') (by omega),.inl ⟨heT,rfl⟩⟩)
 ·exact WOL.ex rfl rfl <| WOL.ex rfl rfl <| WOL.sto (vs:=[zi 0,.slice none 0 0,.slice none 0 0]) rfl rfl tp1117 ((A4.hx Xg).hx X2') rfl rfl (Nat.le_of_ble_eq_true rfl) rfl (f.hx (Yg.trans X2')) (by omega) fun iT MT => WOL.as rfl <| WOL.nil <| WL.ret (WL.endC1 rfl rfl (load_row tp1117 MT.at_ rfl (Nat.le_of_ble_eq_true rfl)) ⟨MT.hx _ (Yg.trans X2') (by omega),.inr (.inl ⟨heT,hbT,rfl⟩)⟩)
 ·obtain ⟨b2T,m2T,k2T,rfl⟩:=toT.form
  exact WOL.ex rfl rfl <| WOL.ex rfl rfl <| WOL.sto (vs:=[zi _,slA bvT _,.slice b2T m2T k2T]) rfl rfl tp1117 ((A4.hx Xg).hx X2') rfl rfl (Nat.le_of_ble_eq_true rfl) rfl (f.hx (Yg.trans X2')) (by omega) fun iT MT => WOL.as rfl <| WOL.nil <| WL.ret (WL.endC1 rfl rfl (load_row tp1117 MT.at_ rfl (Nat.le_of_ble_eq_true rfl)) ⟨MT.hx _ (Yg.trans X2') (by omega),.inr (.inr ⟨heT,hbT,bvT,_,rfl,by omega,(toT.put MT (by omega) (by omega)).low (by omega)⟩)⟩)
end
end Go.Tidy
namespace Go.Tidy
open Go Go.Proofs Tab
variable {tp:TProg}
section
variable {P:Program} {h:TH} {K:Regs → TH → Prop} {rest:List TOper} {d:Option Tmp} {ty:TypeId} {i:Nat} {x y:Operand} {v vx vy:Value} {t u e:TypeId} {n:Nat} {z:List Value} {row:Bool} {L:Rg}
end
theorem bd1114c {z:Int} {b2:Option Addr} {m2 k2:Nat}:buildT Tryz.prog 27 [(0,zi z),(1,.slice b2 m2 k2)] = some (trcV z (.slice b2 m2 k2) (.slice none 0 0)):=by kernel_rfl
section
variable {h:TH} {s:ByteArray} {n a b:Int} {v v1 v2:Value} {F:List Nat} {S:List (Int × Int)} {es L:List Int}
end
end Go.Tidy
namespace Go.Tidy
open Go Go.Proofs Tab
variable {tp:TProg}
def turV (a b:Int):Value:=cond (chordE a b != 0) (.agg #[zi 0,zi 0]) (.agg #[zi b,zi a])
section
variable {h h0 hb:TH} {s:ByteArray} {n a b m1 E:Int} {v v1 v2:Value} {F:List Nat} {S:List (Int × Int)} {es L:List Int} {o1:Int × List Int × List (Int × Int)} {x y:Int} {c2 c3 c5 c7 c11 c12:Nat}
theorem k1209 (H:Has tp) (f:Free0 h.next h):CallW Tryz.prog tp (.func (.func 112) #[] #[]) #[.agg #[zi a,zi b]] h fun v h' => v = .agg #[zi b,zi a] ∧ HX h h':=by
 refine CallW.fnL (H.fn 112 f1209 rfl rfl) ?_
 refine WL.sr <| WOL.box rfl fun h1 N1 => WOL.al tp1128 fun h2 N2 => WOL.nil <| keep [(1,_),(2,_)] ⟨rfl,rfl,trivial⟩ ?_
 have q1:=N1.next
 have A1:At h2 h.next (.cells [zi a,zi b] true true 44):=N1.at_.hx N2.hx
 have X2:=N1.hx.trans N2.hx
 refine WL.sr <| WOL.fa rfl (fa_of fo1128_1) <| WOL.ld rfl (load_one tp3 A1 rfl) <| WOL.fa rfl (fa_of fo1128_0) <| WOL.ld rfl (load_one tp3 A1 rfl) <| WOL.bd rfl bd1128 <| WOL.sto (vs:=[zi b,zi a]) rfl rfl tp1128 N2.at_ rfl rfl (Nat.le_of_ble_eq_true rfl) rfl (f.hx X2) (by omega) fun h3 P3 => WOL.nil ?_
 exact WL.ret (WL.endC rfl (load_row tp1128 P3.at_ rfl (Nat.le_of_ble_eq_true rfl)) ⟨rfl,P3.hx _ X2 (by omega)⟩)
theorem k1208 (H:Has tp) (f:Free0 h.next h):CallW Tryz.prog tp (.func (.func 111) #[] #[]) #[.agg #[zi a,zi b],.func (.func 112) #[] #[]] h fun v h' => v = .tuple #[turV a b,zi (chordE a b)] ∧ HX h h':=by
 refine CallW.fnL (H.fn 111 f1208 rfl rfl) ?_
 refine WL.sr <| WOL.box rfl fun h1 N1 => WOL.al tp1128 fun h2 N2 => WOL.as rfl <| WOL.nil <| keep [(1,_),(2,_),(4,_)] ⟨rfl,rfl,rfl,trivial⟩ ?_
 have q1:=N1.next
 have q2:=N2.next
 have A2:At h2 h.next (.cells [zi a,zi b] true true 44):=N1.at_.hx N2.hx
 have A4:=N2.at_
 have X2:=N1.hx.trans N2.hx
 refine WL.seq <| WL.sr <| WOL.ld rfl (load_row tp1128 A2 rfl (Nat.le_of_ble_eq_true rfl)) <| WOL.cl1 rfl rfl ((k1121 H a b _).mono ?_)
 rintro v h3 ⟨rfl,X3⟩
 have Y3:=X2.trans X3
 have y3:=Y3.next
 replace A2:=A2.hx X3;replace A4:=A4.hx X3
 refine WOL.as rfl <| WOL.nil <| keep [(1,_),(2,_),(4,_),(6,_)] ⟨rfl,rfl,rfl,rfl,trivial⟩ ?_
 unfold turV
 by_cases e0:chordE a b ≠ 0
 ·rw [bne_iff_ne.2 e0]
  refine WL.sr <| WOL.mv rfl <| WOL.bt rfl rfl rfl (bne_iff_ne.2 e0) <| WOL.nil <| WL.yes rfl <| WL.sr <| WOL.al tp1128 fun h4 N4 => WOL.nc rfl <| WOL.ld rfl (load_row tp1128 N4.at_ rfl (Nat.le_of_ble_eq_true rfl)) <| WOL.mv rfl <| WOL.sto (vs:=[zi 0,zi 0]) rfl rfl tp1128 (A4.hx N4.hx) rfl rfl (Nat.le_of_ble_eq_true rfl) rfl (f.hx (Y3.trans N4.hx)) (by omega) fun h5 P5 => WOL.as rfl <| WOL.nil ?_
  exact WL.ret (WL.endC1 rfl rfl (load_row tp1128 P5.at_ rfl (Nat.le_of_ble_eq_true rfl)) ⟨rfl,P5.hx _ (Y3.trans N4.hx) (by omega)⟩)
 have e0:chordE a b = 0:=Classical.not_not.1 e0
 rw [e0]
 refine WL.sr <| WOL.mv rfl <| WOL.bf rfl rfl rfl rfl <| WOL.nil <| WL.no rfl <| WL.skip ?_
 refine WL.sr <| WOL.mv rfl <| WOL.ld rfl (load_row tp1128 A2 rfl (Nat.le_of_ble_eq_true rfl)) <| WOL.cl1 rfl rfl ((k1209 H (f.on Y3)).mono ?_)
 rintro v h4 ⟨rfl,X4⟩
 refine WOL.sto (vs:=[zi b,zi a]) rfl rfl tp1128 (A4.hx X4) rfl rfl (Nat.le_of_ble_eq_true rfl) rfl (f.hx (Y3.trans X4)) (by omega) fun h5 P5 => WOL.as rfl <| WOL.nil ?_
 exact WL.ret (WL.endC1 rfl rfl (load_row tp1128 P5.at_ rfl (Nat.le_of_ble_eq_true rfl)) ⟨rfl,P5.hx _ (Y3.trans X4) (by omega)⟩)
theorem turV_ex:∃ x y,turV a b = .agg #[zi x,zi y] ∧ ((chordE a b ≠ 0 ∧ x = 0 ∧ y = 0) ∨ (chordE a b = 0 ∧ x = b ∧ y = a)):=by
 unfold turV
 by_cases e0:chordE a b ≠ 0
 ·rw [bne_iff_ne.2 e0];exact ⟨_,_,rfl,.inl ⟨e0,rfl,rfl⟩⟩
 ·rw [Classical.not_not.1 e0];exact ⟨_,_,rfl,.inr ⟨rfl,rfl,rfl⟩⟩
theorem k1147 (H:Has tp) (f:Free0 h.next h):CallW Tryz.prog tp (.func (.func 49) #[] #[]) #[.agg #[zi a,zi b]] h fun v h' => v = .tuple #[turV a b,zi (chordE a b)] ∧ HX h h':=by
 refine CallW.fnL (H.fn 49 f1147 rfl rfl) ?_
 refine WL.sr <| WOL.box rfl fun h1 N1 => WOL.al tp1128 fun h2 N2 => WOL.as rfl <| WOL.nil <| keep [(1,_),(2,_)] ⟨rfl,rfl,trivial⟩ ?_
 have q1:=N1.next
 have A1:At h2 h.next (.cells [zi a,zi b] true true 44):=N1.at_.hx N2.hx
 have X2:=N1.hx.trans N2.hx
 refine WL.sr <| WOL.ld rfl (load_row tp1128 A1 rfl (Nat.le_of_ble_eq_true rfl)) <| WOL.cl2 rfl rfl rfl ((k1208 H (f.on X2)).mono ?_)
 rintro v h3 ⟨rfl,X3⟩
 obtain ⟨x,y,e,_⟩:=turV_ex (a:=a) (b:=b)
 rw [e]
 refine WOL.ex rfl rfl <| WOL.ex rfl rfl <| WOL.sto (vs:=[zi x,zi y]) rfl rfl tp1128 (N2.at_.hx X3) rfl rfl (Nat.le_of_ble_eq_true rfl) rfl (f.hx (X2.trans X3)) (by omega) fun h4 P4 => WOL.as rfl <| WOL.nil ?_
 exact WL.ret (WL.endC1 rfl rfl (load_row tp1128 P4.at_ rfl (Nat.le_of_ble_eq_true rfl)) ⟨rfl,P4.hx _ (X2.trans X3) (by omega)⟩)
end
end Go.Tidy
namespace Go.Tidy
open Go Go.Proofs Tab
variable {tp:TProg}
section
variable {P:Program} {h:TH} {K:Regs → TH → Prop} {rest:List TOper} {d:Option Tmp} {ty:TypeId} {i:Nat} {x y:Operand} {t u:TypeId} {L:Rg}
end
section
variable {p q:Nat} {E:List Int} {C:List (Int × Bool)} {j:Nat} {H:List (Int × Bool)}
def HFine (H:List (Int × Bool)):Prop:=∀ c,c ∈ H → (c.2 = true → largeB c.1 = false) ∧ (c.2 = false → c.1 = 0)
theorem HFine.lim {H:List (Int × Bool)} (f:HFine H) (i:Nat):-1073741824 ≤ (H.getD i (0,false)).1 ∧ (H.getD i (0,false)).1 ≤ 1073741824:=by
  rw [List.getD_eq_getElem?_getD]
  cases hi:H[i]? with
  | none => decide
  | some c =>
    obtain ⟨f1,f2⟩:=f c (List.mem_of_getElem? hi)
    show -1073741824 ≤ c.1 ∧ c.1 ≤ 1073741824
    cases hc:c.2 with
    | false => rw [f2 hc];decide
    | true =>
      have:=f1 hc
      unfold largeB readE at this
      have h0:outB c.1 (-1073741824) 1073741824 = 0:=by
        by_cases q:outB c.1 (-1073741824) 1073741824 = 0
        · exact q
        · rw [bne_iff_ne.2 q] at this;cases this
      exact out_mm h0
theorem HFine.val {H:List (Int × Bool)} (f:HFine H):valC H = H.map fun c => c.1:=by
 unfold valC
 refine List.map_congr_left fun c hc => ?_
 cases h:c.2 with
 | true => rfl
 | false => rw [(f c hc).2 h];rfl
end
section
variable {α:Type} {l:List α} {z x:α} {m:Nat}
end
section
variable {h:TH} {n:Int} {p q:Nat} {L E:List Int} {S:List (Int × Int)} {rv rk hv hk:Nat}
end
end Go.Tidy
namespace Go.Tidy
open Go Go.Proofs Tab
variable {tp:TProg}
theorem TrcO.relock {n0 bv:Nat} {g:TH} {w:Value} {L:List Int} {S:List (Int × Int)} (r:TrcO n0 g bv w L S) (M:List Nat):TrcO n0 (g.withLock M) bv w L S:=⟨r.v.relock _,r.s.keep fun z y hz a => a.relock _⟩
section
variable {h:TH} {n n' a b:Int} {v1 v2 w1 w2:Value} {L L':List Int} {S S':List (Int × Int)}
end
end Go.Tidy
namespace Go.Tidy
open Go Go.Proofs Tab
variable {tp:TProg}
section
variable {h:TH} {n n':Int} {p q:Nat} {v1 v2 w1 w2:Value} {L L':List Int} {S S':List (Int × Int)}
theorem knownL_getD {S:List (Int × Int)} {m i:Nat} (hi:i < m):(knownL S m).getD i false = knownB S (i:Nat):=by
 rw [List.getD_eq_getElem?_getD,knownL_get hi];rfl
end
end Go.Tidy
namespace Go.Tidy
open Go Go.Proofs Tab
variable {tp:TProg}
section
variable {h0 h:TH} {n:Int} {b1 b2:Option Addr} {k1 k2 cb:Nat} {L:List Int} {S:List (Int × Int)} {T:Int}
set_option maxHeartbeats 4000000 in
set_option maxRecDepth 10000 in
theorem k1117bw (H:Has tp) (r:TrcH h (.slice b1 L.length k1) (.slice b2 S.length k2) L S) (hL:L.length ≤ 900000) (f:Free0 h.next h) (X0:HX h0 h) (A1:At h cb (.cells [zi n,.slice b1 L.length k1,.slice b2 S.length k2] true true 27)) (eT:T = cond (holeE L.length (-1) S != 0) (holeE L.length (-1) S) (formE L S)) :
    ∀ a,Kn [(1,ptr cb)] a → W Tryz.prog tp false cd1117b a h (Fin Tryz.prog [.tmp 2] fun v h' => v = zi T ∧ HX h0 h'):=by
  have l1:=A1.lt
  unfold cd1117b
  refine WL.seq <| WL.sr <| WOL.as rfl <| WOL.nil <| keep [(1,_),(6,_)] ⟨rfl,rfl,trivial⟩ ?_
  refine WL.forz (α:=Int) S.length (fun j prev g => HX h g ∧ holeE L.length (-1) S = holeE L.length prev (S.drop j) ∧ (((j:Nat):Int) ≤ prev + 1 ∧ prev ≤ (L.length:Nat)) ∧ ((j = 0 ∧ prev = -1) ∨ (0 < j ∧ ∃ q,S[j - 1]? = some q ∧ q.2 = prev))) (fun j _ => [(1,ptr cb),(6,zi (j:Nat))]) (fun j _ => [(1,ptr cb),(6,zi (j:Nat))]) (-1) ⟨HX.refl _,rfl,⟨by omega,by omega⟩,.inl ⟨rfl,rfl⟩⟩ ⟨rfl,rfl,trivial⟩ ?_ ?_ (fun _ _ _ => ⟨rfl,rfl,trivial⟩) ?_ ?_
  · rintro j _ g hj ⟨X,_,_,_⟩
    exact WOL.mv rfl <| WOL.fa rfl (fa_of fo1114_2) <| WOL.ld rfl (load_one tp44 (A1.hx X) rfl) <| WOL.len rfl (r.s.hx X) u44 <| WOL.bi rfl rfl rfl <| WOL.nil fun a q => ⟨rfl,q.sub ⟨rfl,rfl,rfl,trivial⟩⟩
  · rintro j pv g hj hH
    have hb:=hH.2.2.1
    exact WOL.mv rfl <| WOL.inc rfl (by omega) <| WOL.as rfl <| WOL.nil fun a q => ⟨hH,q.sub ⟨rfl,rfl,trivial⟩⟩
  · rintro j prev g hj ⟨X,hE,hbd,hprev⟩
    have hp:S[j]? = some S[j]:=List.getElem?_eq_getElem hj
    have hd:S.drop j = S[j] :: S.drop (j + 1):=List.drop_eq_getElem_cons hj
    generalize S[j] = p at hp hd
    obtain ⟨p1,p2⟩:=p
    rw [hd,holeE_cons] at hE
    obtain ⟨b,o,cc,fix,wr,el,g1,g2,g3,g4,g5⟩:=(r.s.hx X).at eS u44 tp48 hp .i64
    have A1':=A1.hx X
    refine WL.sr <| WOL.fa rfl (fa_of fo1114_2) <| WOL.ld rfl (load_one tp44 A1' rfl) <| WOL.mv rfl <| WOL.ix rfl rfl g1 <| WOL.ld rfl (load_row tp48 g2 g4 g3) <| WOL.al tp48 fun i1 M1 => ?_
    refine WOL.sto (vs:=encS (p1,p2)) rfl rfl tp48 M1.at_ rfl rfl (Nat.le_of_ble_eq_true rfl) rfl (f.hx (X.trans M1.hx)) X.next fun i2 M2 => ?_
    have A7:At i2 g.next (.cells [zi p1,zi p2] true true 103):=M2.at_
    have XI:HX g i2:=M2.hx _ M1.hx (Nat.le_refl _)
    have r2:=r.hx (X.trans XI)
    replace A1':=A1'.hx XI
    have Z:=X0.trans (X.trans XI)
    refine WOL.nil <| keep [(1,_),(6,_),(7,_)] ⟨rfl,rfl,rfl,trivial⟩ ?_
    by_cases c1:p1 < 0
    · rw [show badS L.length (p1,p2) = true by unfold badS;rw [decide_eq_true c1];rfl] at hE
      replace hE:holeE L.length (-1) S = 14:=hE
      refine WL.seq <| WL.sr ?_
      repeat' (first
    | (refine WOL.fa rfl (fa_of fo48_0) ?_)
    | (refine WOL.fa rfl (fa_of fo48_1) ?_)
    | (refine WOL.fa rfl (fa_of fo1114_1) ?_)
    | (refine WOL.ld rfl (load_one tp3 A7 rfl) ?_)
    | (refine WOL.ld rfl (load_one tp29 A1' rfl) ?_)
    | (refine WOL.len rfl r2.l u29 ?_)
    | (refine WOL.bt rfl rfl rfl (by first | exact decide_eq_true (by omega) | exact beq_iff_eq.2 (by omega) | exact bne_iff_ne.2 (by omega)) ?_)
    | refine WOL.now (b:=true) rfl rfl ?_ | refine WOL.now (b:=false) rfl rfl ?_
    | refine WOL.skp (b:=true) rfl rfl ?_ | refine WOL.skp (b:=false) rfl rfl ?_ | refine WOL.gu rfl rfl ?_
    | refine WOL.mv rfl ?_ | refine WOL.as rfl ?_
    | refine WOL.bi rfl rfl rfl ?_ | refine WOL.nt rfl ?_
    | refine WOL.pkt rfl rfl ?_ | refine WOL.pkf rfl rfl ?_)
      refine WOL.nil <| keep [(74,_)] ⟨rfl,trivial⟩ ?_
      refine WL.yes rfl <| WL.sr <| WOL.as rfl <| WOL.nil ?_
      exact WL.ret (WL.end_ rfl ⟨by rw [eT,hE];rfl,Z⟩)
    by_cases c2:p2 ≤ p1
    · rw [show badS L.length (p1,p2) = true by unfold badS;rw [decide_eq_false c1,decide_eq_true c2];rfl] at hE
      replace hE:holeE L.length (-1) S = 14:=hE
      refine WL.seq <| WL.sr ?_
      repeat' (first
    | (refine WOL.fa rfl (fa_of fo48_0) ?_)
    | (refine WOL.fa rfl (fa_of fo48_1) ?_)
    | (refine WOL.fa rfl (fa_of fo1114_1) ?_)
    | (refine WOL.ld rfl (load_one tp3 A7 rfl) ?_)
    | (refine WOL.ld rfl (load_one tp29 A1' rfl) ?_)
    | (refine WOL.len rfl r2.l u29 ?_)
    | (refine WOL.bf rfl rfl rfl (by first | exact decide_eq_false (by omega) | exact beq_eq_false_iff_ne.2 (by omega) | exact bne_eq_false_iff_eq.2 (by omega)) ?_)
    | (refine WOL.bt rfl rfl rfl (by first | exact decide_eq_true (by omega) | exact beq_iff_eq.2 (by omega) | exact bne_iff_ne.2 (by omega)) ?_)
    | refine WOL.now (b:=true) rfl rfl ?_ | refine WOL.now (b:=false) rfl rfl ?_
    | refine WOL.skp (b:=true) rfl rfl ?_ | refine WOL.skp (b:=false) rfl rfl ?_ | refine WOL.gu rfl rfl ?_
    | refine WOL.mv rfl ?_ | refine WOL.as rfl ?_
    | refine WOL.bi rfl rfl rfl ?_ | refine WOL.nt rfl ?_
    | refine WOL.pkt rfl rfl ?_ | refine WOL.pkf rfl rfl ?_)
      refine WOL.nil <| keep [(74,_)] ⟨rfl,trivial⟩ ?_
      refine WL.yes rfl <| WL.sr <| WOL.as rfl <| WOL.nil ?_
      exact WL.ret (WL.end_ rfl ⟨by rw [eT,hE];rfl,Z⟩)
    by_cases c3:(L.length:Int) < p2
    · rw [show badS L.length (p1,p2) = true by unfold badS;rw [decide_eq_false c1,decide_eq_false c2,decide_eq_true c3];rfl] at hE
      replace hE:holeE L.length (-1) S = 14:=hE
      refine WL.seq <| WL.sr ?_
      repeat' (first
    | (refine WOL.fa rfl (fa_of fo48_0) ?_)
    | (refine WOL.fa rfl (fa_of fo48_1) ?_)
    | (refine WOL.fa rfl (fa_of fo1114_1) ?_)
    | (refine WOL.ld rfl (load_one tp3 A7 rfl) ?_)
    | (refine WOL.ld rfl (load_one tp29 A1' rfl) ?_)
    | (refine WOL.len rfl r2.l u29 ?_)
    | (refine WOL.bf rfl rfl rfl (by first | exact decide_eq_false (by omega) | exact beq_eq_false_iff_ne.2 (by omega) | exact bne_eq_false_iff_eq.2 (by omega)) ?_)
    | (refine WOL.bt rfl rfl rfl (by first | exact decide_eq_true (by omega) | exact beq_iff_eq.2 (by omega) | exact bne_iff_ne.2 (by omega)) ?_)
    | refine WOL.now (b:=true) rfl rfl ?_ | refine WOL.now (b:=false) rfl rfl ?_
    | refine WOL.skp (b:=true) rfl rfl ?_ | refine WOL.skp (b:=false) rfl rfl ?_ | refine WOL.gu rfl rfl ?_
    | refine WOL.mv rfl ?_ | refine WOL.as rfl ?_
    | refine WOL.bi rfl rfl rfl ?_ | refine WOL.nt rfl ?_
    | refine WOL.pkt rfl rfl ?_ | refine WOL.pkf rfl rfl ?_)
      refine WOL.nil <| keep [(74,_)] ⟨rfl,trivial⟩ ?_
      refine WL.yes rfl <| WL.sr <| WOL.as rfl <| WOL.nil ?_
      exact WL.ret (WL.end_ rfl ⟨by rw [eT,hE];rfl,Z⟩)
    rw [show badS L.length (p1,p2) = false by unfold badS;rw [decide_eq_false c1,decide_eq_false c2,decide_eq_false c3];rfl] at hE
    replace hE:holeE L.length (-1) S = cond (decide (p1 ≤ prev)) 11 (holeE L.length p2 (S.drop (j + 1))):=hE
    refine WL.seq <| WL.sr ?_
    repeat' (first
    | (refine WOL.fa rfl (fa_of fo48_0) ?_)
    | (refine WOL.fa rfl (fa_of fo48_1) ?_)
    | (refine WOL.fa rfl (fa_of fo1114_1) ?_)
    | (refine WOL.ld rfl (load_one tp3 A7 rfl) ?_)
    | (refine WOL.ld rfl (load_one tp29 A1' rfl) ?_)
    | (refine WOL.len rfl r2.l u29 ?_)
    | (refine WOL.bf rfl rfl rfl (by first | exact decide_eq_false (by omega) | exact beq_eq_false_iff_ne.2 (by omega) | exact bne_eq_false_iff_eq.2 (by omega)) ?_)
    | refine WOL.now (b:=true) rfl rfl ?_ | refine WOL.now (b:=false) rfl rfl ?_
    | refine WOL.skp (b:=true) rfl rfl ?_ | refine WOL.skp (b:=false) rfl rfl ?_ | refine WOL.gu rfl rfl ?_
    | refine WOL.mv rfl ?_ | refine WOL.as rfl ?_
    | refine WOL.bi rfl rfl rfl ?_ | refine WOL.nt rfl ?_
    | refine WOL.pkt rfl rfl ?_ | refine WOL.pkf rfl rfl ?_)
    refine WOL.nil <| keep [(1,_),(6,_),(7,_),(74,_)] ⟨rfl,rfl,rfl,rfl,trivial⟩ ?_
    refine WL.no rfl <| WL.skip ?_
    have fin:p1 > prev → ∀ a,Kn [(1,ptr cb),(6,zi (j:Nat))] a → ∃ x,(HX h i2 ∧ holeE L.length (-1) S = holeE L.length x (S.drop (j + 1)) ∧ (((j + 1:Nat):Int) ≤ x + 1 ∧ x ≤ (L.length:Nat)) ∧ ((j + 1 = 0 ∧ x = -1) ∨ (0 < j + 1 ∧ ∃ q,S[j + 1 - 1]? = some q ∧ q.2 = x))) ∧ Kn [(1,ptr cb),(6,zi (j:Nat))] a:=fun hp1 a q => by
      rw [decide_eq_false (show ¬ p1 ≤ prev by omega)] at hE
      exact ⟨p2,⟨X.trans XI,hE,⟨by omega,by omega⟩,.inr ⟨by omega,(p1,p2),by rw [Nat.add_sub_cancel];exact hp,rfl⟩⟩,q⟩
    rcases hprev with ⟨rfl,rfl⟩ | ⟨hj0,q,hq,rfl⟩
    · refine WL.sr <| WOL.mv rfl <| WOL.bf rfl rfl rfl rfl <| WOL.mv rfl ?_
      repeat' (first
    | (refine WOL.mv rfl ?_)
    | refine WOL.now (b:=true) rfl rfl ?_ | refine WOL.now (b:=false) rfl rfl ?_
    | refine WOL.skp (b:=true) rfl rfl ?_ | refine WOL.skp (b:=false) rfl rfl ?_ | refine WOL.gu rfl rfl ?_
    | refine WOL.mv rfl ?_ | refine WOL.as rfl ?_
    | refine WOL.bi rfl rfl rfl ?_ | refine WOL.nt rfl ?_
    | refine WOL.pkt rfl rfl ?_ | refine WOL.pkf rfl rfl ?_)
      refine WOL.nil <| keep [(1,_),(6,_),(88,_)] ⟨rfl,rfl,rfl,trivial⟩ ?_
      exact WL.no rfl <| WL.skip <| kto (fin (by omega)) ⟨rfl,rfl,trivial⟩
    · obtain ⟨b3,o3,cc3,fix3,wr3,el3,m1,m2,m3,m4,m5⟩:=r2.s.at eS u44 tp48 hq .i64
      have m6:=m5 1 (by decide)
      replace m6:cc3[o3 + 1]? = some (zi q.2):=m6
      refine WL.sr <| WOL.mv rfl <| WOL.bt rfl rfl rfl (by first | exact decide_eq_true (by omega) | exact beq_iff_eq.2 (by omega) | exact bne_iff_ne.2 (by omega)) <| WOL.mv rfl <| WOL.now (b:=true) rfl rfl <| WOL.fa rfl (fa_of fo48_0) <| WOL.now (b:=true) rfl rfl <| WOL.ld rfl (load_one tp3 A7 rfl) <| WOL.now (b:=true) rfl rfl <| WOL.fa rfl (fa_of fo1114_2) <| WOL.now (b:=true) rfl rfl <| WOL.ld rfl (load_one tp44 A1' rfl) <| WOL.now (b:=true) rfl rfl <| WOL.mv rfl <| WOL.now (b:=true) rfl rfl <| WOL.sub (m:=((j:Nat):Int)) (n:=1) rfl rfl (by omega) (by omega) ?_
      rw [show ((j:Nat):Int) - 1 = ((j - 1:Nat):Int) by omega]
      refine WOL.now (b:=true) rfl rfl <| WOL.ix rfl rfl m1 <| WOL.now (b:=true) rfl rfl <| WOL.fa rfl (fa_of fo48_1) <| WOL.now (b:=true) rfl rfl <| WOL.ld rfl (load_one tp3 m2 m6) <| WOL.now (b:=true) rfl rfl ?_
      by_cases c4:p1 ≤ q.2
      · rw [decide_eq_true c4] at hE
        replace hE:holeE L.length (-1) S = 11:=hE
        refine WOL.bt rfl rfl rfl (by first | exact decide_eq_true (by omega) | exact beq_iff_eq.2 (by omega) | exact bne_iff_ne.2 (by omega)) <| WOL.pkt rfl rfl <| WOL.nil <| keep [(88,_)] ⟨rfl,trivial⟩ ?_
        refine WL.yes rfl <| WL.sr <| WOL.as rfl <| WOL.nil ?_
        exact WL.ret (WL.end_ rfl ⟨by rw [eT,hE];rfl,Z⟩)
      · refine WOL.bf rfl rfl rfl (by first | exact decide_eq_false (by omega) | exact beq_eq_false_iff_ne.2 (by omega) | exact bne_eq_false_iff_eq.2 (by omega)) <| WOL.pkt rfl rfl <| WOL.nil <| keep [(1,_),(6,_),(88,_)] ⟨rfl,rfl,rfl,trivial⟩ ?_
        exact WL.no rfl <| WL.skip <| kto (fin (by omega)) ⟨rfl,rfl,trivial⟩
  · rintro prev g ⟨X,hE,hbd,_⟩
    have hS:S.length ≤ 1000001:=by omega
    rw [List.drop_length] at hE
    replace hE:holeE L.length (-1) S = 0:=hE
    rw [hE] at eT
    replace eT:T = formE L S:=eT
    have hin:=holeE_in hE
    refine WL.seq <| WL.sr <| WOL.as rfl <| WOL.nil <| keep [(1,_),(8,_)] ⟨rfl,rfl,trivial⟩ ?_
    refine WL.forz (α:=Unit) L.length (fun j _ g => HX h g ∧ ∀ (i:Nat) x,i < j → L[i]? = some x → x ≠ 0 → knownB S i = true) (fun j _ => [(1,ptr cb),(8,zi (j:Nat))]) (fun j _ => [(1,ptr cb),(8,zi (j:Nat))]) () ⟨X,fun i x hi => absurd hi (by omega)⟩ ⟨rfl,rfl,trivial⟩ ?_ ?_ (fun _ _ _ => ⟨rfl,rfl,trivial⟩) ?_ ?_
    · rintro j _ g hj ⟨X,_⟩
      exact WOL.mv rfl <| WOL.fa rfl (fa_of fo1114_1) <| WOL.ld rfl (load_one tp29 (A1.hx X) rfl) <| WOL.len rfl (r.l.hx X) u29 <| WOL.bi rfl rfl rfl <| WOL.nil fun a q => ⟨rfl,q.sub ⟨rfl,rfl,rfl,trivial⟩⟩
    · rintro j _ g hj hH
      exact WOL.mv rfl <| WOL.inc rfl (by omega) <| WOL.as rfl <| WOL.nil fun a q => ⟨hH,q.sub ⟨rfl,rfl,trivial⟩⟩
    · rintro j _ g hj ⟨X,hz⟩
      have hp:L[j]? = some L[j]:=List.getElem?_eq_getElem hj
      generalize L[j] = x at hp
      obtain ⟨b,o,cc,fix,wr,el,g1,g2,g3,g4,g5⟩:=(r.l.hx X).at eI u29 tp3 hp .i64
      have A1':=A1.hx X
      refine WL.sr <| WOL.fa rfl (fa_of fo1114_1) <| WOL.ld rfl (load_one tp29 A1' rfl) <| WOL.mv rfl <| WOL.ix rfl rfl g1 <| WOL.ld rfl (load_one tp3 g2 (by have:=g5 0 (by decide);rwa [Nat.add_zero] at this)) ?_
      by_cases c0:x = 0
      · refine WOL.bf rfl rfl rfl (bne_eq_false_iff_eq.2 c0) <| WOL.mv rfl ?_
        refine WOL.skp (b:=false) rfl rfl <| WOL.skp (b:=false) rfl rfl <| WOL.skp (b:=false) rfl rfl <| WOL.skp (b:=false) rfl rfl <| WOL.pkf rfl rfl <| WOL.nil <| keep [(1,_),(8,_),(107,_)] ⟨rfl,rfl,rfl,trivial⟩ ?_
        refine WL.no rfl <| WL.skip fun a q => ⟨(),⟨X,fun i y hi hy hne => ?_⟩,q.sub ⟨rfl,rfl,trivial⟩⟩
        by_cases e:i = j
        · subst e
          rw [hp] at hy
          cases hy
          exact absurd c0 hne
        · exact hz i y (by omega) hy hne
      · refine WOL.bt rfl rfl rfl (bne_iff_ne.2 c0) <| WOL.mv rfl <| WOL.now (b:=true) rfl rfl <| WOL.ld rfl (load_row tp1114 A1' rfl (Nat.le_of_ble_eq_true rfl)) <| WOL.now (b:=true) rfl rfl <| WOL.mv rfl <| WOL.now (b:=true) rfl rfl ?_
        refine WOL.cl2 rfl rfl rfl ((k1154 H (r.s.hx X) (by omega)).mono ?_)
        rintro v g3 ⟨rfl,X3⟩
        refine WOL.now (b:=true) rfl rfl <| WOL.nt rfl <| WOL.pkt rfl rfl <| WOL.nil <| keep [(1,_),(8,_),(107,_)] ⟨rfl,rfl,rfl,trivial⟩ ?_
        cases hk:knownB S ((j:Nat):Int) with
        | true =>
          refine WL.no rfl <| WL.skip fun a q => ⟨(),⟨X.trans X3,fun i y hi hy hne => ?_⟩,q.sub ⟨rfl,rfl,trivial⟩⟩
          by_cases e:i = j
          · subst e;exact hk
          · exact hz i y (by omega) hy hne
        | false =>
          refine WL.yes rfl <| WL.sr <| WOL.as rfl <| WOL.nil ?_
          refine WL.ret (WL.end_ rfl ⟨?_,X0.trans (X.trans X3)⟩)
          rw [eT]
          unfold formE
          rw [(form_iff hin).2 ⟨j,x,hp,c0,hk⟩]
          rfl
    · rintro _ g ⟨X,hz⟩
      refine WL.sr <| WOL.as rfl <| WOL.nil ?_
      refine WL.ret (WL.end_ rfl ⟨?_,X0.trans X⟩)
      rw [eT]
      unfold formE
      cases hf:S.any (anyIn L) with
      | false => rfl
      | true =>
        obtain ⟨j,x,q1,q2,q3⟩:=(form_iff hin).1 hf
        rw [hz j x (List.getElem?_eq_some_iff.1 q1).1 q1 q2] at q3
        cases q3
end
section
variable {h:TH} {n:Int} {v1 v2:Value} {L:List Int} {S:List (Int × Int)}
set_option maxHeartbeats 4000000 in
set_option maxRecDepth 10000 in
theorem k1117w (H:Has tp) (r:TrcH h v1 v2 L S) (f:Free0 h.next h):CallW Tryz.prog tp (.func (.func 16) #[] #[]) #[trcV n v1 v2] h fun v h' => v = zi (traceE n L S) ∧ HX h h':=by
  obtain ⟨b1,k1,e1,_⟩:=id r.l
  obtain ⟨b2,k2,e2,_⟩:=id r.s
  subst e1 e2
  refine CallW.fnL (H.fn 16 f1117 rfl rfl) ?_
  refine WL.sr <| WOL.box rfl fun h1 N1 => WOL.as rfl <| WOL.nil <| keep [(1,_)] ⟨rfl,trivial⟩ ?_
  have A1:At h1 h.next (.cells [zi n,.slice b1 L.length k1,.slice b2 S.length k2] true true 27):=N1.at_
  have X1:=N1.hx
  replace r:=r.hx X1
  have n1:=N1.next
  refine WL.seq <| WL.sr <| WOL.fa rfl (fa_of fo1114_0) <| WOL.ld rfl (load_one tp3 A1 rfl) <| WOL.fa rfl (fa_of fo1114_1) <| WOL.ld rfl (load_one tp29 A1 rfl) <| WOL.len rfl r.l u29 <| WOL.bi (v:=.bool (decide ((L.length:Int) > 4096))) rfl rfl rfl ?_
  refine WOL.lk3 rfl rfl rfl rfl fun M => ((k14 H n 0 100000000 _).mono ?_)
  rintro v h2 ⟨rfl,rfl⟩
  rw [TH.relock]
  refine WOL.cl2 rfl rfl rfl ((k32 H _ _ _).mono ?_)
  rintro v h3 ⟨rfl,rfl⟩
  refine WOL.bsl rfl u29 tp3 (by decide) (by decide) (by decide) (filled_ints _ _) fun h4 N4 => ?_
  refine WOL.cl1 rfl rfl ((k13 H (l:=[_,_]) N4.at_.get (by simp)).mono ?_)
  rintro v h5 ⟨rfl,rfl⟩
  replace A1:=A1.hx N4.hx
  replace r:=r.hx N4.hx
  have X4:=X1.trans N4.hx
  have x4:=X4.next
  refine WOL.as rfl <| WOL.nil <| keep [(1,_),(3,_)] ⟨rfl,rfl,trivial⟩ ?_
  have eT:traceE n L S = cond (firstNZ [outB n 0 100000000,cond (decide ((L.length:Int) > 4096)) 5 0] != 0) (firstNZ [outB n 0 100000000,cond (decide ((L.length:Int) > 4096)) 5 0]) (firstNZ [cond (decide (n + (L.length:Int) > 100000000)) 4 0,firstNZ (L.map readE),cond (holeE L.length (-1) S != 0) (holeE L.length (-1) S) (formE L S)]):=first_head
  by_cases e0:firstNZ [outB n 0 100000000,cond (decide ((L.length:Int) > 4096)) 5 0] ≠ 0
  · refine WL.sr <| WOL.mv rfl <| WOL.bt rfl rfl rfl (bne_iff_ne.2 e0) <| WOL.nil <| keep [(3,_),(20,_)] ⟨rfl,rfl,trivial⟩ ?_
    refine WL.yes rfl <| WL.sr <| WOL.mv rfl <| WOL.as rfl <| WOL.nil ?_
    exact WL.ret (WL.end_ rfl ⟨by rw [eT,bne_iff_ne.2 e0];rfl,X4⟩)
  have e0:firstNZ [outB n 0 100000000,cond (decide ((L.length:Int) > 4096)) 5 0] = 0:=Classical.not_not.1 e0
  have hL:L.length ≤ 900000:=by
    have:=firstNZ_zero e0 (cond (decide ((L.length:Int) > 4096)) 5 0) (by simp)
    by_cases c:(L.length:Int) > 4096
    · rw [decide_eq_true c] at this;cases this
    · omega
  rw [e0] at eT
  replace eT:traceE n L S = firstNZ [cond (decide (n + (L.length:Int) > 100000000)) 4 0,firstNZ (L.map readE),cond (holeE L.length (-1) S != 0) (holeE L.length (-1) S) (formE L S)]:=eT
  have z1:=fst_zero e0
  obtain ⟨n0,n2⟩:=out_in z1
  refine WL.sr <| WOL.mv rfl <| WOL.bf rfl rfl rfl (bne_eq_false_iff_eq.2 e0) <| WOL.nil <| keep [(1,_),(20,_)] ⟨rfl,rfl,trivial⟩ ?_
  refine WL.no rfl <| WL.skip ?_
  by_cases e4:n + (L.length:Int) > 100000000
  · rw [decide_eq_true e4] at eT
    replace eT:traceE n L S = 4:=eT
    refine WL.seq <| WL.sr <| WOL.fa rfl (fa_of fo1114_0) <| WOL.ld rfl (load_one tp3 A1 rfl) <| WOL.fa rfl (fa_of fo1114_1) <| WOL.ld rfl (load_one tp29 A1 rfl) <| WOL.len rfl r.l u29 <| WOL.add (m:=n) (n:=((L.length:Nat):Int)) rfl rfl (by omega) (by omega) <| WOL.bt rfl rfl rfl (by first | exact decide_eq_true (by omega) | exact beq_iff_eq.2 (by omega) | exact bne_iff_ne.2 (by omega)) <| WOL.nil <| keep [(28,_)] ⟨rfl,trivial⟩ ?_
    refine WL.yes rfl <| WL.sr <| WOL.as rfl <| WOL.nil ?_
    exact WL.ret (WL.end_ rfl ⟨by rw [eT];rfl,X4⟩)
  rw [decide_eq_false e4] at eT
  replace eT:traceE n L S = firstNZ [firstNZ (L.map readE),cond (holeE L.length (-1) S != 0) (holeE L.length (-1) S) (formE L S)]:=eT
  refine WL.seq <| WL.sr <| WOL.fa rfl (fa_of fo1114_0) <| WOL.ld rfl (load_one tp3 A1 rfl) <| WOL.fa rfl (fa_of fo1114_1) <| WOL.ld rfl (load_one tp29 A1 rfl) <| WOL.len rfl r.l u29 <| WOL.add (m:=n) (n:=((L.length:Nat):Int)) rfl rfl (by omega) (by omega) <| WOL.bf rfl rfl rfl (by first | exact decide_eq_false (by omega) | exact beq_eq_false_iff_ne.2 (by omega) | exact bne_eq_false_iff_eq.2 (by omega)) <| WOL.nil <| keep [(1,_),(28,_)] ⟨rfl,rfl,trivial⟩ ?_
  refine WL.no rfl <| WL.skip ?_
  -- the readings
  refine WL.seq <| WL.sr <| WOL.as rfl <| WOL.nil <| keep [(1,_),(4,_)] ⟨rfl,rfl,trivial⟩ ?_
  refine WL.forz (α:=Unit) L.length (fun j _ g => g = h5 ∧ ∀ i,i < j → (L.map readE).getD i 0 = 0) (fun j _ => [(1,ptr h.next),(4,zi (j:Nat))]) (fun j _ => [(1,ptr h.next),(4,zi (j:Nat))]) () ⟨rfl,fun i hi => absurd hi (by omega)⟩ ⟨rfl,rfl,trivial⟩ ?_ ?_ (fun _ _ _ => ⟨rfl,rfl,trivial⟩) ?_ ?_
  · rintro j _ g hj ⟨rfl,hz⟩
    exact WOL.mv rfl <| WOL.fa rfl (fa_of fo1114_1) <| WOL.ld rfl (load_one tp29 A1 rfl) <| WOL.len rfl r.l u29 <| WOL.bi rfl rfl rfl <| WOL.nil fun a q => ⟨rfl,q.sub ⟨rfl,rfl,rfl,trivial⟩⟩
  · rintro j _ g hj hH
    exact WOL.mv rfl <| WOL.inc rfl (by omega) <| WOL.as rfl <| WOL.nil fun a q => ⟨hH,q.sub ⟨rfl,rfl,trivial⟩⟩
  · rintro j _ g hj ⟨rfl,hz⟩
    have hp:L[j]? = some L[j]:=List.getElem?_eq_getElem hj
    generalize L[j] = x at hp
    obtain ⟨b,o,cc,fix,wr,el,g1,g2,g3,g4,g5⟩:=r.l.at eI u29 tp3 hp .i64
    have he:(L.map readE)[j]? = some (readE x):=by rw [List.getElem?_map,hp];rfl
    refine WL.sr <| WOL.fa rfl (fa_of fo1114_1) <| WOL.ld rfl (load_one tp29 A1 rfl) <| WOL.mv rfl <| WOL.ix rfl rfl g1 <| WOL.ld rfl (load_one tp3 g2 (by have:=g5 0 (by decide);rwa [Nat.add_zero] at this)) <| WOL.cl1 rfl rfl ((k1187 H x _).mono ?_)
    rintro w g' ⟨rfl,rfl⟩
    refine WOL.as rfl <| WOL.nil <| keep [(1,_),(4,_),(5,_)] ⟨rfl,rfl,rfl,trivial⟩ ?_
    by_cases h0:readE x = 0
    · refine WL.sr <| WOL.mv rfl <| WOL.bf rfl rfl rfl (bne_eq_false_iff_eq.2 h0) <| WOL.nil <| keep [(1,_),(4,_),(43,_)] ⟨rfl,rfl,rfl,trivial⟩ ?_
      refine WL.no rfl <| WL.skip fun a q => ⟨(),⟨rfl,fun i hi => ?_⟩,q.sub ⟨rfl,rfl,trivial⟩⟩
      by_cases e:i = j
      · subst e
        rw [List.getD_eq_getElem?_getD,he]
        exact h0
      · exact hz i (by omega)
    · refine WL.sr <| WOL.mv rfl <| WOL.bt rfl rfl rfl (bne_iff_ne.2 h0) <| WOL.nil <| keep [(5,_),(43,_)] ⟨rfl,rfl,trivial⟩ ?_
      refine WL.yes rfl <| WL.sr <| WOL.mv rfl <| WOL.as rfl <| WOL.nil ?_
      refine WL.ret (WL.end_ rfl ⟨?_,X4⟩)
      rw [eT,fNZ_at hz he h0]
      show zi _ = zi (cond (readE x != 0) (readE x) _)
      rw [bne_iff_ne.2 h0];rfl
  rintro _ g ⟨rfl,hz⟩
  rw [fNZ_all (fun i hi => hz i (by rw [List.length_map] at hi;exact hi))] at eT
  replace eT:traceE n L S = firstNZ [cond (holeE L.length (-1) S != 0) (holeE L.length (-1) S) (formE L S)]:=eT
  rw [first_one] at eT
  exact kto (M:=[(1,ptr h.next)]) (k1117bw H r (by omega) (f.on X4) X4 A1 eT) ⟨rfl,trivial⟩
end
end Go.Tidy
namespace Go.Tidy
open Go Go.Proofs Tab
variable {tp:TProg}
section
variable {h:TH} {n a b:Int} {v1 v2 w1 w2:Value} {L L':List Int} {S S':List (Int × Int)}
set_option maxHeartbeats 4000000 in
set_option maxRecDepth 10000 in
theorem k1149 (H:Has tp) (r:TrcH h v1 v2 L S) (f:Free0 h.next h) :
    CallW Tryz.prog tp (.func (.func 52) #[] #[]) #[.agg #[zi a,zi b],trcV n v1 v2] h fun v h' => HX h h' ∧ ∃ ok,v = .bool ok ∧ (ok = true → chordE a b = 0 ∧ traceE n L S = 0 ∧ L.length ≤ 60 ∧ a + b < (L.length:Int) ∧ ∀ j,-20000 ≤ L.getD j 0 ∧ L.getD j 0 ≤ 20000):=by
  refine CallW.fnL (H.fn 52 f1149 rfl rfl) ?_
  obtain ⟨b1,k1,e1,_⟩:=id r.l
  obtain ⟨b2,k2,e2,_⟩:=id r.s
  subst e1 e2
  refine WL.sr <| WOL.box rfl fun h1 N1 => WOL.box rfl fun h2 N2 => WOL.as rfl <| WOL.nil <| keep [(2,_),(3,_)] ⟨rfl,rfl,trivial⟩ ?_
  have q1:=N1.next
  have q2:=N2.next
  have A2:At h2 h.next (.cells [zi a,zi b] true true 23):=N1.at_.hx N2.hx
  have A3:At h2 h1.next (.cells [zi n,.slice b1 L.length k1,.slice b2 S.length k2] true true 27):=N2.at_
  have X2:=N1.hx.trans N2.hx
  refine WL.seq <| WL.sr <| WOL.ld rfl (load_row tp1112 A2 rfl (Nat.le_of_ble_eq_true rfl)) <| WOL.cl1 rfl rfl ((k1122 H a b _).mono ?_)
  rintro v h3 ⟨rfl,X3⟩
  have Y3:=X2.trans X3
  have no:∀ g,HX h g → HX h g ∧ ∃ ok,Value.bool false = .bool ok ∧ (ok = true → chordE a b = 0 ∧ traceE n L S = 0 ∧ L.length ≤ 60 ∧ a + b < (L.length:Int) ∧ ∀ j,-20000 ≤ L.getD j 0 ∧ L.getD j 0 ≤ 20000):=fun g X => ⟨X,false,rfl,fun c => by cases c⟩
  by_cases e1:chordE a b = 0
  · obtain ⟨p1,p2,p3,p4⟩:=chord_ok e1
    refine WOL.bf rfl rfl rfl (bne_eq_false_iff_eq.2 e1) <| WOL.mv rfl <| WOL.now (b:=false) rfl rfl <| WOL.ld rfl (load_row tp1114 (A3.hx X3) rfl (Nat.le_of_ble_eq_true rfl)) <| WOL.now (b:=false) rfl rfl <| WOL.cl1 rfl rfl ((k1117w (n:=n) H (r.hx Y3) (f.on Y3)).mono ?_)
    rintro v h4 ⟨rfl,X4⟩
    have Y4:=Y3.trans X4
    have X34:=X3.trans X4
    replace A2:=A2.hx X34;replace A3:=A3.hx X34
    have r4:=r.hx Y4
    by_cases e2:traceE n L S = 0
    · refine WOL.now (b:=false) rfl rfl <| WOL.bf rfl rfl rfl (bne_eq_false_iff_eq.2 e2) <| WOL.pkf rfl rfl <| WOL.mv rfl <| WOL.now (b:=false) rfl rfl <| WOL.fa rfl (fa_of fo1114_1) <| WOL.now (b:=false) rfl rfl <| WOL.ld rfl (load_one tp29 A3 rfl) <| WOL.now (b:=false) rfl rfl <| WOL.len rfl r4.l u29 <| WOL.now (b:=false) rfl rfl ?_
      by_cases e3:(L.length:Int) > 60
      · exact WOL.bt rfl rfl rfl (decide_eq_true e3) <| WOL.pkf rfl rfl <| WOL.mv rfl <| WOL.skp (b:=true) rfl rfl <| WOL.skp (b:=true) rfl rfl <| WOL.skp (b:=true) rfl rfl <| WOL.skp (b:=true) rfl rfl <| WOL.skp (b:=true) rfl rfl <| WOL.skp (b:=true) rfl rfl <| WOL.skp (b:=true) rfl rfl <| WOL.skp (b:=true) rfl rfl <| WOL.skp (b:=true) rfl rfl <| WOL.pkt rfl rfl <| WOL.nil <| WL.yes rfl <| WL.sr <| WOL.as rfl <| WOL.nil <| WL.ret (WL.end_ rfl (no _ Y4))
      · refine WOL.bf rfl rfl rfl (decide_eq_false e3) <| WOL.pkf rfl rfl <| WOL.mv rfl <| WOL.now (b:=false) rfl rfl <| WOL.fa rfl (fa_of fo1114_1) <| WOL.now (b:=false) rfl rfl <| WOL.ld rfl (load_one tp29 A3 rfl) <| WOL.now (b:=false) rfl rfl <| WOL.len rfl r4.l u29 <| WOL.now (b:=false) rfl rfl <| WOL.fa rfl (fa_of fo1112_0) <| WOL.now (b:=false) rfl rfl <| WOL.ld rfl (load_one tp3 A2 rfl) <| WOL.now (b:=false) rfl rfl <| WOL.fa rfl (fa_of fo1112_1) <| WOL.now (b:=false) rfl rfl <| WOL.ld rfl (load_one tp3 A2 rfl) <| WOL.now (b:=false) rfl rfl <| WOL.add (m:=a) (n:=b) rfl rfl (by omega) (by omega) <| WOL.now (b:=false) rfl rfl ?_
        by_cases e4:(L.length:Int) ≤ a + b
        · exact WOL.bt rfl rfl rfl (decide_eq_true e4) <| WOL.pkf rfl rfl <| WOL.nil <| WL.yes rfl <| WL.sr <| WOL.as rfl <| WOL.nil <| WL.ret (WL.end_ rfl (no _ Y4))
        · refine WOL.bf rfl rfl rfl (decide_eq_false e4) <| WOL.pkf rfl rfl <| WOL.nil <| WL.no rfl <| WL.skip <| keep [(2,_),(3,_)] ⟨rfl,rfl,trivial⟩ ?_
          refine WL.seq <| WL.sr <| WOL.fa rfl (fa_of fo1114_1) <| WOL.ld rfl (load_one tp29 A3 rfl) <| WOL.len rfl r4.l u29 <| WOL.mv rfl <| WOL.nil <| keep [(33,_),(34,_),(35,_)] ⟨rfl,rfl,rfl,trivial⟩ ?_
          refine WL.upto (α:=Unit) L.length (fun j _ g' => g' = h4 ∧ ∀ i,i < j → -20000 ≤ L.getD i 0 ∧ L.getD i 0 ≤ 20000) (fun _ _ => [(33,.slice b1 L.length k1),(34,zi (L.length:Nat))]) () rfl rfl (by omega) ⟨rfl,fun i hi => absurd hi (by omega)⟩ ⟨rfl,rfl,rfl,trivial⟩ (fun _ _ => rfl) (fun _ _ _ => ⟨rfl,rfl,rfl,trivial⟩) (fun _ _ _ => ⟨rfl,rfl,rfl,trivial⟩) ?_ ?_
          · rintro j _ g' hj ⟨rfl,hz⟩
            have hp:L[j]? = some (L.getD j 0):=by rw [List.getD_eq_getElem?_getD,List.getElem?_eq_getElem hj];rfl
            obtain ⟨_,_,cc,fix,wr,el,g1,g2,g3,g4,g5⟩:=r4.l.at eI u29 tp3 hp .i64
            have gx:=g5 0 (by decide)
            rw [Nat.add_zero] at gx
            refine WL.sr <| WOL.ix rfl rfl g1 <| WOL.ld rfl (load_one tp3 g2 gx) <| WOL.as rfl <| WOL.nil <| keep [(6,_),(33,_),(34,_),(35,_)] ⟨rfl,rfl,rfl,rfl,trivial⟩ ?_
            by_cases c1:L.getD j 0 > 20000
            · exact WL.sr <| WOL.mv rfl <| WOL.bt rfl rfl rfl (decide_eq_true c1) <| WOL.mv rfl <| WOL.skp (b:=true) rfl rfl <| WOL.skp (b:=true) rfl rfl <| WOL.pkt rfl rfl <| WOL.nil <| WL.yes rfl <| WL.sr <| WOL.as rfl <| WOL.nil <| WL.ret (WL.end_ rfl (no _ Y4))
            by_cases c2:L.getD j 0 < -20000
            · exact WL.sr <| WOL.mv rfl <| WOL.bf rfl rfl rfl (decide_eq_false c1) <| WOL.mv rfl <| WOL.now (b:=false) rfl rfl <| WOL.mv rfl <| WOL.now (b:=false) rfl rfl <| WOL.bt rfl rfl rfl (decide_eq_true c2) <| WOL.pkf rfl rfl <| WOL.nil <| WL.yes rfl <| WL.sr <| WOL.as rfl <| WOL.nil <| WL.ret (WL.end_ rfl (no _ Y4))
            · refine WL.sr <| WOL.mv rfl <| WOL.bf rfl rfl rfl (decide_eq_false c1) <| WOL.mv rfl <| WOL.now (b:=false) rfl rfl <| WOL.mv rfl <| WOL.now (b:=false) rfl rfl <| WOL.bf rfl rfl rfl (decide_eq_false c2) <| WOL.pkf rfl rfl <| WOL.nil <| WL.no rfl <| WL.skip fun y k => ⟨(),⟨rfl,fun i hi => ?_⟩,k.sub ⟨rfl,rfl,rfl,trivial⟩⟩
              by_cases e:i = j
              · subst e;omega
              · exact hz i (by omega)
          · rintro _ g' ⟨rfl,hz⟩
            refine WL.sr <| WOL.as rfl <| WOL.nil <| WL.ret (WL.end_ rfl ⟨Y4,true,rfl,fun _ => ⟨e1,e2,by omega,by omega,fun j => ?_⟩⟩)
            by_cases hj:j < L.length
            · exact hz j hj
            · rw [List.getD_eq_getElem?_getD,List.getElem?_eq_none (by omega)];decide
    · exact WOL.now (b:=false) rfl rfl <| WOL.bt rfl rfl rfl (bne_iff_ne.2 e2) <| WOL.pkf rfl rfl <| WOL.mv rfl <| WOL.skp (b:=true) rfl rfl <| WOL.skp (b:=true) rfl rfl <| WOL.skp (b:=true) rfl rfl <| WOL.skp (b:=true) rfl rfl <| WOL.pkt rfl rfl <| WOL.mv rfl <| WOL.skp (b:=true) rfl rfl <| WOL.skp (b:=true) rfl rfl <| WOL.skp (b:=true) rfl rfl <| WOL.skp (b:=true) rfl rfl <| WOL.skp (b:=true) rfl rfl <| WOL.skp (b:=true) rfl rfl <| WOL.skp (b:=true) rfl rfl <| WOL.skp (b:=true) rfl rfl <| WOL.skp (b:=true) rfl rfl <| WOL.pkt rfl rfl <| WOL.nil <| WL.yes rfl <| WL.sr <| WOL.as rfl <| WOL.nil <| WL.ret (WL.end_ rfl (no _ Y4))
  · exact WOL.bt rfl rfl rfl (bne_iff_ne.2 e1) <| WOL.mv rfl <| WOL.skp (b:=true) rfl rfl <| WOL.skp (b:=true) rfl rfl <| WOL.skp (b:=true) rfl rfl <| WOL.pkt rfl rfl <| WOL.mv rfl <| WOL.skp (b:=true) rfl rfl <| WOL.skp (b:=true) rfl rfl <| WOL.skp (b:=true) rfl rfl <| WOL.skp (b:=true) rfl rfl <| WOL.pkt rfl rfl <| WOL.mv rfl <| WOL.skp (b:=true) rfl rfl <| WOL.skp (b:=true) rfl rfl <| WOL.skp (b:=true) rfl rfl <| WOL.skp (b:=true) rfl rfl <| WOL.skp (b:=true) rfl rfl <| WOL.skp (b:=true) rfl rfl <| WOL.skp (b:=true) rfl rfl <| WOL.skp (b:=true) rfl rfl <| WOL.skp (b:=true) rfl rfl <| WOL.pkt rfl rfl <| WOL.nil <| WL.yes rfl <| WL.sr <| WOL.as rfl <| WOL.nil <| WL.ret (WL.end_ rfl (no _ Y3))
end
end Go.Tidy
namespace Go.Tidy
open Go Go.Proofs Tab
section
variable {C:List (Int × Bool)} {n:Int}
theorem valC_len:(valC C).length = C.length:=by unfold valC;rw [List.length_map]
theorem valC_getD {i:Nat}:(valC C).getD i 0 = cond (C.getD i (0,false)).2 (C.getD i (0,false)).1 0:=by
 unfold valC
 rw [List.getD_eq_getElem?_getD,List.getD_eq_getElem?_getD,List.getElem?_map]
 cases C[i]? <;> rfl
theorem holesC_known {i:Nat} (hi:i < C.length):knownB (holesOf (C.map fun c => c.2)) (i:Nat) = (C.getD i (0,false)).2:=by
 have k:=known_holes (C.map fun c => c.2)
 rw [List.length_map] at k
 rw [← knownL_getD hi,k,List.getD_eq_getElem?_getD,List.getD_eq_getElem?_getD,List.getElem?_map]
 cases C[i]? <;> rfl
theorem traceE_made (hb:bigC C = false) (h0:0 ≤ n) (hl:C.length ≤ 4096) (h1:n + (C.length:Nat) ≤ 100000000):traceE n (valC C) (holesOf (C.map fun c => c.2)) = 0:=by
 have ho:=holes_ok (C.map fun c => c.2)
 rw [List.length_map] at ho
 have hr:firstNZ ((valC C).map readE) = 0:=by
  refine firstNZ_all fun x hx => ?_
  obtain ⟨y,hy,rfl⟩:=List.mem_map.1 hx
  rw [bigC_val,List.any_eq_false] at hb
  have:=hb y hy
  unfold largeB at this
  exact bne_eq_false_iff_eq.1 (by cases h:(readE y != 0) with
   | false => rfl
   | true => exact absurd h this)
 have hf:formE (valC C) (holesOf (C.map fun c => c.2)) = 0:=by
  unfold formE
  cases hb:(holesOf (C.map fun c => c.2)).any (anyIn (valC C)) with
  | false => rfl
  | true =>
   obtain ⟨j,x,hj,hx,hk⟩:=(form_iff (holeE_in ho)).1 hb
   have hj':j < C.length:=by have:=(List.getElem?_eq_some_iff.1 hj).1;rwa [valC_len] at this
   rw [holesC_known hj'] at hk
   have e:(valC C).getD j 0 = x:=by rw [List.getD_eq_getElem?_getD,hj];rfl
   rw [valC_getD,hk] at e
   exact absurd e.symm hx
 unfold traceE
 rw [valC_len,hr,ho,hf]
 unfold outB
 rw [decide_eq_false (by omega:¬ n < 0),decide_eq_false (by omega:¬ n > 100000000),decide_eq_false (by omega:¬ (C.length:Int) > 4096),decide_eq_false (by omega:¬ n + (C.length:Int) > 100000000)]
 rfl
end
section
variable {L:List Int} {S:List (Int × Int)} {M c p q j:Nat}
theorem tapC_getD {T:List (Nat × Int)} {i:Nat} (h:i < M):(tapC L S T M).getD i (0,false) = (tapN L i T 0,tapK S i T):=by
 rw [List.getD_eq_getElem?_getD,tapC_get h];rfl
theorem fold_taps {V:List Int} {st:Nat} {w X:Nat → Int}:∀ (l:List Nat) (s:Int),(∀ i,i ∈ l → V.getD (j + i * st) 0 = X i) → tapN V j (l.map fun i => (i * st,w i)) s = l.foldl (fun s i => s + w i * X i) s
 | [],s,_ => rfl
 | i :: l,s,h => by
  show tapN V j (l.map fun i => (i * st,w i)) (s + w i * V.getD (j + i * st) 0) = l.foldl _ (s + w i * X i)
  rw [h i (List.mem_cons_self ..)]
  exact fold_taps l _ fun i hi => h i (List.mem_cons_of_mem _ hi)
theorem vTn_val {p q:Nat}:tapN L j (vTn p q) 0 = -(q:Int) * L.getD j 0 + ((p:Int) + q) * L.getD (j + p) 0 - (p:Int) * L.getD (j + (p + q)) 0:=by
 show 0 + -(q:Int) * L.getD (j + 0) 0 + ((p:Int) + q) * L.getD (j + p) 0 + -(p:Int) * L.getD (j + (p + q)) 0 = _
 rw [Int.neg_mul (p:Int),Nat.add_zero]
 omega
theorem mulb {w x:Int} {a b:Nat} (h1:w.natAbs ≤ a) (h2:x.natAbs ≤ b):(w * x).natAbs ≤ a * b:=by
 rw [Int.natAbs_mul]
 exact Nat.mul_le_mul h1 h2
theorem big_not {T:List (Nat × Int)} (h:∀ i,i < M → tapK S i T = true → largeB (tapN L i T 0) = false):bigC (tapC L S T M) = false:=by
 unfold bigC
 rw [List.any_eq_false]
 intro c hc
 obtain ⟨i,hi,rfl⟩:=List.mem_map.1 hc
 have hi:=List.mem_range.1 hi
 show ¬ (tapK S i T && largeB (tapN L i T 0)) = true
 cases k:tapK S i T with
 | false => exact Bool.false_ne_true
 | true => rw [h i hi k];decide
end
end Go.Tidy
namespace Go.Tidy
open Go Go.Proofs Tab
attribute [local irreducible] Ty valOf
section
variable {h:TH} {n:Nat} {ps:List Value}
abbrev B8:={b:Nat // b < 256}
end
end Go.Tidy
namespace Go.Tidy
open Go Go.Proofs Tab
variable {tp:TProg}
theorem ProgR.ok {n e:Int} {C:List (Int × Bool)} {n0:Nat} {g:TH} {v:Value} (r:ProgR n e C n0 g v) (he:e = 0) (hb:bigC C = false):∃ bv b2 m2 k2,v = .tuple #[trcV n (slA bv C.length) (.slice b2 m2 k2),zi 0] ∧ n0 ≤ bv ∧ TrcO n0 g bv (.slice b2 m2 k2) (valC C) (holesOf (C.map fun c => c.2)):=by
 rcases r with ⟨h1,_⟩ | ⟨_,h1,_⟩ | ⟨_,_,bv,w,h2,h3,h4⟩
 ·exact absurd he h1
 ·rw [hb] at h1;cases h1
 ·obtain ⟨b2,m2,k2,rfl⟩:=h4.form
  exact ⟨bv,b2,m2,k2,h2,h3,h4⟩
theorem TrcO.trcC {n0 bv:Nat} {g:TH} {w:Value} {C:List (Int × Bool)} {S:List (Int × Int)} (r:TrcO n0 g bv w (valC C) S):TrcH g (slA bv C.length) w (valC C) S:=by
 have:=r.trc
 rwa [valC_len] at this
theorem chordE_in {a b:Int} (h1:1 ≤ a) (h2:a ≤ 32) (h3:1 ≤ b) (h4:b ≤ 32):chordE a b = 0:=by
 unfold chordE outB
 rw [decide_eq_false (by omega:¬ a < 1),decide_eq_false (by omega:¬ a > 32),decide_eq_false (by omega:¬ b < 1),decide_eq_false (by omega:¬ b > 32)]
 rfl
theorem errV_in {E:Int} {m w:Nat} (h:E = 0) (h2:w < m):errV E m w = 0:=by
 rw [h,errV_ok,decide_eq_false (by omega)];rfl
section
variable {h h0:TH} {n:Int} {v1 v2:Value} {L:List Int} {S:List (Int × Int)} {c3 c4 p q z:Nat}
end
end Go.Tidy
namespace Go.Tidy
open Go Go.Proofs Tab
section
variable {L L1 L2:List Int} {S S1 S2:List (Int × Int)} {T:List (Nat × Int)} {M p q m i:Nat}
theorem rev_getD {l:List Int} (h:i < l.length):l.reverse.getD i 0 = l.getD (l.length - 1 - i) 0:=by
 rw [List.getD_eq_getElem?_getD,List.getD_eq_getElem?_getD,List.getElem?_reverse h]
theorem holes_knownB {K:List Bool} (h:i < K.length):knownB (holesOf K) (i:Nat) = K.getD i false:=by
 rw [List.getD_eq_getElem?_getD,holesOf_get h];rfl
theorem rev_knownB (h:i < m):knownB (holesOf (knownL S m).reverse) (i:Nat) = knownB S ((m - 1 - i:Nat):Int):=by
 rw [holes_knownB (by rw [List.length_reverse,knownL_len];exact h),List.getD_eq_getElem?_getD,List.getElem?_reverse (by rw [knownL_len];exact h),knownL_len,← List.getD_eq_getElem?_getD,knownL_getD (by omega)]
theorem rev_cells (h:M + (p + q) = L.length):tapC L.reverse (holesOf (knownL S L.length).reverse) (vTn q p) M = (tapC L S (vTn p q) M).reverse:=by
 refine List.ext_getElem? fun i => ?_
 by_cases hi:i < M
 ·rw [tapC_get hi,List.getElem?_reverse (by rw [tapC_len];exact hi),tapC_len,tapC_get (by omega)]
  have e1:tapN L.reverse i (vTn q p) 0 = tapN L (M - 1 - i) (vTn p q) 0:=by
   rw [vTn_val,vTn_val,rev_getD (by omega),rev_getD (by omega),rev_getD (by omega),show L.length - 1 - i = M - 1 - i + (p + q) by omega,show L.length - 1 - (i + q) = M - 1 - i + p by omega,show L.length - 1 - (i + (q + p)) = M - 1 - i by omega,Int.add_comm (q:Int) p,Int.neg_mul,Int.neg_mul]
   omega
  have e2:tapK (holesOf (knownL S L.length).reverse) i (vTn q p) = tapK S (M - 1 - i) (vTn p q):=by
   show (knownB _ ((i + 0:Nat):Int) && (knownB _ ((i + q:Nat):Int) && (knownB _ ((i + (q + p):Nat):Int) && true))) = (knownB _ ((M - 1 - i + 0:Nat):Int) && (knownB _ ((M - 1 - i + p:Nat):Int) && (knownB _ ((M - 1 - i + (p + q):Nat):Int) && true)))
   rw [rev_knownB (by omega),rev_knownB (by omega),rev_knownB (by omega),show L.length - 1 - (i + 0) = M - 1 - i + (p + q) by omega,show L.length - 1 - (i + q) = M - 1 - i + p by omega,show L.length - 1 - (i + (q + p)) = M - 1 - i + 0 by omega]
   cases knownB S ((M - 1 - i + 0:Nat):Int) <;> cases knownB S ((M - 1 - i + p:Nat):Int) <;> cases knownB S ((M - 1 - i + (p + q):Nat):Int) <;> rfl
  rw [e1,e2]
 ·rw [List.getElem?_eq_none (by rw [tapC_len];omega),List.getElem?_eq_none (by rw [List.length_reverse,tapC_len];omega)]
theorem valC_rev {C:List (Int × Bool)}:valC C.reverse = (valC C).reverse:=by
 unfold valC
 rw [List.map_reverse]
theorem rev_flags {C:List (Int × Bool)}:holesOf (knownL (holesOf (C.map fun c => c.2)) C.length).reverse = holesOf (C.reverse.map fun c => c.2):=by
 have k:=known_holes (C.map fun c => c.2)
 rw [List.length_map] at k
 rw [k,List.map_reverse]
theorem addC_getD (h:i < m):(addC L1 L2 S1 S2 m).getD i (0,false) = (L1.getD i 0 + L2.getD i 0,knownB S1 (i:Nat) && knownB S2 (i:Nat)):=by
 unfold addC
 rw [List.getD_eq_getElem?_getD,List.getElem?_map,List.getElem?_range h];rfl
theorem all_and {α:Type} {f g k:α → Bool}:∀ {l:List α},(∀ t,t ∈ l → k t = (f t && g t)) → l.all k = (l.all f && l.all g)
 | [],_ => rfl
 | t :: l,h => by
  rw [List.all_cons,List.all_cons,List.all_cons,h t (List.mem_cons_self ..),all_and (l:=l) fun t ht => h t (List.mem_cons_of_mem _ ht)]
  cases f t <;> cases g t <;> cases l.all f <;> cases l.all g <;> rfl
theorem sum_known (h:∀ t,t ∈ T → i + t.1 < m):tapK (holesOf ((addC L1 L2 S1 S2 m).map fun c => c.2)) i T = (tapK S1 i T && tapK S2 i T):=all_and fun t ht => by
 show knownB (holesOf _) ((i + t.1:Nat):Int) = _
 rw [holesC_known (by rw [addC_len];exact h t ht),addC_getD (h t ht)]
theorem sum_taps:∀ {T:List (Nat × Int)} {s1 s2:Int},(∀ t,t ∈ T → i + t.1 < m ∧ knownB S1 ((i + t.1:Nat):Int) = true ∧ knownB S2 ((i + t.1:Nat):Int) = true) → tapN (valC (addC L1 L2 S1 S2 m)) i T (s1 + s2) = tapN L1 i T s1 + tapN L2 i T s2
 | [],_,_,_ => rfl
 | t :: T,s1,s2,h => by
  obtain ⟨h1,h2,h3⟩:=h t (List.mem_cons_self ..)
  show tapN _ i T (s1 + s2 + t.2 * (valC (addC L1 L2 S1 S2 m)).getD (i + t.1) 0) = tapN L1 i T (s1 + t.2 * L1.getD (i + t.1) 0) + tapN L2 i T (s2 + t.2 * L2.getD (i + t.1) 0)
  rw [valC_getD,addC_getD h1,h2,h3]
  show tapN _ i T (s1 + s2 + t.2 * (L1.getD (i + t.1) 0 + L2.getD (i + t.1) 0)) = _
  rw [Int.mul_add,show s1 + s2 + (t.2 * L1.getD (i + t.1) 0 + t.2 * L2.getD (i + t.1) 0) = s1 + t.2 * L1.getD (i + t.1) 0 + (s2 + t.2 * L2.getD (i + t.1) 0) by omega]
  exact sum_taps fun t ht => h t (List.mem_cons_of_mem _ ht)
theorem maps_eq {β:Type} {F G:Nat → Int × Bool} {h:Int × Bool → β} (e:∀ i,i < M → h (F i) = h (G i)):((List.range M).map F).map h = ((List.range M).map G).map h:=by
 rw [List.map_map,List.map_map]
 exact List.map_congr_left fun i hi => e i (List.mem_range.1 hi)
theorem sum_cells (h:∀ i t,i < M → t ∈ T → i + t.1 < m) :
    valC (addC (valC (tapC L1 S1 T M)) (valC (tapC L2 S2 T M)) (holesOf ((tapC L1 S1 T M).map fun c => c.2)) (holesOf ((tapC L2 S2 T M).map fun c => c.2)) M) = valC (tapC (valC (addC L1 L2 S1 S2 m)) (holesOf ((addC L1 L2 S1 S2 m).map fun c => c.2)) T M) ∧
    ((addC (valC (tapC L1 S1 T M)) (valC (tapC L2 S2 T M)) (holesOf ((tapC L1 S1 T M).map fun c => c.2)) (holesOf ((tapC L2 S2 T M).map fun c => c.2)) M).map fun c => c.2) = ((tapC (valC (addC L1 L2 S1 S2 m)) (holesOf ((addC L1 L2 S1 S2 m).map fun c => c.2)) T M).map fun c => c.2):=by
  have key:∀ i,i < M → knownB (holesOf ((tapC L1 S1 T M).map fun c => c.2)) (i:Nat) = tapK S1 i T ∧ knownB (holesOf ((tapC L2 S2 T M).map fun c => c.2)) (i:Nat) = tapK S2 i T:=fun i hi => by
    rw [holesC_known (by rw [tapC_len];exact hi),holesC_known (by rw [tapC_len];exact hi),tapC_getD hi,tapC_getD hi]
    exact ⟨rfl,rfl⟩
  constructor
  · refine maps_eq (h:=fun c:Int × Bool => cond c.2 c.1 0) fun i hi => ?_
    show cond (knownB (holesOf ((tapC L1 S1 T M).map fun c => c.2)) (i:Nat) && knownB (holesOf ((tapC L2 S2 T M).map fun c => c.2)) (i:Nat)) ((valC (tapC L1 S1 T M)).getD i 0 + (valC (tapC L2 S2 T M)).getD i 0) 0 = cond (tapK (holesOf ((addC L1 L2 S1 S2 m).map fun c => c.2)) i T) (tapN (valC (addC L1 L2 S1 S2 m)) i T 0) 0
    rw [(key i hi).1,(key i hi).2,sum_known fun t ht => h i t hi ht,tapV_get hi,tapV_get hi]
    cases k1:tapK S1 i T with
    | false => rfl
    | true =>
      cases k2:tapK S2 i T with
      | false => rfl
      | true =>
        have:=sum_taps (L1:=L1) (L2:=L2) (S1:=S1) (S2:=S2) (m:=m) (i:=i) (T:=T) (s1:=0) (s2:=0) fun t ht => ⟨h i t hi ht,List.all_eq_true.1 k1 t ht,List.all_eq_true.1 k2 t ht⟩
        exact this.symm
  · refine maps_eq (h:=fun c:Int × Bool => c.2) fun i hi => ?_
    show (knownB (holesOf ((tapC L1 S1 T M).map fun c => c.2)) (i:Nat) && knownB (holesOf ((tapC L2 S2 T M).map fun c => c.2)) (i:Nat)) = tapK (holesOf ((addC L1 L2 S1 S2 m).map fun c => c.2)) i T
    rw [(key i hi).1,(key i hi).2,sum_known fun t ht => h i t hi ht]
theorem tapN_small {B:Nat} (hL:∀ j,(L.getD j 0).natAbs ≤ B):∀ {T:List (Nat × Int)} {s:Int},(∀ t,t ∈ T → t.2.natAbs ≤ 65) → (tapN L i T s).natAbs ≤ s.natAbs + T.length * (65 * B)
 | [],s,_ => by show s.natAbs ≤ _;omega
 | t :: T,s,h => by
  have b:=mulb (h t (List.mem_cons_self ..)) (hL (i + t.1))
  have ih:=tapN_small hL (T:=T) (s:=s + t.2 * L.getD (i + t.1) 0) fun t ht => h t (List.mem_cons_of_mem _ ht)
  show (tapN L i T (s + t.2 * L.getD (i + t.1) 0)).natAbs ≤ s.natAbs + (T.length + 1) * (65 * B)
  rw [Nat.add_mul,Nat.one_mul]
  omega
theorem taps_small {B:Nat} (hB:B ≤ 40000) (hL:∀ j,(L.getD j 0).natAbs ≤ B) (hT:∀ t,t ∈ T → t.2.natAbs ≤ 65) (lT:T.length ≤ 65):bigC (tapC L S T M) = false:=big_not fun i _ _ => by
 have b:=tapN_small (i:=i) hL (s:=0) hT
 have:T.length * (65 * B) ≤ 65 * (65 * 40000):=Nat.mul_le_mul lT (Nat.mul_le_mul (Nat.le_refl _) hB)
 have:(tapN L i T 0).natAbs ≤ 169000000:=by omega
 generalize tapN L i T 0 = x at *
 unfold largeB readE outB
 rw [decide_eq_false (by omega),decide_eq_false (by omega)]
 rfl
end
theorem fold_line {w:Nat → Int} {x y:Int}:∀ {l:List Nat} {s u:Int},l.foldl (fun s i => s + w i * (x + y * i)) (x * s + y * u) = x * l.foldl (fun s i => s + w i) s + y * l.foldl (fun s i => s + w i * i) u
  | [],_,_ => rfl
  | i :: l,s,u => by
    show l.foldl _ (x * s + y * u + w i * (x + y * i)) = _
    rw [show x * s + y * u + w i * (x + y * i) = x * (s + w i) + y * (u + w i * i) by
      rw [Int.mul_add,Int.mul_add,Int.mul_add,Int.mul_comm (w i) x,← Int.mul_assoc y (w i),Int.mul_comm y (w i),← Int.mul_assoc]
      omega]
    exact fold_line
theorem band_flat:∀ p,p < 33 → (List.range (2 * p + 1)).foldl (fun s i => s + bw (p - 1) p i) 0 = 0 ∧ (List.range (2 * p + 1)).foldl (fun s i => s + bw (p - 1) p i * i) 0 = 0:=by
 have h:((List.range 33).all fun p => ((List.range (2 * p + 1)).foldl (fun s i => s + bw (p - 1) p i) 0 == 0) && ((List.range (2 * p + 1)).foldl (fun s i => s + bw (p - 1) p i * i) 0 == 0)) = true:=by kernel_rfl
 intro p hp
 have:=List.all_eq_true.1 h p (List.mem_range.2 hp)
 rw [Bool.and_eq_true,beq_iff_eq,beq_iff_eq] at this
 exact this
end Go.Tidy
namespace Go.Tidy
open Go Go.Proofs Tab
variable {tp:TProg}
theorem tp1134:Tp Tryz.prog 50 1 [.nilFunc] false:=tp_of (by kernel_rfl) (by kernel_rfl) rfl
theorem u1168:Tryz.prog.underlying 91 = some (.slice 50):=by kernel_rfl
def FnC (tp:TProg) (fv:Value) (hb:TH) (sh:Int) (W:Nat) (T:List (Nat × Int)):Prop :=
 ∀ (g:TH) (n:Int) (v1 v2:Value) (L:List Int) (S:List (Int × Int)),HX hb g → Free0 g.next g → TrcH g v1 v2 L S → traceE n L S = 0 → S.length ≤ 900000 → CallW Tryz.prog tp fv #[trcV n v1 v2] g fun v g' => HX g g' ∧ ProgR (n + sh) (cond (decide (L.length ≤ W)) 16 0) (tapC L S T (L.length - W)) g.next g' v
section
variable {hb:TH} {p q c3 c22:Nat}
theorem outB_in {x a b:Int} (h1:a ≤ x) (h2:x ≤ b):outB x a b = 0:=by
 unfold outB
 rw [decide_eq_false (by omega),decide_eq_false (by omega)];rfl
theorem k1155 (H:Has tp) (A3:At hb c3 (.cells [zi (p:Nat),zi (q:Nat)] true true 23)) (hp:1 ≤ p) (hp':p ≤ 32) (hq:1 ≤ q) (hq':q ≤ 32):FnC tp (.func (.func 56) #[] #[ptr c3]) hb (p:Nat) (p + q) (vTn p q):=by
 intro g n v1 v2 L S X f r te hS
 refine CallW.fnC (H.fn 56 f1155 rfl rfl) ?_
 obtain ⟨b1,k1,e1,_⟩:=id r.l
 obtain ⟨b2,k2,e2,_⟩:=id r.s
 subst e1 e2
 obtain ⟨_,_,_,_,l1,_⟩:=trace_ok te
 have B3:=A3.hx X
 refine WL.sr <| WOL.box rfl fun h1 N1 => WOL.al tp1117 fun h2 N2 => WOL.as rfl <| WOL.nil <| keep [(1,_),(2,_),(3,_)] ⟨rfl,rfl,rfl,trivial⟩ ?_
 have q1:=N1.next
 have q2:=N2.next
 have A2:At h2 g.next (.cells [zi n,.slice b1 L.length k1,.slice b2 S.length k2] true true 31):=N1.at_.hx N2.hx
 have X2:=N1.hx.trans N2.hx
 have l2:=N2.at_.lt
 refine WL.sr <| WOL.ld rfl (load_row tp1112 (B3.hx X2) rfl (Nat.le_of_ble_eq_true rfl)) <| WOL.ld rfl (load_row tp1117 A2 rfl (Nat.le_of_ble_eq_true rfl)) <| WOL.cl2 rfl rfl rfl ((k1125 (n:=n) (a:=(p:Int)) (b:=(q:Int)) H (r.hx X2) (by omega) (by omega) (f.on X2)).mono ?_)
 rintro v g' ⟨Y,R⟩
 have y:=Y.next
 rw [Int.toNat_natCast,Int.toNat_natCast,chordE_in (by omega) (by omega) (by omega) (by omega),te,show firstNZ [0,0] = 0 from rfl,errV_ok] at R
 rcases R with ⟨heT,rfl⟩ | ⟨heT,hbT,rfl⟩ | ⟨heT,hbT,bvT,wT,rfl,hvT,toT⟩
 ·exact WOL.ex rfl rfl <| WOL.ex rfl rfl <| WOL.sto (vs:=[zi 0,.slice none 0 0,.slice none 0 0]) rfl rfl tp1117 (N2.at_.hx Y) rfl rfl (Nat.le_of_ble_eq_true rfl) rfl (f.hx (X2.trans Y)) (by omega) fun iT MT => WOL.as rfl <| WOL.nil <| WL.ret (WL.endC1 rfl rfl (load_row tp1117 MT.at_ rfl (Nat.le_of_ble_eq_true rfl)) ⟨MT.hx _ (X2.trans Y) (by omega),.inl ⟨heT,rfl⟩⟩)
 ·exact WOL.ex rfl rfl <| WOL.ex rfl rfl <| WOL.sto (vs:=[zi 0,.slice none 0 0,.slice none 0 0]) rfl rfl tp1117 (N2.at_.hx Y) rfl rfl (Nat.le_of_ble_eq_true rfl) rfl (f.hx (X2.trans Y)) (by omega) fun iT MT => WOL.as rfl <| WOL.nil <| WL.ret (WL.endC1 rfl rfl (load_row tp1117 MT.at_ rfl (Nat.le_of_ble_eq_true rfl)) ⟨MT.hx _ (X2.trans Y) (by omega),.inr (.inl ⟨heT,hbT,rfl⟩)⟩)
 ·obtain ⟨b2T,m2T,k2T,rfl⟩:=toT.form
  exact WOL.ex rfl rfl <| WOL.ex rfl rfl <| WOL.sto (vs:=[zi _,slA bvT _,.slice b2T m2T k2T]) rfl rfl tp1117 (N2.at_.hx Y) rfl rfl (Nat.le_of_ble_eq_true rfl) rfl (f.hx (X2.trans Y)) (by omega) fun iT MT => WOL.as rfl <| WOL.nil <| WL.ret (WL.endC1 rfl rfl (load_row tp1117 MT.at_ rfl (Nat.le_of_ble_eq_true rfl)) ⟨MT.hx _ (X2.trans Y) (by omega),.inr (.inr ⟨heT,hbT,bvT,_,rfl,by omega,(toT.put MT (by omega) (by omega)).low (by omega)⟩)⟩)
theorem k1156 (H:Has tp) (A22:At hb c22 (.cells [zi (p:Nat)] true true 3)) (hp':p ≤ 32):FnC tp (.func (.func 57) #[] #[ptr c22]) hb (p:Nat) (2 * p) (rT (2 * p + 1) fun _ => 1):=by
 intro g n v1 v2 L S X f r te hS
 refine CallW.fnC (H.fn 57 f1156 rfl rfl) ?_
 obtain ⟨b1,k1,e1,_⟩:=id r.l
 obtain ⟨b2,k2,e2,_⟩:=id r.s
 subst e1 e2
 obtain ⟨_,_,_,_,l1,_⟩:=trace_ok te
 have B3:=A22.hx X
 refine WL.sr <| WOL.box rfl fun h1 N1 => WOL.al tp1117 fun h2 N2 => WOL.as rfl <| WOL.nil <| keep [(1,_),(2,_),(3,_)] ⟨rfl,rfl,rfl,trivial⟩ ?_
 have q1:=N1.next
 have q2:=N2.next
 have A2:At h2 g.next (.cells [zi n,.slice b1 L.length k1,.slice b2 S.length k2] true true 31):=N1.at_.hx N2.hx
 have X2:=N1.hx.trans N2.hx
 have l2:=N2.at_.lt
 refine WL.sr <| WOL.ld rfl (load_row tp1117 A2 rfl (Nat.le_of_ble_eq_true rfl)) <| WOL.ld rfl (load_one tp3 (B3.hx X2) rfl) <| WOL.cl2 rfl rfl rfl ((k1141 (n:=n) (a:=(p:Int)) H (r.hx X2) (by omega) (by omega) (f.on X2)).mono ?_)
 rintro v g' ⟨Y,R⟩
 have y:=Y.next
 rw [Int.toNat_natCast,te,outB_in (by omega) (by omega),show firstNZ [0,0] = 0 from rfl,errV_ok] at R
 rcases R with ⟨heT,rfl⟩ | ⟨heT,hbT,rfl⟩ | ⟨heT,hbT,bvT,wT,rfl,hvT,toT⟩
 ·exact WOL.ex rfl rfl <| WOL.ex rfl rfl <| WOL.sto (vs:=[zi 0,.slice none 0 0,.slice none 0 0]) rfl rfl tp1117 (N2.at_.hx Y) rfl rfl (Nat.le_of_ble_eq_true rfl) rfl (f.hx (X2.trans Y)) (by omega) fun iT MT => WOL.as rfl <| WOL.nil <| WL.ret (WL.endC1 rfl rfl (load_row tp1117 MT.at_ rfl (Nat.le_of_ble_eq_true rfl)) ⟨MT.hx _ (X2.trans Y) (by omega),.inl ⟨heT,rfl⟩⟩)
 ·exact WOL.ex rfl rfl <| WOL.ex rfl rfl <| WOL.sto (vs:=[zi 0,.slice none 0 0,.slice none 0 0]) rfl rfl tp1117 (N2.at_.hx Y) rfl rfl (Nat.le_of_ble_eq_true rfl) rfl (f.hx (X2.trans Y)) (by omega) fun iT MT => WOL.as rfl <| WOL.nil <| WL.ret (WL.endC1 rfl rfl (load_row tp1117 MT.at_ rfl (Nat.le_of_ble_eq_true rfl)) ⟨MT.hx _ (X2.trans Y) (by omega),.inr (.inl ⟨heT,hbT,rfl⟩)⟩)
 ·obtain ⟨b2T,m2T,k2T,rfl⟩:=toT.form
  exact WOL.ex rfl rfl <| WOL.ex rfl rfl <| WOL.sto (vs:=[zi _,slA bvT _,.slice b2T m2T k2T]) rfl rfl tp1117 (N2.at_.hx Y) rfl rfl (Nat.le_of_ble_eq_true rfl) rfl (f.hx (X2.trans Y)) (by omega) fun iT MT => WOL.as rfl <| WOL.nil <| WL.ret (WL.endC1 rfl rfl (load_row tp1117 MT.at_ rfl (Nat.le_of_ble_eq_true rfl)) ⟨MT.hx _ (X2.trans Y) (by omega),.inr (.inr ⟨heT,hbT,bvT,_,rfl,by omega,(toT.put MT (by omega) (by omega)).low (by omega)⟩)⟩)
theorem k1157 (H:Has tp) (A22:At hb c22 (.cells [zi (p:Nat)] true true 3)) (hp:1 ≤ p) (hp':p ≤ 32):FnC tp (.func (.func 58) #[] #[ptr c22]) hb (p:Nat) (2 * p) (rT (2 * p + 1) (bw (p - 1) p)):=by
 intro g n v1 v2 L S X f r te hS
 refine CallW.fnC (H.fn 58 f1157 rfl rfl) ?_
 obtain ⟨b1,k1,e1,_⟩:=id r.l
 obtain ⟨b2,k2,e2,_⟩:=id r.s
 subst e1 e2
 obtain ⟨_,_,_,_,l1,_⟩:=trace_ok te
 have B3:=A22.hx X
 refine WL.sr <| WOL.box rfl fun h1 N1 => WOL.al tp1117 fun h2 N2 => WOL.as rfl <| WOL.nil <| keep [(1,_),(2,_),(3,_)] ⟨rfl,rfl,rfl,trivial⟩ ?_
 have q1:=N1.next
 have q2:=N2.next
 have A2:At h2 g.next (.cells [zi n,.slice b1 L.length k1,.slice b2 S.length k2] true true 31):=N1.at_.hx N2.hx
 have X2:=N1.hx.trans N2.hx
 have l2:=N2.at_.lt
 refine WL.sr <| WOL.ld rfl (load_row tp1117 A2 rfl (Nat.le_of_ble_eq_true rfl)) <| WOL.ld rfl (load_one tp3 (B3.hx X2) rfl) <| WOL.sub (m:=(p:Int)) (n:=1) rfl rfl (by omega) (by omega) <| WOL.ld rfl (load_one tp3 (B3.hx X2) rfl) <| WOL.cl3 rfl rfl rfl rfl ((k1142 (n:=n) (a:=(p:Int) - 1) (b:=(p:Int)) H (r.hx X2) (by omega) (by omega) (f.on X2)).mono ?_)
 rintro v g' ⟨Y,R⟩
 have y:=Y.next
 rw [Int.toNat_natCast,show ((p:Int) - 1).toNat = p - 1 by omega,te,outB_in (by omega) (by omega),outB_in (by omega) (by omega),decide_eq_false (show ¬ (p:Int) - 1 ≥ p by omega),show firstNZ [0,0,0,cond false 11 0] = 0 from rfl,errV_ok] at R
 rcases R with ⟨heT,rfl⟩ | ⟨heT,hbT,rfl⟩ | ⟨heT,hbT,bvT,wT,rfl,hvT,toT⟩
 ·exact WOL.ex rfl rfl <| WOL.ex rfl rfl <| WOL.sto (vs:=[zi 0,.slice none 0 0,.slice none 0 0]) rfl rfl tp1117 (N2.at_.hx Y) rfl rfl (Nat.le_of_ble_eq_true rfl) rfl (f.hx (X2.trans Y)) (by omega) fun iT MT => WOL.as rfl <| WOL.nil <| WL.ret (WL.endC1 rfl rfl (load_row tp1117 MT.at_ rfl (Nat.le_of_ble_eq_true rfl)) ⟨MT.hx _ (X2.trans Y) (by omega),.inl ⟨heT,rfl⟩⟩)
 ·exact WOL.ex rfl rfl <| WOL.ex rfl rfl <| WOL.sto (vs:=[zi 0,.slice none 0 0,.slice none 0 0]) rfl rfl tp1117 (N2.at_.hx Y) rfl rfl (Nat.le_of_ble_eq_true rfl) rfl (f.hx (X2.trans Y)) (by omega) fun iT MT => WOL.as rfl <| WOL.nil <| WL.ret (WL.endC1 rfl rfl (load_row tp1117 MT.at_ rfl (Nat.le_of_ble_eq_true rfl)) ⟨MT.hx _ (X2.trans Y) (by omega),.inr (.inl ⟨heT,hbT,rfl⟩)⟩)
 ·obtain ⟨b2T,m2T,k2T,rfl⟩:=toT.form
  exact WOL.ex rfl rfl <| WOL.ex rfl rfl <| WOL.sto (vs:=[zi _,slA bvT _,.slice b2T m2T k2T]) rfl rfl tp1117 (N2.at_.hx Y) rfl rfl (Nat.le_of_ble_eq_true rfl) rfl (f.hx (X2.trans Y)) (by omega) fun iT MT => WOL.as rfl <| WOL.nil <| WL.ret (WL.endC1 rfl rfl (load_row tp1117 MT.at_ rfl (Nat.le_of_ble_eq_true rfl)) ⟨MT.hx _ (X2.trans Y) (by omega),.inr (.inr ⟨heT,hbT,bvT,_,rfl,by omega,(toT.put MT (by omega) (by omega)).low (by omega)⟩)⟩)
end
theorem rT_mem {m:Nat} {g:Nat → Int} {t:Nat × Int} (h:t ∈ rT m g):t.1 < m ∧ t.2 = g t.1:=by
 obtain ⟨i,hi,rfl⟩:=List.mem_map.1 h
 exact ⟨List.mem_range.1 hi,rfl⟩
theorem three_fns (H:Has tp) {hb:TH} {p q c3 c22:Nat} (A3:At hb c3 (.cells [zi (p:Nat),zi (q:Nat)] true true 23)) (A22:At hb c22 (.cells [zi (p:Nat)] true true 3)) (hp:1 ≤ p) (hp':p ≤ 32) (hq:1 ≤ q) (hq':q ≤ 32) {j:Nat} (hj:j < 3) :
  ∃ k cc W T,[Value.func (.func 56) #[] #[ptr c3],.func (.func 57) #[] #[ptr c22],.func (.func 58) #[] #[ptr c22]][j]? = some (.func (.func k) #[] #[ptr cc]) ∧ FnC tp (.func (.func k) #[] #[ptr cc]) hb (p:Nat) W T ∧ (∀ t,t ∈ T → t.1 ≤ W ∧ t.2.natAbs ≤ 65) ∧ T.length ≤ 65 ∧ (j = 0 → W = p + q):=by
 obtain rfl | rfl | rfl:j = 0 ∨ j = 1 ∨ j = 2:=by omega
 ·exact ⟨_,_,_,_,rfl,k1155 H A3 hp hp' hq hq',fun t ht => by
   simp only [vTn,List.mem_cons,List.not_mem_nil,or_false] at ht
   rcases ht with rfl | rfl | rfl
   ·exact ⟨Nat.zero_le _,by show (-(q:Int)).natAbs ≤ 65;omega⟩
   ·exact ⟨by show p ≤ p + q;omega,by show ((p:Int) + q).natAbs ≤ 65;omega⟩
   ·exact ⟨Nat.le_refl _,by show (-(p:Int)).natAbs ≤ 65;omega⟩,by show 3 ≤ 65;decide,fun _ => rfl⟩
 ·exact ⟨_,_,_,_,rfl,k1156 H A22 hp',fun t ht => by
   obtain ⟨h1,h2⟩:=rT_mem ht
   exact ⟨by omega,by rw [h2];decide⟩,by rw [rT_len];omega,fun c => by cases c⟩
 ·exact ⟨_,_,_,_,rfl,k1157 H A22 hp hp',fun t ht => by
   obtain ⟨h1,h2⟩:=rT_mem ht
   refine ⟨by omega,?_⟩
   rw [h2]
   unfold bw
   split <;> omega,by rw [rT_len];omega,fun c => by cases c⟩
end Go.Tidy
namespace Go.Tidy
open Go Go.Proofs Tab
variable {tp:TProg}
theorem ProgR.err {n e:Int} {C:List (Int × Bool)} {n0:Nat} {g:TH} {v:Value} (r:ProgR n e C n0 g v) (he:e ≠ 0):v = .tuple #[trcV 0 (.slice none 0 0) (.slice none 0 0),zi e]:=by
 rcases r with ⟨_,h⟩ | ⟨h,_⟩ | ⟨h,_⟩
 ·exact h
 ·exact absurd h he
 ·exact absurd h he
def cd1108l:TCode:=.seq (.reg r1108_20) (.seq (.reg r1108_21) (.seq (.reg r1108_22) (.seq (.reg r1108_23) (.seq (.seq (.reg r1108_24) (.cond (.tmp 202) (.seq (.seq (.reg r1108_25) (.cond (.tmp 208) (.seq (.reg r1108_26) .ret) .skip)) (.exit 1)) .skip)) (.seq (.seq (.reg r1108_27) (.cond (.tmp 214) (.seq (.reg r1108_28) .ret) .skip)) (.seq (.reg r1108_29) (.seq (.reg r1108_30) (.cond (.tmp 230) (.seq (.reg r1108_31) .ret) .skip))))))))
section
variable {hb h0:TH} {n:Int} {v1 v2 w1 w2 y1 y2:Value} {L1 L2:List Int} {S1 S2:List (Int × Int)} {p j c4 c20 cf k cc wd:Nat} {T:List (Nat × Int)} {lf:List Value} {fix wr:Bool} {Q:Exit → Regs → TH → Prop} {z5 z22:Value}
set_option maxHeartbeats 8000000 in
set_option maxRecDepth 10000 in
theorem k1108l (H:Has tp) {g:TH} (Xb:HX hb g) (X0:HX h0 g) (f:Free0 h0.next h0) (hj:j < 3) (A4:At g c4 (.cells [zi n,v1,v2,zi n,w1,w2] true true 28)) (r1:TrcH g v1 v2 L1 S1) (r2:TrcH g w1 w2 L2 S2)
  (A20:At g c20 (.cells [zi n,y1,y2] true true 31)) (r3:TrcH g y1 y2 (valC (addC L1 L2 S1 S2 L1.length)) (holesOf ((addC L1 L2 S1 S2 L1.length).map fun c => c.2)))
  (Af:At g cf (.cells lf fix wr 50)) (hlf:lf.length = 3) (hf:lf[j]? = some (.func (.func k) #[] #[ptr cc])) (F:FnC tp (.func (.func k) #[] #[ptr cc]) hb (p:Nat) wd T) (hT:∀ t,t ∈ T → t.1 ≤ wd ∧ t.2.natAbs ≤ 65) (lT:T.length ≤ 65) (j0:j = 0 → wd < L1.length)
  (t1:traceE n L1 S1 = 0) (t2:traceE n L2 S2 = 0) (hl:L2.length = L1.length) (l1:L1.length ≤ 60) (hp:p ≤ 32) (n1:n ≤ 1000000) (hS1:S1.length ≤ 900000) (hS2:S2.length ≤ 900000) (lim1:∀ j,-20000 ≤ L1.getD j 0 ∧ L1.getD j 0 ≤ 20000) (lim2:∀ j,-20000 ≤ L2.getD j 0 ∧ L2.getD j 0 ≤ 20000)
  (fin:∀ e g',(e = .normal ∨ e = .exit 1) → HX g g' → ∀ r,Kn [(4,ptr c4),(5,z5),(20,ptr c20),(22,z22),(166,slA cf 3),(167,zi 3),(168,zi (j:Nat))] r → Q e r g') :
  ∀ y,Kn [(4,ptr c4),(5,z5),(20,ptr c20),(22,z22),(166,slA cf 3),(167,zi 3),(168,zi (j:Nat))] y → W Tryz.prog tp false cd1108l y g Q:=by
 unfold cd1108l
 obtain ⟨b1,k1,e1,_⟩:=id r1.l
 obtain ⟨b2,k2,e2,_⟩:=id r1.s
 obtain ⟨b3,k3,e3,_⟩:=id r2.l
 obtain ⟨b4,k4,e4,_⟩:=id r2.s
 obtain ⟨b5,k5,e5,_⟩:=id r3.l
 obtain ⟨b6,k6,e6,_⟩:=id r3.s
 subst e1 e2 e3 e4 e5 e6
 have x0:=X0.next
 have lc4:=A4.lt
 have lc20:=A20.lt
 obtain ⟨⟨m1,m2⟩,_,_,_,_,_⟩:=trace_ok t1
 have lim3:∀ i,((valC (addC L1 L2 S1 S2 L1.length)).getD i 0).natAbs ≤ 40000:=fun i => by
  rw [valC_getD]
  by_cases hi:i < L1.length
  ·rw [addC_getD hi]
   have a1:=lim1 i
   have a2:=lim2 i
   show (cond (knownB S1 (i:Nat) && knownB S2 (i:Nat)) (L1.getD i 0 + L2.getD i 0) 0).natAbs ≤ _
   cases (knownB S1 (i:Nat) && knownB S2 (i:Nat))
   ·show (0:Int).natAbs ≤ _;decide
   ·show (L1.getD i 0 + L2.getD i 0).natAbs ≤ _;omega
  ·rw [List.getD_eq_getElem?_getD,List.getElem?_eq_none (by rw [addC_len];omega)]
   show (0:Int).natAbs ≤ _;decide
 have ba:bigC (addC L1 L2 S1 S2 L1.length) = false:=by
  rw [bigC_val,List.any_eq_false]
  intro x hx
  obtain ⟨i,hi⟩:=List.getElem?_of_mem hx
  have:=lim3 i
  rw [List.getD_eq_getElem?_getD,hi] at this
  replace this:x.natAbs ≤ 40000:=this
  unfold largeB readE outB
  rw [decide_eq_false (by omega),decide_eq_false (by omega)]
  decide
 have t3:=traceE_made (n:=n) ba m1 (by rw [addC_len];omega) (by rw [addC_len];omega)
 have l3:(valC (addC L1 L2 S1 S2 L1.length)).length = L1.length:=by rw [valC_len,addC_len]
 have h3S:=holesOf_le ((addC L1 L2 S1 S2 L1.length).map fun c => c.2)
 rw [List.length_map,addC_len] at h3S
 have sc:=sum_cells (L1:=L1) (L2:=L2) (S1:=S1) (S2:=S2) (T:=T) (M:=L1.length - wd) (m:=L1.length) fun i t hi ht => by have:=(hT t ht).1;omega
 have sm1:=taps_small (L:=L1) (M:=L1.length - wd) (S:=S1) (B:=20000) (by decide) (fun i => by have:=lim1 i;omega) (fun t ht => (hT t ht).2) lT
 have sm2:=taps_small (L:=L2) (M:=L1.length - wd) (S:=S2) (B:=20000) (by decide) (fun i => by have:=lim2 i;omega) (fun t ht => (hT t ht).2) lT
 have sm3:=taps_small (M:=L1.length - wd) (S:=holesOf ((addC L1 L2 S1 S2 L1.length).map fun c => c.2)) (B:=40000) (by decide) lim3 (fun t ht => (hT t ht).2) lT
 generalize hV:valC (addC L1 L2 S1 S2 L1.length) = V at *
 generalize hU:holesOf ((addC L1 L2 S1 S2 L1.length).map fun c => c.2) = U at *
 -- which
 refine WL.sr <| WOL.mv rfl <| WOL.ix rfl rfl (indexAddr_tp (j:=j) u1168 tp1134 hj) <| WOL.ld rfl (load_one tp1134 Af (by rw [Nat.zero_add,Nat.mul_one];exact hf)) <| WOL.as rfl <| WOL.as rfl <| WOL.nil <| keep [(4,_),(5,_),(20,_),(22,_),(166,_),(167,_),(168,_),(23,_),(24,_)] ⟨rfl,rfl,rfl,rfl,rfl,rfl,rfl,rfl,rfl,trivial⟩ ?_
 by_cases hw:L1.length ≤ wd
 ·have hj0:0 < j:=Nat.pos_of_ne_zero fun c => by have:=j0 c;omega
  refine WL.sr <| WOL.mv rfl <| WOL.ix rfl rfl ix1115_0 <| WOL.ld rfl (load_row tp1114 (A4.hx (HX.refl g)) (l:=[zi n,.slice b1 L1.length k1,.slice b2 S1.length k2]) rfl (Nat.le_of_ble_eq_true rfl)) <| WOL.cl1 rfl rfl ((k1115 (n:=n) H (r1.hx (HX.refl g)) (by omega) (by omega) (f.on (X0.trans (HX.refl g)))).mono ?_)
  rintro v i1 ⟨I1,u1,w1,rfl,ru1,_,_⟩
  have Y1:=I1
  refine WOL.cl1 rfl rfl ((F i1 n _ _ _ _ (Xb.trans Y1) (f.on (X0.trans Y1)) ru1 t1 (by omega)).mono ?_)
  rintro v j1 ⟨J1,R⟩
  have Z1:=Y1.trans J1
  have n1':=Z1.next
  have e1:=R.err (by rw [decide_eq_true hw];decide)
  rw [decide_eq_true hw] at e1
  subst e1
  clear R
  refine WOL.mv rfl <| WOL.ex rfl rfl <| WOL.ex rfl rfl <| WOL.al tp1117 fun a1 N1 => WOL.sto (vs:=[zi 0,.slice none 0 0,.slice none 0 0]) rfl rfl tp1117 N1.at_ rfl rfl (Nat.le_of_ble_eq_true rfl) rfl (f.hx ((X0.trans Z1).trans N1.hx)) (by omega) fun g1 P1 => WOL.as rfl <| WOL.nil <| keep [(4,_),(5,_),(20,_),(22,_),(166,_),(167,_),(168,_),(23,_),(24,_),(25,_),(26,_)] ⟨rfl,rfl,rfl,rfl,rfl,rfl,rfl,rfl,rfl,rfl,rfl,trivial⟩ ?_
  have G1:HX g g1:=P1.hx _ (Z1.trans N1.hx) (by omega)
  have q1:=N1.next
  have p1:=P1.next
  refine WL.sr <| WOL.mv rfl <| WOL.ix rfl rfl ix1115_1 <| WOL.ld rfl (load_row tp1114 (A4.hx G1) (l:=[zi n,.slice b3 L2.length k3,.slice b4 S2.length k4]) rfl (Nat.le_of_ble_eq_true rfl)) <| WOL.cl1 rfl rfl ((k1115 (n:=n) H (r2.hx G1) (by omega) (by omega) (f.on (X0.trans G1))).mono ?_)
  rintro v i2 ⟨I2,u2,w2,rfl,ru2,_,_⟩
  have Y2:=G1.trans I2
  refine WOL.cl1 rfl rfl ((F i2 n _ _ _ _ (Xb.trans Y2) (f.on (X0.trans Y2)) ru2 t2 (by omega)).mono ?_)
  rintro v j2 ⟨J2,R⟩
  have Z2:=Y2.trans J2
  have n2':=Z2.next
  rw [hl] at R
  have e2:=R.err (by rw [decide_eq_true hw];decide)
  rw [decide_eq_true hw] at e2
  subst e2
  clear R
  refine WOL.mv rfl <| WOL.ex rfl rfl <| WOL.ex rfl rfl <| WOL.al tp1117 fun a2 N2 => WOL.sto (vs:=[zi 0,.slice none 0 0,.slice none 0 0]) rfl rfl tp1117 N2.at_ rfl rfl (Nat.le_of_ble_eq_true rfl) rfl (f.hx ((X0.trans Z2).trans N2.hx)) (by omega) fun g2 P2 => WOL.as rfl <| WOL.nil <| keep [(4,_),(5,_),(20,_),(22,_),(166,_),(167,_),(168,_),(23,_),(24,_),(25,_),(26,_),(27,_),(28,_)] ⟨rfl,rfl,rfl,rfl,rfl,rfl,rfl,rfl,rfl,rfl,rfl,rfl,rfl,trivial⟩ ?_
  have G2:HX g g2:=P2.hx _ (Z2.trans N2.hx) (by omega)
  have q2:=N2.next
  have p2:=P2.next
  refine WL.sr <| WOL.mv rfl <| WOL.ld rfl (load_row tp1117 (A20.hx G2) rfl (Nat.le_of_ble_eq_true rfl)) <| WOL.cl1 rfl rfl ((k1150 H (f.on (X0.trans G2))).mono ?_)
  rintro v i30 ⟨rfl,I30⟩
  have Y30:=G2.trans I30
  refine WOL.cl1 rfl rfl ((k1115 (n:=n) H (r3.hx Y30) (by omega) (by omega) (f.on (X0.trans Y30))).mono ?_)
  rintro v i3 ⟨I3,u3,w3,rfl,ru3,_,_⟩
  have Y3:=Y30.trans I3
  refine WOL.cl1 rfl rfl ((F i3 n _ _ _ _ (Xb.trans Y3) (f.on (X0.trans Y3)) ru3 t3 (by omega)).mono ?_)
  rintro v j3 ⟨J3,R⟩
  have Z3:=Y3.trans J3
  have n3':=Z3.next
  rw [l3] at R
  have e3:=R.err (by rw [decide_eq_true hw];decide)
  rw [decide_eq_true hw] at e3
  subst e3
  clear R
  refine WOL.mv rfl <| WOL.ex rfl rfl <| WOL.ex rfl rfl <| WOL.al tp1117 fun a3 N3 => WOL.sto (vs:=[zi 0,.slice none 0 0,.slice none 0 0]) rfl rfl tp1117 N3.at_ rfl rfl (Nat.le_of_ble_eq_true rfl) rfl (f.hx ((X0.trans Z3).trans N3.hx)) (by omega) fun g3 P3 => WOL.as rfl <| WOL.nil <| keep [(4,_),(5,_),(20,_),(22,_),(166,_),(167,_),(168,_),(23,_),(25,_),(26,_),(27,_),(28,_),(29,_),(30,_)] ⟨rfl,rfl,rfl,rfl,rfl,rfl,rfl,rfl,rfl,rfl,rfl,rfl,rfl,rfl,trivial⟩ ?_
  have G3:HX g g3:=P3.hx _ (Z3.trans N3.hx) (by omega)
  have q3:=N3.next
  have p3:=P3.next
  refine WL.seq <| WL.sr <| WOL.mv rfl <| WOL.bt rfl rfl rfl (decide_eq_true (show ((j:Nat):Int) > 0 by omega)) <| WOL.mv rfl <| WOL.now (b:=true) rfl rfl <| WOL.mv rfl <| WOL.now (b:=true) rfl rfl <| WOL.bt rfl rfl rfl rfl <| WOL.pkt rfl rfl <| WOL.nil <| WL.yes rfl ?_
  refine WL.seq <| WL.sr <| WOL.mv rfl <| WOL.bf rfl rfl rfl rfl <| WOL.mv rfl <| WOL.now (b:=false) rfl rfl <| WOL.mv rfl <| WOL.now (b:=false) rfl rfl <| WOL.bf rfl rfl rfl rfl <| WOL.pkf rfl rfl <| WOL.nil <| WL.no rfl <| WL.skip ?_
  exact WL.exit fun r kr => fin _ _ (.inr rfl) G3 r (kr.sub ⟨rfl,rfl,rfl,rfl,rfl,rfl,rfl,trivial⟩)
 ·have sc1:=sc.1
  have sc2:=sc.2
  refine WL.sr <| WOL.mv rfl <| WOL.ix rfl rfl ix1115_0 <| WOL.ld rfl (load_row tp1114 (A4.hx (HX.refl g)) (l:=[zi n,.slice b1 L1.length k1,.slice b2 S1.length k2]) rfl (Nat.le_of_ble_eq_true rfl)) <| WOL.cl1 rfl rfl ((k1115 (n:=n) H (r1.hx (HX.refl g)) (by omega) (by omega) (f.on (X0.trans (HX.refl g)))).mono ?_)
  rintro v i1 ⟨I1,u1,w1,rfl,ru1,_,_⟩
  have Y1:=I1
  refine WOL.cl1 rfl rfl ((F i1 n _ _ _ _ (Xb.trans Y1) (f.on (X0.trans Y1)) ru1 t1 (by omega)).mono ?_)
  rintro v j1 ⟨J1,R⟩
  have Z1:=Y1.trans J1
  have n1':=Z1.next
  obtain ⟨bv1,bb1,mm1,kk1,rfl,hv1,to1⟩:=R.ok (by rw [decide_eq_false hw];rfl) sm1
  clear R
  refine WOL.mv rfl <| WOL.ex rfl rfl <| WOL.ex rfl rfl <| WOL.al tp1117 fun a1 N1 => WOL.sto (vs:=[zi (n + (p:Nat)),slA bv1 _,.slice bb1 mm1 kk1]) rfl rfl tp1117 N1.at_ rfl rfl (Nat.le_of_ble_eq_true rfl) rfl (f.hx ((X0.trans Z1).trans N1.hx)) (by omega) fun g1 P1 => WOL.as rfl <| WOL.nil <| keep [(4,_),(5,_),(20,_),(22,_),(166,_),(167,_),(168,_),(23,_),(24,_),(25,_),(26,_)] ⟨rfl,rfl,rfl,rfl,rfl,rfl,rfl,rfl,rfl,rfl,rfl,trivial⟩ ?_
  have G1:HX g g1:=P1.hx _ (Z1.trans N1.hx) (by omega)
  have q1:=N1.next
  have p1:=P1.next
  have to1':TrcO i1.next g1 bv1 _ _ _:=⟨P1.oth _ _ (by have:=to1.v.lt;omega) (to1.v.hx N1.hx),(to1.s.hx N1.hx).keep fun z y hz a => P1.oth _ _ (by have:=(to1.s.lt hz).2;omega) a⟩
  have B1:=P1.at_
  clear to1
  refine WL.sr <| WOL.mv rfl <| WOL.ix rfl rfl ix1115_1 <| WOL.ld rfl (load_row tp1114 (A4.hx G1) (l:=[zi n,.slice b3 L2.length k3,.slice b4 S2.length k4]) rfl (Nat.le_of_ble_eq_true rfl)) <| WOL.cl1 rfl rfl ((k1115 (n:=n) H (r2.hx G1) (by omega) (by omega) (f.on (X0.trans G1))).mono ?_)
  rintro v i2 ⟨I2,u2,w2,rfl,ru2,_,_⟩
  have Y2:=G1.trans I2
  refine WOL.cl1 rfl rfl ((F i2 n _ _ _ _ (Xb.trans Y2) (f.on (X0.trans Y2)) ru2 t2 (by omega)).mono ?_)
  rintro v j2 ⟨J2,R⟩
  have Z2:=Y2.trans J2
  have n2':=Z2.next
  rw [hl] at R
  obtain ⟨bv2,bb2,mm2,kk2,rfl,hv2,to2⟩:=R.ok (by rw [decide_eq_false hw];rfl) sm2
  clear R
  refine WOL.mv rfl <| WOL.ex rfl rfl <| WOL.ex rfl rfl <| WOL.al tp1117 fun a2 N2 => WOL.sto (vs:=[zi (n + (p:Nat)),slA bv2 _,.slice bb2 mm2 kk2]) rfl rfl tp1117 N2.at_ rfl rfl (Nat.le_of_ble_eq_true rfl) rfl (f.hx ((X0.trans Z2).trans N2.hx)) (by omega) fun g2 P2 => WOL.as rfl <| WOL.nil <| keep [(4,_),(5,_),(20,_),(22,_),(166,_),(167,_),(168,_),(23,_),(24,_),(25,_),(26,_),(27,_),(28,_)] ⟨rfl,rfl,rfl,rfl,rfl,rfl,rfl,rfl,rfl,rfl,rfl,rfl,rfl,trivial⟩ ?_
  have G2:HX g g2:=P2.hx _ (Z2.trans N2.hx) (by omega)
  have q2:=N2.next
  have p2:=P2.next
  have to2':TrcO i2.next g2 bv2 _ _ _:=⟨P2.oth _ _ (by have:=to2.v.lt;omega) (to2.v.hx N2.hx),(to2.s.hx N2.hx).keep fun z y hz a => P2.oth _ _ (by have:=(to2.s.lt hz).2;omega) a⟩
  have B2:=P2.at_
  clear to2
  refine WL.sr <| WOL.mv rfl <| WOL.ld rfl (load_row tp1117 (A20.hx G2) rfl (Nat.le_of_ble_eq_true rfl)) <| WOL.cl1 rfl rfl ((k1150 H (f.on (X0.trans G2))).mono ?_)
  rintro v i30 ⟨rfl,I30⟩
  have Y30:=G2.trans I30
  refine WOL.cl1 rfl rfl ((k1115 (n:=n) H (r3.hx Y30) (by omega) (by omega) (f.on (X0.trans Y30))).mono ?_)
  rintro v i3 ⟨I3,u3,w3,rfl,ru3,_,_⟩
  have Y3:=Y30.trans I3
  refine WOL.cl1 rfl rfl ((F i3 n _ _ _ _ (Xb.trans Y3) (f.on (X0.trans Y3)) ru3 t3 (by omega)).mono ?_)
  rintro v j3 ⟨J3,R⟩
  have Z3:=Y3.trans J3
  have n3':=Z3.next
  rw [l3] at R
  obtain ⟨bv3,bb3,mm3,kk3,rfl,hv3,to3⟩:=R.ok (by rw [decide_eq_false hw];rfl) sm3
  clear R
  refine WOL.mv rfl <| WOL.ex rfl rfl <| WOL.ex rfl rfl <| WOL.al tp1117 fun a3 N3 => WOL.sto (vs:=[zi (n + (p:Nat)),slA bv3 _,.slice bb3 mm3 kk3]) rfl rfl tp1117 N3.at_ rfl rfl (Nat.le_of_ble_eq_true rfl) rfl (f.hx ((X0.trans Z3).trans N3.hx)) (by omega) fun g3 P3 => WOL.as rfl <| WOL.nil <| keep [(4,_),(5,_),(20,_),(22,_),(166,_),(167,_),(168,_),(23,_),(25,_),(26,_),(27,_),(28,_),(29,_),(30,_)] ⟨rfl,rfl,rfl,rfl,rfl,rfl,rfl,rfl,rfl,rfl,rfl,rfl,rfl,rfl,trivial⟩ ?_
  have G3:HX g g3:=P3.hx _ (Z3.trans N3.hx) (by omega)
  have q3:=N3.next
  have p3:=P3.next
  have to3':TrcO i3.next g3 bv3 _ _ _:=⟨P3.oth _ _ (by have:=to3.v.lt;omega) (to3.v.hx N3.hx),(to3.s.hx N3.hx).keep fun z y hz a => P3.oth _ _ (by have:=(to3.s.lt hz).2;omega) a⟩
  have B3:=P3.at_
  clear to3
  have H12:HX g1 g2:=P2.hx _ ((I2.trans J2).trans N2.hx) (by have:=(I2.trans J2).next;omega)
  have H23:HX g2 g3:=P3.hx _ (((I30.trans I3).trans J3).trans N3.hx) (by have:=((I30.trans I3).trans J3).next;omega)
  have H13:=H12.trans H23
  have D1:=B1.hx H13
  have D2:=B2.hx H23
  have s1:=(to1'.hx H13)
  have s2:=(to2'.hx H23)
  have U3:=X0.trans G3
  have u3':=U3.next
  have lM1:(tapC L1 S1 T (L1.length - wd)).length = L1.length - wd:=tapC_len
  have lM2:(tapC L2 S2 T (L1.length - wd)).length = L1.length - wd:=tapC_len
  have lM3:(tapC V U T (L1.length - wd)).length = L1.length - wd:=tapC_len
  have tm1:=traceE_made (n:=n + (p:Nat)) sm1 (by omega) (by rw [lM1];omega) (by rw [lM1];omega)
  have tm2:=traceE_made (n:=n + (p:Nat)) sm2 (by omega) (by rw [lM2];omega) (by rw [lM2];omega)
  have hh1:=holesOf_le ((tapC L1 S1 T (L1.length - wd)).map fun c => c.2)
  have hh2:=holesOf_le ((tapC L2 S2 T (L1.length - wd)).map fun c => c.2)
  have hh3:=holesOf_le ((tapC V U T (L1.length - wd)).map fun c => c.2)
  rw [List.length_map,lM1] at hh1
  rw [List.length_map,lM2] at hh2
  rw [List.length_map,lM3] at hh3
  generalize tapC L1 S1 T (L1.length - wd) = C1 at *
  generalize tapC L2 S2 T (L1.length - wd) = C2 at *
  generalize tapC V U T (L1.length - wd) = C3 at *
  have rest:∀ y,Kn [(4,ptr c4),(5,z5),(20,ptr c20),(22,z22),(166,slA cf 3),(167,zi 3),(168,zi (j:Nat)),(25,ptr j1.next),(26,zi 0),(27,ptr j2.next),(28,zi 0),(29,ptr j3.next),(30,zi 0)] y → W Tryz.prog tp false (.seq (.seq (.reg r1108_27) (.cond (.tmp 214) (.seq (.reg r1108_28) .ret) .skip)) (.seq (.reg r1108_29) (.seq (.reg r1108_30) (.cond (.tmp 230) (.seq (.reg r1108_31) .ret) .skip)))) y g3 Q:=by
   refine WL.seq <| WL.sr <| WOL.mv rfl <| WOL.mv rfl <| WOL.add (m:=0) (n:=0) rfl rfl (by decide) (by decide) <| WOL.mv rfl <| WOL.add (m:=0) (n:=0) rfl rfl (by decide) (by decide) <| WOL.bf rfl rfl rfl rfl <| WOL.nil <| WL.no rfl <| WL.skip <| keep [(4,_),(5,_),(20,_),(22,_),(166,_),(167,_),(168,_),(25,_),(27,_),(29,_)] ⟨rfl,rfl,rfl,rfl,rfl,rfl,rfl,rfl,rfl,rfl,trivial⟩ ?_
   refine WL.sr <| WOL.ld rfl (load_row tp1117 D1 rfl (Nat.le_of_ble_eq_true rfl)) <| WOL.ld rfl (load_row tp1117 D2 rfl (Nat.le_of_ble_eq_true rfl)) <| WOL.cl2 rfl rfl rfl ((k1114 (n:=n + (p:Nat)) (n':=n + (p:Nat)) H s1.trcC s2.trcC (by rw [valC_len];omega) (by rw [valC_len];omega) (by omega) (by omega) (f.on U3)).mono ?_)
   rintro v a4 ⟨W4,R⟩
   rw [tm1,tm2,valC_len,valC_len,lM1,lM2,show shapeE (n + (p:Nat)) (n + (p:Nat)) (L1.length - wd) (L1.length - wd) = 0 by unfold shapeE;rw [decide_eq_true ⟨rfl,rfl⟩];rfl] at R
   obtain ⟨bv4,bb4,mm4,kk4,rfl,hv4,to4⟩:=R.ok rfl (by rw [bigC_val,sc1,← bigC_val];exact sm3)
   clear R
   rw [sc1,sc2] at to4
   have w4:=W4.next
   have lA4:(addC (valC C1) (valC C2) (holesOf (C1.map fun c => c.2)) (holesOf (C2.map fun c => c.2)) (L1.length - wd)).length = L1.length - wd:=addC_len
   rw [lA4]
   clear sc1 sc2 lA4
   refine WOL.mv rfl <| WOL.ex rfl rfl <| WOL.ex rfl rfl <| WOL.al tp1117 fun a5 N5 => WOL.sto (vs:=[zi (n + (p:Nat)),slA bv4 _,.slice bb4 mm4 kk4]) rfl rfl tp1117 N5.at_ rfl rfl (Nat.le_of_ble_eq_true rfl) rfl (f.hx ((U3.trans W4).trans N5.hx)) (by omega) fun a6 P6 => WOL.as rfl <| WOL.nil <| keep [(4,_),(5,_),(20,_),(22,_),(166,_),(167,_),(168,_),(29,_),(31,_),(32,_)] ⟨rfl,rfl,rfl,rfl,rfl,rfl,rfl,rfl,rfl,rfl,trivial⟩ ?_
   have n5:=N5.next
   have n6:=P6.next
   have T6:HX g3 a6:=P6.hx _ (W4.trans N5.hx) (by omega)
   have U6:=U3.trans T6
   have E3:=B3.hx T6
   have E31:=P6.at_
   have to3'':=to3'.hx T6
   have to4':TrcO g3.next a6 bv4 _ _ _:=⟨P6.oth _ _ (by have:=to4.v.lt;omega) (to4.v.hx N5.hx),(to4.s.hx N5.hx).keep fun z y hz a => P6.oth _ _ (by have:=(to4.s.lt hz).2;omega) a⟩
   have lb:=E3.lt
   refine WL.sr <| WOL.mv rfl <| WOL.bf rfl rfl rfl rfl <| WOL.mv rfl <| WOL.now (b:=false) rfl rfl <| WOL.ld rfl (load_row tp1117 E31 rfl (Nat.le_of_ble_eq_true rfl)) <| WOL.now (b:=false) rfl rfl <| WOL.ld rfl (load_row tp1117 E3 rfl (Nat.le_of_ble_eq_true rfl)) <| WOL.now (b:=false) rfl rfl ?_
   refine WOL.lq1 [j3.next] rfl rfl rfl fun M hM => ((k1150 (h:=TH.withLock _ M) H ((f.on U6).held hM (fun b hb => by simp at hb;omega))).mono ?_)
   rintro v a7 ⟨rfl,W7⟩
   replace W7:=W7.relock
   generalize a7.withLock a6.lock = a7 at *
   have U7:=U6.trans W7
   refine WOL.now (b:=false) rfl rfl <| WOL.cl1 rfl rfl ((k1150 H (f.on U7)).mono ?_)
   rintro v a8 ⟨rfl,W8⟩
   have W78:=W7.trans W8
   have i4:=(to4'.hx W78).ints (m:=L1.length - wd) (by rw [valC_len,lM3])
   have i3:=(to3''.hx W78).ints (m:=C3.length) (by rw [valC_len])
   refine WOL.now (b:=false) rfl rfl <| WOL.cl2 rfl rfl rfl ((k1152 (n:=n + (p:Nat)) H i4 i3 ((to4'.hx W78).s.sl eS) ((to3''.hx W78).s.sl eS) (by rw [valC_len];omega) (by omega)).mono ?_)
   rintro v a9 ⟨rfl,W9⟩
   refine WOL.now (b:=false) rfl rfl <| WOL.nt rfl <| WOL.pkf rfl rfl <| WOL.nil <| WL.no rfl <| WL.skip ?_
   exact fun r kr => fin _ _ (.inl rfl) (((G3.trans T6).trans W78).trans W9) r (kr.sub ⟨rfl,rfl,rfl,rfl,rfl,rfl,rfl,trivial⟩)
  by_cases hj0:((j:Nat):Int) > 0
  ·exact WL.seq <| WL.sr <| WOL.mv rfl <| WOL.bt rfl rfl rfl (decide_eq_true hj0) <| WOL.mv rfl <| WOL.now (b:=true) rfl rfl <| WOL.mv rfl <| WOL.now (b:=true) rfl rfl <| WOL.bf rfl rfl rfl rfl <| WOL.pkt rfl rfl <| WOL.nil <| WL.no rfl <| WL.skip <| kto rest ⟨rfl,rfl,rfl,rfl,rfl,rfl,rfl,rfl,rfl,rfl,rfl,rfl,rfl,trivial⟩
  ·exact WL.seq <| WL.sr <| WOL.mv rfl <| WOL.bf rfl rfl rfl (decide_eq_false hj0) <| WOL.mv rfl <| WOL.skp (b:=false) rfl rfl <| WOL.skp (b:=false) rfl rfl <| WOL.pkf rfl rfl <| WOL.nil <| WL.no rfl <| WL.skip <| kto rest ⟨rfl,rfl,rfl,rfl,rfl,rfl,rfl,rfl,rfl,rfl,rfl,rfl,rfl,trivial⟩
end
end Go.Tidy
namespace Go.Tidy
open Go Go.Proofs Tab
variable {tp:TProg}
theorem tp91t:Tp Tryz.prog 89 1 [.int .i8 0] false:=tp_of (by kernel_rfl) (by kernel_rfl) rfl
theorem u91t:Tryz.prog.underlying 89 = some (.int .i8):=by kernel_rfl
theorem ix1167_0 {c:Nat}:indexAddrT Tryz.prog 90 (.pointer (some ⟨c,0,none⟩)) (.int .i64 0) = some (.pointer (some ⟨c,0,none⟩)):=by kernel_rfl
theorem ix1167_1 {c:Nat}:indexAddrT Tryz.prog 90 (.pointer (some ⟨c,0,none⟩)) (.int .i64 1) = some (.pointer (some ⟨c,1,none⟩)):=by kernel_rfl
theorem WOL.cvI {P:Program} {tp:TProg} {h:TH} {K:Regs → TH → Prop} {rest:List TOper} {d:Option Tmp} {ty:TypeId} {i:Nat} {x:Operand} {L:Rg} {s t:TypeId} {ds:TypeDesc} {k:IntKind} {n:Int} (hs:P.underlying s = some ds) (ht:P.underlying t = some (.int .i64)) (hx:getL L x = some (.int k n)) (hw:IntKind.i64.wrap n = n) (w:∀ a,Kn (putL L d (.int .i64 n)) a → WO P tp rest a h K):∀ a,Kn L a → WO P tp (⟨d,.convert s t x,ty,none,[],i⟩ :: rest) a h K:=fun a q => by
 refine WO.conv (q.o hx) rfl (conv_i2i hs ht) rfl ?_
 rw [hw]
 exact w _ (q.put d _)
def linL (x y:Int) (m:Nat):List Int:=(List.range m).map fun (i:Nat) => x + y * (i:Int)
theorem linL_len {x y:Int} {m:Nat}:(linL x y m).length = m:=by unfold linL;rw [List.length_map,List.length_range]
theorem linL_succ {x y:Int} {m:Nat}:linL x y (m + 1) = linL x y m ++ [x + y * m]:=by
 unfold linL
 rw [List.range_succ,List.map_append];rfl
theorem linL_get {x y:Int} {m i:Nat} (h:i < m):(linL x y m).getD i 0 = x + y * i:=by
 unfold linL
 rw [List.getD_eq_getElem?_getD,List.getElem?_map,List.getElem?_range h];rfl
theorem linL_lim {x y:Int} {m:Nat} (hx:x.natAbs ≤ 128) (hy:y.natAbs ≤ 128) (hm:m ≤ 67) (i:Nat):((linL x y m).getD i 0).natAbs ≤ 8832:=by
 by_cases h:i < m
 ·rw [linL_get h]
  have:=mulb (w:=y) (x:=(i:Int)) (a:=128) (b:=67) hy (by omega)
  omega
 ·rw [List.getD_eq_getElem?_getD,List.getElem?_eq_none (by rw [linL_len];omega)]
  show (0:Int).natAbs ≤ _;decide
theorem tapK_nil {T:List (Nat × Int)} {i:Nat}:tapK [] i T = true:=List.all_eq_true.2 fun _ _ => rfl
theorem band_cells {x y:Int} {p:Nat} (hp:p ≤ 32):tapC (linL x y (2 * p + 3)) [] (rT (2 * p + 1) (bw (p - 1) p)) 3 = [(0,true),(0,true),(0,true)]:=by
 have e:rT (2 * p + 1) (bw (p - 1) p) = (List.range (2 * p + 1)).map fun i => (i * 1,bw (p - 1) p i):=by
  unfold rT
  refine List.map_congr_left fun i _ => ?_
  rw [Nat.mul_one]
 have z:∀ j,j < 3 → tapN (linL x y (2 * p + 3)) j (rT (2 * p + 1) (bw (p - 1) p)) 0 = 0:=fun j hj => by
  rw [e,fold_taps (V:=linL x y (2 * p + 3)) (j:=j) (X:=fun i => (x + y * j) + y * i) _ _ fun i hi => by
   have:=List.mem_range.1 hi
   rw [Nat.mul_one,linL_get (by omega),Int.natCast_add,Int.mul_add]
   omega]
  have fl:=fold_line (w:=bw (p - 1) p) (x:=x + y * j) (y:=y) (l:=List.range (2 * p + 1)) (s:=0) (u:=0)
  obtain ⟨f1,f2⟩:=band_flat p (by omega)
  rw [f1,f2,Int.mul_zero,Int.mul_zero] at fl
  exact fl
 show [(tapN _ 0 _ 0,tapK [] 0 _),(tapN _ 1 _ 0,tapK [] 1 _),(tapN _ 2 _ 0,tapK [] 2 _)] = _
 rw [z 0 (by decide),z 1 (by decide),z 2 (by decide),tapK_nil,tapK_nil,tapK_nil]
theorem own_trc {n0:Nat} {g:TH} {u:Value} {L:List Int} (o:OwnL encI n0 g u 3 L):TrcH g u (.slice none 0 0) L []:=⟨o.sl eI,SlL.nil,fun b off m cap e => by
 rcases o with ⟨rfl,_⟩ | ⟨_,b',rfl,_,A⟩
 ·cases e
 ·cases e
  exact ⟨_,_,_,_,A,.inr rfl⟩⟩
def cd1108f:TCode:=.seq (.reg r1108_33) (.seq (.seq (.reg r1108_34) (.block 2 (.loop (.seq (.reg r1108_35) (.seq (.cond (.tmp 237) .skip (.exit 2)) (.seq (.block 3 (.seq (.reg r1108_36) (.reg r1108_37))) (.reg r1108_38))))))) (.seq (.reg r1108_39) (.seq (.reg r1108_40) .ret)))
section
variable {h h0:TH} {x y:Int} {p c5 c22:Nat}
set_option maxHeartbeats 8000000 in
set_option maxRecDepth 10000 in
theorem k1108f (H:Has tp) (K:Awk tp) (X0:HX h0 h) (f:Free0 h0.next h0) (A5:At h c5 (.cells [.int .i8 x,.int .i8 y] true true 90)) (A22:At h c22 (.cells [zi (p:Nat)] true true 3)) (hp:1 ≤ p) (hp':p ≤ 32) (x1:-128 ≤ x) (x2:x ≤ 127) (y1:-128 ≤ y) (y2:y ≤ 127) :
  ∀ r,Kn [(5,ptr c5),(22,ptr c22)] r → W Tryz.prog tp false cd1108f r h (Fin Tryz.prog [.tmp 6] fun v _ => v = .bool true):=by
 unfold cd1108f
 have x0:=X0.next
 have lc5:=A5.lt
 have lc22:=A22.lt
 refine WL.sr <| WOL.bd rfl bd1114a <| WOL.al tp1114 fun h1 N1 => WOL.sto (vs:=[zi 5,.slice none 0 0,.slice none 0 0]) rfl rfl tp1114 N1.at_ rfl rfl (Nat.le_of_ble_eq_true rfl) rfl (f.hx (X0.trans N1.hx)) (by omega) fun h2 P2 => WOL.nil <| keep [(5,_),(22,_),(33,_)] ⟨rfl,rfl,rfl,trivial⟩ ?_
 have n1:=N1.next
 have n2:=P2.next
 have Z2:HX h h2:=P2.hx _ N1.hx (by omega)
 have A33:=P2.at_
 have C5:=A5.hx Z2
 have C22:=A22.hx Z2
 refine WL.seq <| WL.sr <| WOL.ld rfl (load_one tp3 C22 rfl) <| WOL.mul (m:=2) (n:=(p:Int)) rfl rfl (by omega) (by omega) <| WOL.add (m:=2 * (p:Int)) (n:=3) rfl rfl (by omega) (by omega) <| WOL.mv rfl <| WOL.nil ?_
 rw [show 2 * (p:Int) + 3 = ((2 * p + 3:Nat):Int) by omega]
 refine keep [(5,ptr c5),(22,ptr c22),(33,ptr h.next),(235,zi ((2 * p + 3:Nat):Int)),(236,zi 0)] ⟨rfl,rfl,rfl,rfl,rfl,trivial⟩ ?_
 refine WL.upto (α:=Value) (2 * p + 3) (fun j u g => HX h g ∧ h1.next ≤ g.next ∧ At g h.next (.cells [zi 5,u,.slice none 0 0] true true 27) ∧ OwnL encI h1.next g u 3 (linL x y j)) (fun _ _ => [(5,ptr c5),(22,ptr c22),(33,ptr h.next),(235,zi ((2 * p + 3:Nat):Int))]) (.slice none 0 0) rfl rfl (by omega) ⟨Z2,by omega,A33,.inl ⟨rfl,rfl⟩⟩ ⟨rfl,rfl,rfl,rfl,rfl,trivial⟩ (fun _ _ => rfl) (fun _ _ _ => ⟨rfl,rfl,rfl,rfl,rfl,trivial⟩) (fun _ _ _ => ⟨rfl,rfl,rfl,rfl,rfl,trivial⟩) ?_ ?_
 ·rintro j u g hj ⟨G,gn,D33,O⟩
  have my:=mulb (w:=y) (x:=(j:Int)) (a:=128) (b:=67) (by omega) (by omega)
  obtain ⟨zu,eu⟩:=OwnF.form (Or.inl O)
  refine WL.sr <| WOL.mv rfl <| WOL.as rfl <| WOL.nil <| keep [(5,_),(22,_),(33,_),(34,_),(235,_),(236,_)] ⟨rfl,rfl,rfl,rfl,rfl,rfl,trivial⟩ ?_
  refine WL.reg <| WOL.fa rfl (fa_of fo1114_1) <| WOL.ld rfl (load_one tp29 D33 rfl) <| WOL.ix rfl rfl ix1167_0 <| WOL.ld rfl (load_one tp91t (A5.hx G) rfl) <| WOL.cvI u91t Tryz.underlying3 rfl (IntWalk.i64_in _ (by omega)) <| WOL.ix rfl rfl ix1167_1 <| WOL.ld rfl (load_one tp91t (A5.hx G) rfl) <| WOL.cvI u91t Tryz.underlying3 rfl (IntWalk.i64_in _ (by omega)) <| WOL.mv rfl <| WOL.mul (m:=y) (n:=(j:Int)) rfl rfl (by omega) (by omega) <| WOL.add (m:=x) (n:=y * (j:Int)) rfl rfl (by omega) (by omega) <| WOL.bsl rfl u29 tp3 (by decide) (by decide) (by decide) (cs:=encI (x + y * (j:Int))) rfl fun i1 M1 => ?_
  have m1:=M1.next
  obtain ⟨u',i2,ap,O',x2',o2,_,n2'⟩:=own_push (sT:=24) (x:=x + y * (j:Int)) eI u29 tp3 (O.hx M1.hx) (SlC.own (sz:=1) (m:=1) rfl M1.at_) ((f.hx ((X0.trans G).trans M1.hx)).up (by omega)) (by rw [linL_len];omega) (by omega)
  rw [← linL_succ] at O'
  obtain ⟨zu',eu'⟩:=OwnF.form (Or.inl O')
  have G2:HX h i2:=x2' _ (G.trans M1.hx) (by omega)
  have E33:=o2 h.next _ (fun c => by have:=(O.lt c).1;omega) (D33.hx M1.hx)
  refine WOL.ap rfl rfl ap <| WOL.fa rfl (fa_of fo1114_1) <| WOL.sto (vs:=[u']) rfl rfl tp29 E33 (by rw [eu'];rfl) rfl (Nat.le_of_ble_eq_true rfl) (by rw [eu'];rfl) (f.hx (X0.trans G2)) (by omega) fun i3 P3 => WOL.nil fun a k => ⟨u',⟨P3.hx _ G2 (by omega),by have:=P3.next;omega,P3.at_,O'.keep fun b z hb az => P3.oth _ _ (by have:=(O'.lt hb).1;omega) az⟩,k.sub ⟨rfl,rfl,rfl,rfl,rfl,trivial⟩⟩
 rintro u g ⟨G,gn,D33,O⟩
 obtain ⟨zu,eu⟩:=OwnF.form (Or.inl O)
 have rt:=own_trc O
 have lL:(linL x y (2 * p + 3)).length = 2 * p + 3:=linL_len
 have ll:=linL_lim (x:=x) (y:=y) (m:=2 * p + 3) (by omega) (by omega) (by omega)
 have bc:=band_cells (x:=x) (y:=y) hp'
 have te:traceE 5 (linL x y (2 * p + 3)) [] = 0:=by
  have hr:firstNZ ((linL x y (2 * p + 3)).map readE) = 0:=by
   refine firstNZ_all fun v hv => ?_
   obtain ⟨w,hw,rfl⟩:=List.mem_map.1 hv
   obtain ⟨i,hi⟩:=List.getElem?_of_mem hw
   have:=ll i
   rw [List.getD_eq_getElem?_getD,hi] at this
   replace this:w.natAbs ≤ 8832:=this
   exact outB_in (by omega) (by omega)
  unfold traceE
  rw [hr,lL,outB_in (by omega) (by omega),decide_eq_false (by omega:¬ ((2 * p + 3:Nat):Int) > 4096),decide_eq_false (by omega:¬ (5:Int) + ((2 * p + 3:Nat):Int) > 100000000)]
  rfl
 generalize linL x y (2 * p + 3) = V at *
 subst eu
 have Y:=X0.trans G
 have gx:=G.next
 have E22:=A22.hx G
 refine WL.sr <| WOL.ld rfl (load_row tp1114 D33 rfl (Nat.le_of_ble_eq_true rfl)) <| WOL.ld rfl (load_one tp3 E22 rfl) <| WOL.sub (m:=(p:Int)) (n:=1) rfl rfl (by omega) (by omega) <| WOL.ld rfl (load_one tp3 E22 rfl) <| WOL.al tp1117 fun i1 I1 => ?_
 have q1:=I1.next
 have Y1:=Y.trans I1.hx
 refine WOL.lq1 [g.next,c22,c22] rfl rfl rfl fun M hM => ((k1115 (n:=5) H ((rt.hx I1.hx).relock M) (by omega) (by show 0 ≤ 1000000;decide) ((f.on Y1).held hM (fun b hb => by simp at hb;omega))).mono ?_)
 rintro v i2 ⟨I2,u1,u2,rfl,ru,_,_⟩
 replace I2:=I2.relock
 replace ru:=ru.relock i1.lock
 generalize i2.withLock i1.lock = i2 at *
 have q2:=I2.next
 have Y2:=Y1.trans I2
 refine WOL.lq3 [g.next] rfl rfl rfl rfl rfl fun M hM => ((k1142 (n:=5) (a:=(p:Int) - 1) (b:=(p:Int)) H (ru.relock M) (by omega) (by show 0 ≤ 900000;decide) ((f.on Y2).held hM (fun b hb => by simp at hb;omega))).mono ?_)
 rintro v i3 ⟨I3,R⟩
 replace I3:=I3.relock
 rw [Int.toNat_natCast,show ((p:Int) - 1).toNat = p - 1 by omega,lL,show 2 * p + 3 - 2 * p = 3 by omega,bc] at R
 obtain ⟨bx,b7,m7,k7,rfl,hx,to⟩:=R.ok (errV_in (by rw [te,outB_in (by omega) (by omega),outB_in (by omega) (by omega),decide_eq_false (show ¬ (p:Int) - 1 ≥ p by omega)];rfl) (by omega)) (by decide)
 clear R
 replace to:TrcO i2.next (i3.withLock i2.lock) bx _ [0,0,0] []:=to.relock i2.lock
 replace hx:i2.next ≤ bx:=hx
 generalize i3.withLock i2.lock = i3 at *
 have q3:=I3.next
 have Y3:=Y2.trans I3
 have T3:=(I1.hx.trans I2).trans I3
 have B35:=(I1.at_.hx I2).hx I3
 refine WOL.mv rfl <| WOL.ex rfl rfl <| WOL.ex rfl rfl <| WOL.sto (vs:=[zi (5 + (p:Nat)),slA bx 3,.slice b7 m7 k7]) rfl rfl tp1117 B35 rfl rfl (Nat.le_of_ble_eq_true rfl) rfl (f.hx Y3) (by omega) fun i4 P4 => WOL.as rfl <| WOL.nil <| keep [(22,_),(35,_),(36,_)] ⟨rfl,rfl,rfl,trivial⟩ ?_
 have q4:=P4.next
 have T4:HX g i4:=P4.hx _ T3 (by omega)
 have Y4:=Y.trans T4
 replace B35:=P4.at_
 have to4:=to.put P4 (by omega) (by omega)
 refine WL.sr <| WOL.mv rfl <| WOL.bt rfl rfl rfl rfl <| WOL.mv rfl <| WOL.now (b:=true) rfl rfl <| WOL.ld rfl (load_row tp1117 B35 rfl (Nat.le_of_ble_eq_true rfl)) <| WOL.now (b:=true) rfl rfl <| WOL.ld rfl (load_one tp3 (E22.hx T4) rfl) <| WOL.now (b:=true) rfl rfl <| WOL.add (m:=5) (n:=(p:Int)) rfl rfl (by omega) (by omega) <| WOL.now (b:=true) rfl rfl <| WOL.bsl rfl u29 tp3 (by decide) (by decide) (by decide) (filled_ints3 _ _ _) fun i5 N5 => WOL.now (b:=true) rfl rfl <| WOL.bd rfl bd1114c <| WOL.now (b:=true) rfl rfl ?_
 have q5:=N5.next
 have Y5:=Y4.trans N5.hx
 refine WOL.lq1 [i4.next,c22] rfl rfl rfl fun M hM => ((k1150 (h:=TH.withLock _ M) H ((f.on Y5).held hM (fun b hb => by simp at hb;omega))).mono ?_)
 rintro v i6 ⟨rfl,I6⟩
 replace I6:=I6.relock
 generalize i6.withLock i5.lock = i6 at *
 have T6:=N5.hx.trans I6
 have iA:=(to4.hx T6).ints (m:=3) rfl
 have iB:IsInts i6 (slA i4.next 3) [0,0,0]:=.inr ⟨_,_,_,_,_,rfl,(N5.at_.hx I6).lt,(N5.at_.hx I6).get⟩
 refine WOL.now (b:=true) rfl rfl <| WOL.cl2 rfl rfl rfl ((k1152 (n:=5 + (p:Int)) H iA iB ((to4.hx T6).s.sl eS) SlL.nil (by decide) (by decide)).mono ?_)
 rintro v i7 ⟨rfl,I7⟩
 refine WOL.pkt rfl rfl <| WOL.mv rfl <| WOL.now (b:=true) rfl rfl <| WOL.cl0 rfl ((k11t K _).mono ?_)
 rintro v i8 ⟨rfl,rfl⟩
 exact WOL.pkt rfl rfl <| WOL.as rfl <| WOL.nil <| WL.ret (WL.end_ rfl rfl)
end
end Go.Tidy
namespace Go.Tidy
open Go Go.Proofs Tab
variable {tp:TProg}
theorem filled_fn3 {k1 k2 k3:Nat} {a1 a2 a3:Value}:filled 1 3 [.nilFunc] [(0,.func (.func k1) #[] #[a1]),(1,.func (.func k2) #[] #[a2]),(2,.func (.func k3) #[] #[a3])] = some [.func (.func k1) #[] #[a1],.func (.func k2) #[] #[a2],.func (.func k3) #[] #[a3]]:=by simp [filled,zeros,Instr.fill,Value.cells]
def cd1108e:TCode:=.seq (.reg r1108_17) (.seq (.seq (.reg r1108_18) (.block 0 (.loop (.seq (.reg r1108_19) (.seq (.cond (.tmp 169) .skip (.exit 0)) (.seq (.block 1 cd1108l) (.reg r1108_32))))))) cd1108f)
section
variable {h h0:TH} {x y n:Int} {p q c3 c4 c5 c20:Nat} {v1 v2 w1 w2 y1 y2:Value} {L1 L2:List Int} {S1 S2:List (Int × Int)}
set_option maxHeartbeats 8000000 in
set_option maxRecDepth 10000 in
theorem k1108e (H:Has tp) (K:Awk tp) (X0:HX h0 h) (f:Free0 h0.next h0) (A3:At h c3 (.cells [zi (p:Nat),zi (q:Nat)] true true 23)) (A4:At h c4 (.cells [zi n,v1,v2,zi n,w1,w2] true true 28)) (A5:At h c5 (.cells [.int .i8 x,.int .i8 y] true true 90)) (r1:TrcH h v1 v2 L1 S1) (r2:TrcH h w1 w2 L2 S2)
  (A20:At h c20 (.cells [zi n,y1,y2] true true 31)) (r3:TrcH h y1 y2 (valC (addC L1 L2 S1 S2 L1.length)) (holesOf ((addC L1 L2 S1 S2 L1.length).map fun c => c.2)))
  (hp:1 ≤ p) (hp':p ≤ 32) (hq:1 ≤ q) (hq':q ≤ 32) (hx1:-128 ≤ x) (hx2:x ≤ 127) (hy1:-128 ≤ y) (hy2:y ≤ 127)
  (t1:traceE n L1 S1 = 0) (t2:traceE n L2 S2 = 0) (hl:L2.length = L1.length) (l1:L1.length ≤ 60) (lpq:p + q < L1.length) (n1:n ≤ 1000000) (hS1:S1.length ≤ 900000) (hS2:S2.length ≤ 900000) (lim1:∀ j,-20000 ≤ L1.getD j 0 ∧ L1.getD j 0 ≤ 20000) (lim2:∀ j,-20000 ≤ L2.getD j 0 ∧ L2.getD j 0 ≤ 20000) :
  ∀ r,Kn [(3,ptr c3),(4,ptr c4),(5,ptr c5),(20,ptr c20)] r → W Tryz.prog tp false cd1108e r h (Fin Tryz.prog [.tmp 6] fun v _ => v = .bool true):=by
 unfold cd1108e
 have x0:=X0.next
 refine WL.sr <| WOL.fa rfl (fa_of fo1112_0) <| WOL.ld rfl (load_one tp3 A3 rfl) <| WOL.al tp3 fun i1 N1 => WOL.sto (vs:=[zi (p:Nat)]) rfl rfl tp3 N1.at_ rfl rfl (Nat.le_of_ble_eq_true rfl) rfl (f.hx (X0.trans N1.hx)) (by omega) fun i2 P2 => WOL.nil <| keep [(3,_),(4,_),(5,_),(20,_),(22,_)] ⟨rfl,rfl,rfl,rfl,rfl,trivial⟩ ?_
 have q1:=N1.next
 have q2:=P2.next
 have Z2:HX h i2:=P2.hx _ N1.hx (by omega)
 have A22:At i2 h.next (.cells [zi (p:Nat)] true true 3):=P2.at_
 refine WL.seq <| WL.sr <| WOL.mf rfl <| WOL.mf rfl <| WOL.mf rfl <| WOL.bsl rfl u1168 tp1134 (by decide) (by decide) (by decide) filled_fn3 fun i3 N3 => WOL.len rfl (SlC.own (sz:=1) (m:=3) rfl N3.at_) u1168 <| WOL.mv rfl <| WOL.nil <| keep [(4,_),(5,_),(20,_),(22,_),(166,_),(167,_),(168,_)] ⟨rfl,rfl,rfl,rfl,rfl,rfl,rfl,trivial⟩ ?_
 have Z3:=Z2.trans N3.hx
 have Y3:=X0.trans Z3
 replace A22:=A22.hx N3.hx
 have Af:=N3.at_
 replace A3:=A3.hx Z3;replace A4:=A4.hx Z3;replace A5:=A5.hx Z3;replace A20:=A20.hx Z3;replace r1:=r1.hx Z3;replace r2:=r2.hx Z3;replace r3:=r3.hx Z3
 refine WL.upto (α:=Unit) 3 (fun _ _ g => HX i3 g) (fun _ _ => [(4,ptr c4),(5,ptr c5),(20,ptr c20),(22,ptr h.next),(166,slA i2.next 3),(167,zi 3)]) () rfl rfl (by omega) (HX.refl _) ⟨rfl,rfl,rfl,rfl,rfl,rfl,rfl,trivial⟩ (fun _ _ => rfl) (fun _ _ _ => ⟨rfl,rfl,rfl,rfl,rfl,rfl,rfl,trivial⟩) (fun _ _ _ => ⟨rfl,rfl,rfl,rfl,rfl,rfl,rfl,trivial⟩) ?_ ?_
 ·rintro j _ g hj G
  obtain ⟨k,cc,wd,T,e,F,hT,lT,j0⟩:=three_fns H A3 A22 hp hp' hq hq' hj
  refine kto (k1108l H G (Y3.trans G) f hj (A4.hx G) (r1.hx G) (r2.hx G) (A20.hx G) (r3.hx G) (Af.hx G) rfl e F hT lT (fun c => by rw [j0 c];exact lpq) t1 t2 hl l1 hp' n1 hS1 hS2 lim1 lim2 (z5:=ptr c5) (z22:=ptr h.next) fun e g' he X r kr => ?_) ⟨rfl,rfl,rfl,rfl,rfl,rfl,rfl,trivial⟩
  rcases he with rfl | rfl <;> exact ⟨(),G.trans X,kr.sub ⟨rfl,rfl,rfl,rfl,rfl,rfl,rfl,trivial⟩⟩
 ·rintro _ g G
  exact kto (k1108f H K (Y3.trans G) f (A5.hx G) (A22.hx G) hp hp' hx1 hx2 hy1 hy2) ⟨rfl,rfl,trivial⟩
end
end Go.Tidy
namespace Go.Tidy
open Go Go.Proofs Tab
variable {tp:TProg}
theorem RevR.ok {n p e:Int} {L:List Int} {S:List (Int × Int)} {n0:Nat} {g:TH} {v:Value} (r:RevR n p e L S n0 g v) (he:e = 0) (h0:0 ≤ 2 * p + 1 - (n + L.length)) (h1:2 * p + 1 - (n + L.length) + L.length ≤ 100000000):∃ bv b2 m2 k2,v = .tuple #[trcV (2 * p + 1 - (n + L.length)) (slA bv L.length) (.slice b2 m2 k2),zi 0] ∧ n0 ≤ bv ∧ TrcO n0 g bv (.slice b2 m2 k2) L.reverse (holesOf (knownL S L.length).reverse):=by
 rcases r with ⟨q,_⟩ | ⟨_,q,_⟩ | ⟨_,_,_,bv,w,q2,q3,q4⟩
 ·exact absurd he q
 ·omega
 ·obtain ⟨b2,m2,k2,rfl⟩:=q4.form
  exact ⟨bv,b2,m2,k2,q2,q3,q4⟩
theorem traceE_rev {n n':Int} {L:List Int} {S:List (Int × Int)} (te:traceE n L S = 0) (h0:0 ≤ n') (h1:n' + (L.length:Nat) ≤ 100000000):traceE n' L.reverse (holesOf (knownL S L.length).reverse) = 0:=by
 obtain ⟨_,m3,_,m5,m6,_⟩:=trace_ok te
 have lz:(zipK L S L.length).reverse.length = L.length:=by unfold zipK;rw [List.length_reverse,List.length_map,List.length_range]
 have:=traceE_made (C:=(zipK L S L.length).reverse) (n:=n') (rev_big m3) h0 (by rw [lz];omega) (by rw [lz];omega)
 rw [rev_val m5,rev_known] at this
 exact this
theorem back_holes {S:List (Int × Int)} {m:Nat} (h:holeE m (-1) S = 0):holesOf (knownL (holesOf (knownL S m).reverse) m).reverse = S:=by
 have k:=known_holes (knownL S m).reverse
 rw [List.length_reverse,knownL_len] at k
 rw [k,List.reverse_reverse,holes_back h]
theorem add_small {L1 L2:List Int} {S1 S2:List (Int × Int)} {m:Nat} (lim1:∀ j,-20000 ≤ L1.getD j 0 ∧ L1.getD j 0 ≤ 20000) (lim2:∀ j,-20000 ≤ L2.getD j 0 ∧ L2.getD j 0 ≤ 20000):bigC (addC L1 L2 S1 S2 m) = false:=by
 unfold bigC
 rw [List.any_eq_false]
 intro c hc
 obtain ⟨i,hi,rfl⟩:=List.mem_map.1 hc
 have a1:=lim1 i
 have a2:=lim2 i
 have:largeB (L1.getD i 0 + L2.getD i 0) = false:=by
  unfold largeB readE
  rw [outB_in (by omega) (by omega)];rfl
 show ¬ ((knownB S1 (i:Nat) && knownB S2 (i:Nat)) && largeB (L1.getD i 0 + L2.getD i 0)) = true
 rw [this,Bool.and_false]
 exact Bool.false_ne_true
theorem vTn_w {p q:Nat} (hp:p ≤ 32) (hq:q ≤ 32) (t:Nat × Int) (ht:t ∈ vTn p q):t.2.natAbs ≤ 65:=by
 simp only [vTn,List.mem_cons,List.not_mem_nil,or_false] at ht
 rcases ht with rfl | rfl | rfl
 ·show (-(q:Int)).natAbs ≤ 65;omega
 ·show ((p:Int) + q).natAbs ≤ 65;omega
 ·show (-(p:Int)).natAbs ≤ 65;omega
section
variable {h h0:TH} {x y n:Int} {p q c3 c4 c5:Nat} {v1 v2 w1 w2:Value} {L1 L2:List Int} {S1 S2:List (Int × Int)}
def cd1108d:TCode:=.seq (.reg r1108_13) (.seq (.reg r1108_14) (.seq (.seq (.reg r1108_15) (.cond (.tmp 160) (.seq (.reg r1108_16) .ret) .skip)) cd1108e))
set_option maxHeartbeats 8000000 in
set_option maxRecDepth 10000 in
theorem k1108d (H:Has tp) (K:Awk tp) (X0:HX h0 h) (f:Free0 h0.next h0) (A3:At h c3 (.cells [zi (p:Nat),zi (q:Nat)] true true 23)) (A4:At h c4 (.cells [zi n,v1,v2,zi n,w1,w2] true true 28)) (A5:At h c5 (.cells [.int .i8 x,.int .i8 y] true true 90)) (r1:TrcH h v1 v2 L1 S1) (r2:TrcH h w1 w2 L2 S2)
  {C:List (Int × Bool)} {c14 c16 ba bd n0a n0b ma ka md kd:Nat} {bb be:Option Addr} (hC:C.length + (p + q) = L1.length) (bC:bigC C = false)
  (A14:At h c14 (.cells [zi (n + (p:Nat)),slA ba C.length,.slice bb ma ka] true true 31)) (o14:TrcO n0a h ba (.slice bb ma ka) (valC C) (holesOf (C.map fun c => c.2)))
  (A16:At h c16 (.cells [zi (2 * 1000000 + 1 - (n + (L1.length:Nat)) + (q:Nat)),slA bd C.length,.slice be md kd] true true 31)) (o16:TrcO n0b h bd (.slice be md kd) (valC C.reverse) (holesOf (C.reverse.map fun c => c.2)))
  (hp:1 ≤ p) (hp':p ≤ 32) (hq:1 ≤ q) (hq':q ≤ 32) (hx1:-128 ≤ x) (hx2:x ≤ 127) (hy1:-128 ≤ y) (hy2:y ≤ 127)
  (t1:traceE n L1 S1 = 0) (t2:traceE n L2 S2 = 0) (hl:L2.length = L1.length) (l1:L1.length ≤ 60) (lpq:p + q < L1.length) (n1:n ≤ 1000000) (hS1:S1.length ≤ 900000) (hS2:S2.length ≤ 900000) (lim1:∀ j,-20000 ≤ L1.getD j 0 ∧ L1.getD j 0 ≤ 20000) (lim2:∀ j,-20000 ≤ L2.getD j 0 ∧ L2.getD j 0 ≤ 20000) :
  ∀ r,Kn [(3,ptr c3),(4,ptr c4),(5,ptr c5),(7,zi 1000000),(14,ptr c14),(16,ptr c16)] r → W Tryz.prog tp false cd1108d r h (Fin Tryz.prog [.tmp 6] fun v _ => v = .bool true):=by
 unfold cd1108d
 obtain ⟨b1,k1,e1,_⟩:=id r1.l
 obtain ⟨b2,k2,e2,_⟩:=id r1.s
 obtain ⟨b3,k3,e3,_⟩:=id r2.l
 obtain ⟨b4,k4,e4,_⟩:=id r2.s
 subst e1 e2 e3 e4
 have x0:=X0.next
 have lc4:=A4.lt
 have lc16:=A16.lt
 obtain ⟨⟨m1,m2⟩,_,_,_,_,_⟩:=trace_ok t1
 have tC:=traceE_made (n:=n + (p:Nat)) bC (by omega) (by omega) (by omega)
 have hh:=holesOf_le (C.map fun c => c.2)
 rw [List.length_map] at hh
 have lV:=valC_len (C:=C)
 have lR:C.reverse.length = C.length:=List.length_reverse
 have hhr:=holesOf_le (C.reverse.map fun c => c.2)
 rw [List.length_map,lR] at hhr
 -- the versines,turned
 refine WL.sr <| WOL.ld rfl (load_row tp1117 A14 rfl (Nat.le_of_ble_eq_true rfl)) <| WOL.cl1 rfl rfl ((k1150 H (f.on X0)).mono ?_)
 rintro v i1 ⟨rfl,I1⟩
 have Y1:=X0.trans I1
 refine WOL.cl1 rfl rfl ((k1115 (n:=n + (p:Nat)) H (o14.hx I1).trcC (by omega) (by omega) (f.on Y1)).mono ?_)
 rintro v i2 ⟨I2,u1,u2,rfl,ru,_,_⟩
 have Y2:=Y1.trans I2
 refine WOL.mv rfl <| WOL.cl2 rfl rfl rfl ((k1116 (n:=n + (p:Nat)) (p:=1000000) H ru (by omega) (by omega) (f.on Y2)).mono ?_)
 rintro v i3 ⟨I3,R⟩
 have Y3:=Y2.trans I3
 obtain ⟨bv,bb3,mm3,kk3,rfl,hv,to⟩:=R.ok (by rw [tC,outB_in (by omega) (by omega)];rfl) (by omega) (by omega)
 clear R
 rw [lV,rev_flags,← valC_rev,show 2 * 1000000 + 1 - (n + (p:Nat) + (C.length:Int)) = 2 * 1000000 + 1 - (n + (L1.length:Nat)) + (q:Nat) by omega] at *
 have Z3:=(I1.trans I2).trans I3
 have z3:=Z3.next
 have i12:=(I1.trans I2).next
 refine WOL.mv rfl <| WOL.ex rfl rfl <| WOL.ex rfl rfl <| WOL.al tp1117 fun i4 N4 => WOL.sto (vs:=[zi (2 * 1000000 + 1 - (n + (L1.length:Nat)) + (q:Nat)),slA bv _,.slice bb3 mm3 kk3]) rfl rfl tp1117 N4.at_ rfl rfl (Nat.le_of_ble_eq_true rfl) rfl (f.hx (Y3.trans N4.hx)) (by omega) fun i5 P5 => WOL.as rfl <| WOL.nil <| keep [(3,_),(4,_),(5,_),(16,_),(18,_),(19,_)] ⟨rfl,rfl,rfl,rfl,rfl,rfl,trivial⟩ ?_
 have q4:=N4.next
 have q5:=P5.next
 have Z5:HX h i5:=P5.hx _ (Z3.trans N4.hx) (by omega)
 have Y5:=X0.trans Z5
 have A18:=P5.at_
 have o18:TrcO i2.next i5 bv _ _ _:=⟨P5.oth _ _ (by have:=to.v.lt;omega) (to.v.hx N4.hx),(to.s.hx N4.hx).keep fun z y hz a => P5.oth _ _ (by have:=(to.s.lt hz).2;omega) a⟩
 clear to
 replace A3:=A3.hx Z5;replace A4:=A4.hx Z5;replace A5:=A5.hx Z5;replace A16:=A16.hx Z5;replace r1:=r1.hx Z5;replace r2:=r2.hx Z5;replace o16:=o16.hx Z5
 -- the sum
 refine WL.sr <| WOL.ix rfl rfl ix1115_0 <| WOL.ld rfl (load_row tp1114 A4 (l:=[zi n,.slice b1 L1.length k1,.slice b2 S1.length k2]) rfl (Nat.le_of_ble_eq_true rfl)) <| WOL.ix rfl rfl ix1115_1 <| WOL.ld rfl (load_row tp1114 A4 (l:=[zi n,.slice b3 L2.length k3,.slice b4 S2.length k4]) rfl (Nat.le_of_ble_eq_true rfl)) <| WOL.al tp1117 fun j1 J1 => ?_
 have s1:=J1.next
 have U1:=Y5.trans J1.hx
 refine WOL.lq1 [i5.next,c4] rfl rfl rfl fun M hM => ((k1115 (n:=n) H ((r1.hx J1.hx).relock M) (by omega) (by omega) ((f.on U1).held hM (fun b hb => by simp at hb;omega))).mono ?_)
 rintro v j2 ⟨J2,u3,u4,rfl,ru3,_,_⟩
 replace J2:=J2.relock
 replace ru3:=ru3.relock j1.lock
 generalize j2.withLock j1.lock = j2 at *
 have s2:=J2.next
 have U2:=U1.trans J2
 refine WOL.lq1 [i5.next] rfl rfl rfl fun M hM => ((k1115 (n:=n) H (((r2.hx J1.hx).hx J2).relock M) (by omega) (by omega) ((f.on U2).held hM (fun b hb => by simp at hb;omega))).mono ?_)
 rintro v j3 ⟨J3,u5,u6,rfl,ru5,_,_⟩
 replace J3:=J3.relock
 replace ru5:=ru5.relock j2.lock
 generalize j3.withLock j2.lock = j3 at *
 have s3:=J3.next
 have U3:=U2.trans J3
 refine WOL.lq2 [i5.next] rfl rfl rfl rfl fun M hM => ((k1114 (n:=n) (n':=n) H ((ru3.hx J3).relock M) (ru5.relock M) (by omega) (by omega) hS1 hS2 ((f.on U3).held hM (fun b hb => by simp at hb;omega))).mono ?_)
 rintro v j4 ⟨J4,R⟩
 replace J4:=J4.relock
 rw [t1,t2,show shapeE n n L1.length L2.length = 0 by unfold shapeE;rw [decide_eq_true ⟨rfl,hl.symm⟩];rfl] at R
 obtain ⟨bs,bb5,mm5,kk5,rfl,hs,to⟩:=R.ok rfl (add_small lim1 lim2)
 clear R
 replace to:TrcO j3.next (j4.withLock j3.lock) bs _ _ _:=to.relock j3.lock
 replace hs:j3.next ≤ bs:=hs
 generalize j4.withLock j3.lock = j4 at *
 have s4:=J4.next
 have U4:=U3.trans J4
 have T4:=((J1.hx.trans J2).trans J3).trans J4
 have B20:=((J1.at_.hx J2).hx J3).hx J4
 refine WOL.mv rfl <| WOL.ex rfl rfl <| WOL.ex rfl rfl <| WOL.sto (vs:=[zi n,slA bs _,.slice bb5 mm5 kk5]) rfl rfl tp1117 B20 rfl rfl (Nat.le_of_ble_eq_true rfl) rfl (f.hx U4) (by omega) fun j5 P6 => WOL.as rfl <| WOL.nil <| keep [(3,_),(4,_),(5,_),(16,_),(18,_),(19,_),(20,_),(21,_)] ⟨rfl,rfl,rfl,rfl,rfl,rfl,rfl,rfl,trivial⟩ ?_
 have s5:=P6.next
 have T5:HX i5 j5:=P6.hx _ T4 (by omega)
 have U5:=Y5.trans T5
 replace B20:=P6.at_
 have r20:=(to.put P6 (by omega) (by omega)).trcC
 clear to
 replace A3:=A3.hx T5;replace A4:=A4.hx T5;replace A5:=A5.hx T5;replace A16:=A16.hx T5;replace r1:=r1.hx T5;replace r2:=r2.hx T5;replace o16:=o16.hx T5;replace A18:=A18.hx T5;replace o18:=o18.hx T5
 -- they are the same
 refine WL.seq <| WL.sr <| WOL.mv rfl <| WOL.mv rfl <| WOL.add (m:=0) (n:=0) rfl rfl (by decide) (by decide) <| WOL.bf rfl rfl rfl rfl <| WOL.mv rfl <| WOL.now (b:=false) rfl rfl <| WOL.ld rfl (load_row tp1117 A18 rfl (Nat.le_of_ble_eq_true rfl)) <| WOL.now (b:=false) rfl rfl <| WOL.ld rfl (load_row tp1117 A16 rfl (Nat.le_of_ble_eq_true rfl)) <| WOL.now (b:=false) rfl rfl ?_
 refine WOL.lq1 [c16] rfl rfl rfl fun M hM => ((k1150 (h:=TH.withLock _ M) H ((f.on U5).held hM (fun b hb => by simp at hb;omega))).mono ?_)
 rintro v j6 ⟨rfl,J6⟩
 replace J6:=J6.relock
 generalize j6.withLock j5.lock = j6 at *
 have U6:=U5.trans J6
 refine WOL.now (b:=false) rfl rfl <| WOL.cl1 rfl rfl ((k1150 H (f.on U6)).mono ?_)
 rintro v j7 ⟨rfl,J7⟩
 have J67:=J6.trans J7
 have iA:=(o18.hx J67).ints (m:=C.length) (by rw [valC_len,lR])
 have iB:=(o16.hx J67).ints (m:=C.length) (by rw [valC_len,lR])
 refine WOL.now (b:=false) rfl rfl <| WOL.cl2 rfl rfl rfl ((k1152 (n:=2 * 1000000 + 1 - (n + (L1.length:Nat)) + (q:Nat)) H iA iB ((o18.hx J67).s.sl eS) ((o16.hx J67).s.sl eS) (by rw [valC_len,lR];omega) (by omega)).mono ?_)
 rintro v j8 ⟨rfl,J8⟩
 have J68:=J67.trans J8
 refine WOL.now (b:=false) rfl rfl <| WOL.nt rfl <| WOL.pkf rfl rfl <| WOL.nil <| WL.no rfl <| WL.skip ?_
 exact kto (k1108e H K (U5.trans J68) f (A3.hx J68) (A4.hx J68) (A5.hx J68) (r1.hx J68) (r2.hx J68) (B20.hx J68) (r20.hx J68) hp hp' hq hq' hx1 hx2 hy1 hy2 t1 t2 hl l1 lpq n1 hS1 hS2 lim1 lim2) ⟨rfl,rfl,rfl,rfl,trivial⟩
end
end Go.Tidy
namespace Go.Tidy
open Go Go.Proofs Tab
variable {tp:TProg}
section
variable {h h0:TH} {x y n n1 n2 a b:Int} {p q c3 c4 c5:Nat} {v1 v2 w1 w2:Value} {L1 L2:List Int} {S1 S2:List (Int × Int)}
def cd1108b:TCode:=.seq (.reg r1108_9) (.seq (.reg r1108_10) (.seq (.seq (.reg r1108_11) (.cond (.tmp 130) (.seq (.reg r1108_12) .ret) .skip)) cd1108d))
set_option maxHeartbeats 8000000 in
set_option maxRecDepth 10000 in
theorem k1108b (H:Has tp) (K:Awk tp) (X0:HX h0 h) (f:Free0 h0.next h0) (A3:At h c3 (.cells [zi (p:Nat),zi (q:Nat)] true true 23)) (A4:At h c4 (.cells [zi n,v1,v2,zi n,w1,w2] true true 28)) (A5:At h c5 (.cells [.int .i8 x,.int .i8 y] true true 90)) (r1:TrcH h v1 v2 L1 S1) (r2:TrcH h w1 w2 L2 S2) (iI:IsInts h v1 L1)
  {c8 c10 c12 ba bd m0a m0b ma ka md kd:Nat} {bb be:Option Addr}
  (A8:At h c8 (.cells [zi (2 * 1000000 + 1 - (n + (L1.length:Nat))),slA ba L1.length,.slice bb ma ka] true true 31)) (o8:TrcO m0a h ba (.slice bb ma ka) L1.reverse (holesOf (knownL S1 L1.length).reverse))
  (A10:At h c10 (.cells [zi (q:Nat),zi (p:Nat)] true true 44))
  (A12:At h c12 (.cells [zi n,slA bd L1.length,.slice be md kd] true true 31)) (o12:TrcO m0b h bd (.slice be md kd) L1 S1)
  (hp:1 ≤ p) (hp':p ≤ 32) (hq:1 ≤ q) (hq':q ≤ 32) (hx1:-128 ≤ x) (hx2:x ≤ 127) (hy1:-128 ≤ y) (hy2:y ≤ 127)
  (t1:traceE n L1 S1 = 0) (t2:traceE n L2 S2 = 0) (hl:L2.length = L1.length) (l1:L1.length ≤ 60) (lpq:p + q < L1.length) (nn:n ≤ 1000000) (hS1:S1.length ≤ 900000) (hS2:S2.length ≤ 900000) (lim1:∀ j,-20000 ≤ L1.getD j 0 ∧ L1.getD j 0 ≤ 20000) (lim2:∀ j,-20000 ≤ L2.getD j 0 ∧ L2.getD j 0 ≤ 20000) :
  ∀ r,Kn [(3,ptr c3),(4,ptr c4),(5,ptr c5),(7,zi 1000000),(8,ptr c8),(10,ptr c10),(12,ptr c12),(13,zi 0)] r → W Tryz.prog tp false cd1108b r h (Fin Tryz.prog [.tmp 6] fun v _ => v = .bool true):=by
 unfold cd1108b
 obtain ⟨b1,k1,e1,_⟩:=id r1.l
 obtain ⟨b2,k2,e2,_⟩:=id r1.s
 obtain ⟨b3,k3,e3,_⟩:=id r2.l
 obtain ⟨b4,k4,e4,_⟩:=id r2.s
 subst e1 e2 e3 e4
 have x0:=X0.next
 have lc3:=A3.lt
 have lc4:=A4.lt
 have lc10:=A10.lt
 obtain ⟨⟨m1,m2⟩,_,_,_,_,_⟩:=trace_ok t1
 have tR:=traceE_rev (n':=2 * 1000000 + 1 - (n + (L1.length:Nat))) t1 (by omega) (by omega)
 have hr:=holesOf_le (knownL S1 L1.length).reverse
 rw [List.length_reverse,knownL_len] at hr
 obtain ⟨mw,hmw⟩:∃ mw,mw + (p + q) = L1.length:=⟨L1.length - (p + q),by omega⟩
 have bC:=taps_small (L:=L1) (S:=S1) (M:=mw) (B:=20000) (T:=vTn p q) (by decide) (fun i => by have:=lim1 i;omega) (vTn_w hp' hq') (by show 3 ≤ 65;decide)
 have rc:=rev_cells (S:=S1) hmw
 have lC:(tapC L1 S1 (vTn p q) mw).length = mw:=tapC_len
 -- the versines
 refine WL.sr <| WOL.ld rfl (load_row tp1112 A3 rfl (Nat.le_of_ble_eq_true rfl)) <| WOL.ix rfl rfl ix1115_0 <| WOL.ld rfl (load_row tp1114 A4 (l:=[zi n,.slice b1 L1.length k1,.slice b2 S1.length k2]) rfl (Nat.le_of_ble_eq_true rfl)) <| WOL.al tp1117 fun i1 I1 => ?_
 have q1:=I1.next
 have Y1:=X0.trans I1.hx
 refine WOL.lq1 [h.next,c3] rfl rfl rfl fun M hM => ((k1115 (n:=n) H ((r1.hx I1.hx).relock M) (by omega) (by omega) ((f.on Y1).held hM (fun b hb => by simp at hb;omega))).mono ?_)
 rintro v i2 ⟨I2,u1,u2,rfl,ru,_,_⟩
 replace I2:=I2.relock
 replace ru:=ru.relock i1.lock
 generalize i2.withLock i1.lock = i2 at *
 have q2:=I2.next
 have Y2:=Y1.trans I2
 refine WOL.lq2 [h.next] rfl rfl rfl rfl fun M hM => ((k1125 (n:=n) (a:=(p:Int)) (b:=(q:Int)) H (ru.relock M) (by omega) (by omega) ((f.on Y2).held hM (fun b hb => by simp at hb;omega))).mono ?_)
 rintro v i3 ⟨I3,R⟩
 replace I3:=I3.relock
 rw [Int.toNat_natCast,Int.toNat_natCast,show L1.length - (p + q) = mw by omega] at R
 obtain ⟨bx,b7,m7,k7,rfl,hx,to⟩:=R.ok (errV_in (by rw [chordE_in (by omega) (by omega) (by omega) (by omega),t1];rfl) (by omega)) bC
 clear R
 replace to:TrcO i2.next (i3.withLock i2.lock) bx _ _ _:=to.relock i2.lock
 replace hx:i2.next ≤ bx:=hx
 generalize i3.withLock i2.lock = i3 at *
 have q3:=I3.next
 have Y3:=Y2.trans I3
 have T3:=(I1.hx.trans I2).trans I3
 have B14:=(I1.at_.hx I2).hx I3
 refine WOL.mv rfl <| WOL.ex rfl rfl <| WOL.ex rfl rfl <| WOL.sto (vs:=[zi (n + (p:Nat)),slA bx _,.slice b7 m7 k7]) rfl rfl tp1117 B14 rfl rfl (Nat.le_of_ble_eq_true rfl) rfl (f.hx Y3) (by omega) fun i4 P4 => WOL.as rfl <| WOL.nil <| keep [(3,_),(4,_),(5,_),(7,_),(8,_),(10,_),(12,_),(13,_),(14,_),(15,_)] ⟨rfl,rfl,rfl,rfl,rfl,rfl,rfl,rfl,rfl,rfl,trivial⟩ ?_
 have q4:=P4.next
 have T4:HX h i4:=P4.hx _ T3 (by omega)
 have Y4:=X0.trans T4
 replace B14:=P4.at_
 have o14:=to.put P4 (by omega) (by omega)
 clear to
 replace A3:=A3.hx T4;replace A4:=A4.hx T4;replace A5:=A5.hx T4;replace A8:=A8.hx T4;replace A10:=A10.hx T4;replace A12:=A12.hx T4;replace o8:=o8.hx T4;replace o12:=o12.hx T4;replace r1:=r1.hx T4;replace r2:=r2.hx T4;replace iI:=iI.hx T4
 -- those of what is turned
 refine WL.sr <| WOL.ld rfl (load_row tp1128 A10 rfl (Nat.le_of_ble_eq_true rfl)) <| WOL.ld rfl (load_row tp1117 A8 rfl (Nat.le_of_ble_eq_true rfl)) <| WOL.al tp1117 fun j1 J1 => ?_
 have s1:=J1.next
 have U1:=Y4.trans J1.hx
 refine WOL.lq1 [i4.next,c10] rfl rfl rfl fun M hM => ((k1150 (h:=TH.withLock _ M) H ((f.on U1).held hM (fun b hb => by simp at hb;omega))).mono ?_)
 rintro v j2 ⟨rfl,J2⟩
 replace J2:=J2.relock
 generalize j2.withLock j1.lock = j2 at *
 have s2:=J2.next
 have U2:=U1.trans J2
 have o8':=(o8.hx J1.hx).hx J2
 have r8:=o8'.trc
 rw [List.length_reverse] at r8
 refine WOL.lq1 [i4.next,c10] rfl rfl rfl fun M hM => ((k1115 (n:=2 * 1000000 + 1 - (n + (L1.length:Nat))) H (r8.relock M) (by rw [List.length_reverse];omega) (by omega) ((f.on U2).held hM (fun b hb => by simp at hb;omega))).mono ?_)
 rintro v j3 ⟨J3,u3,u4,rfl,ru3,_,_⟩
 replace J3:=J3.relock
 replace ru3:=ru3.relock j2.lock
 generalize j3.withLock j2.lock = j3 at *
 have s3:=J3.next
 have U3:=U2.trans J3
 refine WOL.lq2 [i4.next] rfl rfl rfl rfl fun M hM => ((k1125 (n:=2 * 1000000 + 1 - (n + (L1.length:Nat))) (a:=(q:Int)) (b:=(p:Int)) H (ru3.relock M) (by rw [List.length_reverse];omega) (by omega) ((f.on U3).held hM (fun b hb => by simp at hb;omega))).mono ?_)
 rintro v j4 ⟨J4,R⟩
 replace J4:=J4.relock
 have bR:bigC (tapC L1 S1 (vTn p q) mw).reverse = false:=by
  unfold bigC at bC ⊢
  rw [List.any_reverse];exact bC
 rw [Int.toNat_natCast,Int.toNat_natCast,List.length_reverse,show L1.length - (q + p) = mw by omega,rc] at R
 obtain ⟨bw_,b6,m6,k6,rfl,hw,to⟩:=R.ok (errV_in (by rw [chordE_in (by omega) (by omega) (by omega) (by omega),tR];rfl) (by omega)) bR
 clear R
 replace to:TrcO j3.next (j4.withLock j3.lock) bw_ _ _ _:=to.relock j3.lock
 replace hw:j3.next ≤ bw_:=hw
 generalize j4.withLock j3.lock = j4 at *
 clear rc
 generalize tapC L1 S1 (vTn p q) mw = C at *
 have s4:=J4.next
 have U4:=U3.trans J4
 have V4:=((J1.hx.trans J2).trans J3).trans J4
 have B16:=((J1.at_.hx J2).hx J3).hx J4
 refine WOL.mv rfl <| WOL.ex rfl rfl <| WOL.ex rfl rfl <| WOL.sto (vs:=[zi (2 * 1000000 + 1 - (n + (L1.length:Nat)) + (q:Nat)),slA bw_ _,.slice b6 m6 k6]) rfl rfl tp1117 B16 rfl rfl (Nat.le_of_ble_eq_true rfl) rfl (f.hx U4) (by omega) fun j5 P5 => WOL.as rfl <| WOL.nil <| keep [(3,_),(4,_),(5,_),(7,_),(12,_),(13,_),(14,_),(15,_),(16,_),(17,_)] ⟨rfl,rfl,rfl,rfl,rfl,rfl,rfl,rfl,rfl,rfl,trivial⟩ ?_
 have s5:=P5.next
 have V5:HX i4 j5:=P5.hx _ V4 (by omega)
 have U5:=Y4.trans V5
 replace B16:=P5.at_
 have o16:=to.put P5 (by omega) (by omega)
 clear to
 replace A3:=A3.hx V5;replace A4:=A4.hx V5;replace A5:=A5.hx V5;replace A12:=A12.hx V5;replace o12:=o12.hx V5;replace r1:=r1.hx V5;replace r2:=r2.hx V5;replace B14:=B14.hx V5;replace o14:=o14.hx V5;replace iI:=iI.hx V5
 -- turned twice it is what it was
 refine WL.seq <| WL.sr <| WOL.mv rfl <| WOL.mv rfl <| WOL.add (m:=0) (n:=0) rfl rfl (by decide) (by decide) <| WOL.mv rfl <| WOL.add (m:=0) (n:=0) rfl rfl (by decide) (by decide) <| WOL.bf rfl rfl rfl rfl <| WOL.mv rfl <| WOL.now (b:=false) rfl rfl <| WOL.ld rfl (load_row tp1117 A12 rfl (Nat.le_of_ble_eq_true rfl)) <| WOL.now (b:=false) rfl rfl <| WOL.ix rfl rfl ix1115_0 <| WOL.now (b:=false) rfl rfl <| WOL.ld rfl (load_row tp1114 A4 (l:=[zi n,.slice b1 L1.length k1,.slice b2 S1.length k2]) rfl (Nat.le_of_ble_eq_true rfl)) <| WOL.now (b:=false) rfl rfl ?_
 have lc4':=A4.lt
 refine WOL.lq1 [c4] rfl rfl rfl fun M hM => ((k1150 (h:=TH.withLock _ M) H ((f.on U5).held hM (fun b hb => by simp at hb;omega))).mono ?_)
 rintro v j6 ⟨rfl,J6⟩
 replace J6:=J6.relock
 generalize j6.withLock j5.lock = j6 at *
 have U6:=U5.trans J6
 have iA:=(o12.hx J6).ints (m:=L1.length) rfl
 have rr:=r1.hx J6
 refine WOL.now (b:=false) rfl rfl <| WOL.cl2 rfl rfl rfl ((k1152 (n:=n) H iA (iI.hx J6) ((o12.hx J6).s.sl eS) rr.s (by omega) (by omega)).mono ?_)
 rintro v j7 ⟨rfl,J7⟩
 have J67:=J6.trans J7
 refine WOL.now (b:=false) rfl rfl <| WOL.nt rfl <| WOL.pkf rfl rfl <| WOL.nil <| WL.no rfl <| WL.skip ?_
 rw [show C.reverse.length = C.length from List.length_reverse] at B16
 exact kto (k1108d H K (U5.trans J67) f (A3.hx J67) (A4.hx J67) (A5.hx J67) (r1.hx J67) (r2.hx J67) (by rw [lC];exact hmw) bC (B14.hx J67) (o14.hx J67) (B16.hx J67) (o16.hx J67) hp hp' hq hq' hx1 hx2 hy1 hy2 t1 t2 hl l1 lpq nn hS1 hS2 lim1 lim2) ⟨rfl,rfl,rfl,rfl,rfl,rfl,trivial⟩
end
end Go.Tidy
namespace Go.Tidy
open Go Go.Proofs Tab
variable {tp:TProg}
section
variable {h h0:TH} {x y n n1 n2 a b:Int} {p q c3 c4 c5:Nat} {v1 v2 w1 w2:Value} {L1 L2:List Int} {S1 S2:List (Int × Int)}
set_option maxHeartbeats 8000000 in
set_option maxRecDepth 10000 in
theorem k1108a (H:Has tp) (K:Awk tp) (X0:HX h0 h) (f:Free0 h0.next h0) (A3:At h c3 (.cells [zi (p:Nat),zi (q:Nat)] true true 23)) (A4:At h c4 (.cells [zi n,v1,v2,zi n,w1,w2] true true 28)) (A5:At h c5 (.cells [.int .i8 x,.int .i8 y] true true 90)) (r1:TrcH h v1 v2 L1 S1) (r2:TrcH h w1 w2 L2 S2) (iI:IsInts h v1 L1)
  (hp:1 ≤ p) (hp':p ≤ 32) (hq:1 ≤ q) (hq':q ≤ 32) (hx1:-128 ≤ x) (hx2:x ≤ 127) (hy1:-128 ≤ y) (hy2:y ≤ 127)
  (t1:traceE n L1 S1 = 0) (t2:traceE n L2 S2 = 0) (hl:L2.length = L1.length) (l1:L1.length ≤ 60) (lpq:p + q < L1.length) (nn:n ≤ 1000000) (hS1:S1.length ≤ 900000) (hS2:S2.length ≤ 900000) (lim1:∀ j,-20000 ≤ L1.getD j 0 ∧ L1.getD j 0 ≤ 20000) (lim2:∀ j,-20000 ≤ L2.getD j 0 ∧ L2.getD j 0 ≤ 20000) :
  ∀ r,Kn [(3,ptr c3),(4,ptr c4),(5,ptr c5)] r → W Tryz.prog tp false (.seq (.reg r1108_3) (.seq (.reg r1108_4) (.seq (.reg r1108_5) (.seq (.seq (.reg r1108_6) (.cond (.tmp 92) (.seq (.reg r1108_7) .ret) .skip)) (.seq (.reg r1108_8) cd1108b))))) r h (Fin Tryz.prog [.tmp 6] fun v _ => v = .bool true):=by
 obtain ⟨b1,k1,e1,_⟩:=id r1.l
 obtain ⟨b2,k2,e2,_⟩:=id r1.s
 obtain ⟨b3,k3,e3,_⟩:=id r2.l
 obtain ⟨b4,k4,e4,_⟩:=id r2.s
 subst e1 e2 e3 e4
 have x0:=X0.next
 obtain ⟨⟨m1,m2⟩,_,m4,_,_,_⟩:=trace_ok t1
 have tR:=traceE_rev (n':=2 * 1000000 + 1 - (n + (L1.length:Nat))) t1 (by omega) (by omega)
 have bh:=back_holes m4
 have hr:=holesOf_le (knownL S1 L1.length).reverse
 rw [List.length_reverse,knownL_len] at hr
 have lR:L1.reverse.length = L1.length:=List.length_reverse
 have ce:=chordE_in (a:=(p:Int)) (b:=(q:Int)) (by omega) (by omega) (by omega) (by omega)
 have ht:turV (p:Int) (q:Int) = .agg #[zi (q:Nat),zi (p:Nat)]:=by unfold turV;rw [ce];rfl
 refine WL.sr <| WOL.as rfl <| WOL.nil ?_
 -- turned
 refine WL.sr <| WOL.ix rfl rfl ix1115_0 <| WOL.ld rfl (load_row tp1114 A4 (l:=[zi n,.slice b1 L1.length k1,.slice b2 S1.length k2]) rfl (Nat.le_of_ble_eq_true rfl)) <| WOL.cl1 rfl rfl ((k1115 (n:=n) H r1 (by omega) (by omega) (f.on X0)).mono ?_)
 rintro v i1 ⟨I1,u1,u2,rfl,ru,_,_⟩
 have Y1:=X0.trans I1
 refine WOL.mv rfl <| WOL.cl2 rfl rfl rfl ((k1116 (n:=n) (p:=1000000) H ru (by omega) (by omega) (f.on Y1)).mono ?_)
 rintro v i2 ⟨I2,R⟩
 have Y2:=Y1.trans I2
 obtain ⟨bv,bb3,mm3,kk3,rfl,hv,to⟩:=R.ok (by rw [t1,outB_in (by omega) (by omega)];rfl) (by omega) (by omega)
 clear R
 have Z2:=I1.trans I2
 have z2:=Z2.next
 have z1:=I1.next
 refine WOL.mv rfl <| WOL.ex rfl rfl <| WOL.ex rfl rfl <| WOL.al tp1117 fun i4 N4 => WOL.sto (vs:=[zi (2 * 1000000 + 1 - (n + (L1.length:Nat))),slA bv _,.slice bb3 mm3 kk3]) rfl rfl tp1117 N4.at_ rfl rfl (Nat.le_of_ble_eq_true rfl) rfl (f.hx (Y2.trans N4.hx)) (by omega) fun i5 P5 => WOL.as rfl <| WOL.nil <| keep [(3,_),(4,_),(5,_),(7,_),(8,_),(9,_)] ⟨rfl,rfl,rfl,rfl,rfl,rfl,trivial⟩ ?_
 have q4:=N4.next
 have q5:=P5.next
 have Z5:HX h i5:=P5.hx _ (Z2.trans N4.hx) (by omega)
 have Y5:=X0.trans Z5
 have A8:=P5.at_
 have o8:TrcO i1.next i5 bv _ _ _:=⟨P5.oth _ _ (by have:=to.v.lt;omega) (to.v.hx N4.hx),(to.s.hx N4.hx).keep fun z y hz a => P5.oth _ _ (by have:=(to.s.lt hz).2;omega) a⟩
 clear to
 replace A3:=A3.hx Z5;replace A4:=A4.hx Z5;replace A5:=A5.hx Z5;replace r1:=r1.hx Z5;replace r2:=r2.hx Z5;replace iI:=iI.hx Z5
 -- the chord,turned
 refine WL.sr <| WOL.ld rfl (load_row tp1112 A3 rfl (Nat.le_of_ble_eq_true rfl)) <| WOL.cl1 rfl rfl ((k1147 (a:=(p:Int)) (b:=(q:Int)) H (f.on Y5)).mono ?_)
 rintro v i6 ⟨rfl,I6⟩
 rw [ht,ce]
 have Y6:=Y5.trans I6
 have z6:=I6.next
 have y6:=Y6.next
 refine WOL.mv rfl <| WOL.ex rfl rfl <| WOL.ex rfl rfl <| WOL.al tp1128 fun i7 N7 => WOL.sto (vs:=[zi (q:Nat),zi (p:Nat)]) rfl rfl tp1128 N7.at_ rfl rfl (Nat.le_of_ble_eq_true rfl) rfl (f.hx (Y6.trans N7.hx)) (by omega) fun i8 P8 => WOL.as rfl <| WOL.nil <| keep [(3,_),(4,_),(5,_),(7,_),(8,_),(9,_),(10,_),(11,_)] ⟨rfl,rfl,rfl,rfl,rfl,rfl,rfl,rfl,trivial⟩ ?_
 have q7:=N7.next
 have q8:=P8.next
 have Z8:HX i5 i8:=P8.hx _ (I6.trans N7.hx) (by omega)
 have Y8:=Y5.trans Z8
 have A10:=P8.at_
 replace A3:=A3.hx Z8;replace A4:=A4.hx Z8;replace A5:=A5.hx Z8;replace r1:=r1.hx Z8;replace r2:=r2.hx Z8;replace iI:=iI.hx Z8;replace A8:=A8.hx Z8;replace o8:=o8.hx Z8
 refine WL.seq <| WL.sr <| WOL.mv rfl <| WOL.mv rfl <| WOL.add (m:=0) (n:=0) rfl rfl (by decide) (by decide) <| WOL.bf rfl rfl rfl rfl <| WOL.nil <| WL.no rfl <| WL.skip <| keep [(3,_),(4,_),(5,_),(7,_),(8,_),(10,_)] ⟨rfl,rfl,rfl,rfl,rfl,rfl,trivial⟩ ?_
 -- turned again
 refine WL.sr <| WOL.ld rfl (load_row tp1117 A8 rfl (Nat.le_of_ble_eq_true rfl)) <| WOL.cl1 rfl rfl ((k1150 H (f.on Y8)).mono ?_)
 rintro v j1 ⟨rfl,J1⟩
 have U1:=Y8.trans J1
 have r8:=(o8.hx J1).trc
 rw [lR] at r8
 refine WOL.cl1 rfl rfl ((k1115 (n:=2 * 1000000 + 1 - (n + (L1.length:Nat))) H r8 (by omega) (by omega) (f.on U1)).mono ?_)
 rintro v j2 ⟨J2,u3,u4,rfl,ru3,_,_⟩
 have U2:=U1.trans J2
 refine WOL.mv rfl <| WOL.cl2 rfl rfl rfl ((k1116 (n:=2 * 1000000 + 1 - (n + (L1.length:Nat))) (p:=1000000) H ru3 (by omega) (by omega) (f.on U2)).mono ?_)
 rintro v j3 ⟨J3,R⟩
 have U3:=U2.trans J3
 obtain ⟨bw_,bb5,mm5,kk5,rfl,hw,to⟩:=R.ok (by rw [tR,outB_in (by omega) (by omega)];rfl) (by omega) (by omega)
 clear R
 rw [lR,List.reverse_reverse,bh] at to
 rw [lR,show 2 * 1000000 + 1 - (2 * 1000000 + 1 - (n + (L1.length:Nat)) + (L1.length:Int)) = n by omega]
 have W3:=(J1.trans J2).trans J3
 have w3:=W3.next
 have w2':=(J1.trans J2).next
 have y8:=Y8.next
 refine WOL.mv rfl <| WOL.ex rfl rfl <| WOL.ex rfl rfl <| WOL.al tp1117 fun j4 N4' => WOL.sto (vs:=[zi n,slA bw_ _,.slice bb5 mm5 kk5]) rfl rfl tp1117 N4'.at_ rfl rfl (Nat.le_of_ble_eq_true rfl) rfl (f.hx (U3.trans N4'.hx)) (by omega) fun j5 P5' => WOL.as rfl <| WOL.nil ?_
 have s4:=N4'.next
 have s5:=P5'.next
 have W5:HX i8 j5:=P5'.hx _ (W3.trans N4'.hx) (by omega)
 have A12:=P5'.at_
 have o12:TrcO j2.next j5 bw_ _ _ _:=⟨P5'.oth _ _ (by have:=to.v.lt;omega) (to.v.hx N4'.hx),(to.s.hx N4'.hx).keep fun z y hz a => P5'.oth _ _ (by have:=(to.s.lt hz).2;omega) a⟩
 clear to
 replace A3:=A3.hx W5;replace A4:=A4.hx W5;replace A5:=A5.hx W5;replace r1:=r1.hx W5;replace r2:=r2.hx W5;replace iI:=iI.hx W5;replace A8:=A8.hx W5;replace o8:=o8.hx W5;replace A10:=A10.hx W5
 exact kto (k1108b H K (Y8.trans W5) f A3 A4 A5 r1 r2 iI A8 o8 A10 A12 o12 hp hp' hq hq' hx1 hx2 hy1 hy2 t1 t2 hl l1 lpq nn hS1 hS2 lim1 lim2) ⟨rfl,rfl,rfl,rfl,rfl,rfl,rfl,rfl,trivial⟩
set_option maxHeartbeats 8000000 in
set_option maxRecDepth 10000 in
theorem k1108 (H:Has tp) (K:Awk tp) (r1:TrcH h v1 v2 L1 S1) (r2:TrcH h w1 w2 L2 S2) (iI:IsInts h v1 L1) (hx1:-128 ≤ x) (hx2:x ≤ 127) (hy1:-128 ≤ y) (hy2:y ≤ 127) (f:Free0 h.next h) :
    CallW Tryz.prog tp (.func (.func 10) #[] #[]) #[.agg #[zi a,zi b],.agg #[zi n1,v1,v2,zi n2,w1,w2],.agg #[.int .i8 x,.int .i8 y]] h fun v _ => v = .bool true:=by
  obtain ⟨b1,k1,e1,_⟩:=id r1.l
  obtain ⟨b2,k2,e2,_⟩:=id r1.s
  obtain ⟨b3,k3,e3,_⟩:=id r2.l
  obtain ⟨b4,k4,e4,_⟩:=id r2.s
  subst e1 e2 e3 e4
  refine CallW.fnL (H.fn 10 f1108 rfl rfl) ?_
  refine WL.sr <| WOL.box rfl fun h1 N1 => WOL.box rfl fun h2 N2 => WOL.box rfl fun h3 N3 => WOL.as rfl <| WOL.nil <| keep [(3,_),(4,_),(5,_)] ⟨rfl,rfl,rfl,trivial⟩ ?_
  have A3:At h3 h.next (.cells [zi a,zi b] true true 23):=(N1.at_.hx N2.hx).hx N3.hx
  have A4:At h3 h1.next (.cells [zi n1,.slice b1 L1.length k1,.slice b2 S1.length k2,zi n2,.slice b3 L2.length k3,.slice b4 S2.length k4] true true 28):=N2.at_.hx N3.hx
  have A5:At h3 h2.next (.cells [.int .i8 x,.int .i8 y] true true 90):=N3.at_
  have X3:=(N1.hx.trans N2.hx).trans N3.hx
  refine WL.seq <| WL.sr <| WOL.ld rfl (load_row tp1112 A3 rfl (Nat.le_of_ble_eq_true rfl)) <| WOL.ix rfl rfl ix1115_0 <| WOL.ld rfl (load_row tp1114 A4 (l:=[zi n1,.slice b1 L1.length k1,.slice b2 S1.length k2]) rfl (Nat.le_of_ble_eq_true rfl)) <| WOL.cl2 rfl rfl rfl ((k1149 (n:=n1) (a:=a) (b:=b) H (r1.hx X3) (f.on X3)).mono ?_)
  rintro v h4 ⟨X4,ok,rfl,hok⟩
  have Y4:=X3.trans X4
  replace A3:=A3.hx X4;replace A4:=A4.hx X4;replace A5:=A5.hx X4
  cases ok with
  | false =>
    refine WOL.nt rfl <| WOL.mv rfl <| WOL.skp (b:=true) rfl rfl <| WOL.skp (b:=true) rfl rfl <| WOL.skp (b:=true) rfl rfl <| WOL.skp (b:=true) rfl rfl <| WOL.skp (b:=true) rfl rfl <| WOL.pkt rfl rfl <| WOL.mv rfl <| WOL.skp (b:=true) rfl rfl <| WOL.skp (b:=true) rfl rfl <| WOL.skp (b:=true) rfl rfl <| WOL.skp (b:=true) rfl rfl <| WOL.skp (b:=true) rfl rfl <| WOL.skp (b:=true) rfl rfl <| WOL.skp (b:=true) rfl rfl <| WOL.pkt rfl rfl <| WOL.mv rfl <| WOL.skp (b:=true) rfl rfl <| WOL.skp (b:=true) rfl rfl <| WOL.skp (b:=true) rfl rfl <| WOL.skp (b:=true) rfl rfl <| WOL.skp (b:=true) rfl rfl <| WOL.skp (b:=true) rfl rfl <| WOL.skp (b:=true) rfl rfl <| WOL.skp (b:=true) rfl rfl <| WOL.skp (b:=true) rfl rfl <| WOL.pkt rfl rfl <| WOL.mv rfl <| WOL.skp (b:=true) rfl rfl <| WOL.skp (b:=true) rfl rfl <| WOL.skp (b:=true) rfl rfl <| WOL.skp (b:=true) rfl rfl <| WOL.pkt rfl rfl <| WOL.nil <| WL.yes rfl <| WL.sr <| WOL.cl0 rfl ((k11t K _).mono ?_)
    rintro v g ⟨rfl,rfl⟩
    exact WOL.as rfl <| WOL.nil <| WL.ret (WL.end_ rfl rfl)
  | true =>
    obtain ⟨ce,t1,l1,hab,lim1⟩:=hok rfl
    refine WOL.nt rfl <| WOL.mv rfl <| WOL.now (b:=false) rfl rfl <| WOL.ld rfl (load_row tp1112 A3 rfl (Nat.le_of_ble_eq_true rfl)) <| WOL.now (b:=false) rfl rfl <| WOL.ix rfl rfl ix1115_1 <| WOL.now (b:=false) rfl rfl <| WOL.ld rfl (load_row tp1114 A4 (l:=[zi n2,.slice b3 L2.length k3,.slice b4 S2.length k4]) rfl (Nat.le_of_ble_eq_true rfl)) <| WOL.now (b:=false) rfl rfl <| WOL.cl2 rfl rfl rfl ((k1149 (n:=n2) (a:=a) (b:=b) H (r2.hx Y4) (f.on Y4)).mono ?_)
    rintro v h5 ⟨X5,ok2,rfl,hok2⟩
    have Y5:=Y4.trans X5
    replace A3:=A3.hx X5;replace A4:=A4.hx X5;replace A5:=A5.hx X5
    cases ok2 with
    | false =>
      refine WOL.now (b:=false) rfl rfl <| WOL.nt rfl <| WOL.pkf rfl rfl <| WOL.mv rfl <| WOL.skp (b:=true) rfl rfl <| WOL.skp (b:=true) rfl rfl <| WOL.skp (b:=true) rfl rfl <| WOL.skp (b:=true) rfl rfl <| WOL.skp (b:=true) rfl rfl <| WOL.skp (b:=true) rfl rfl <| WOL.skp (b:=true) rfl rfl <| WOL.pkt rfl rfl <| WOL.mv rfl <| WOL.skp (b:=true) rfl rfl <| WOL.skp (b:=true) rfl rfl <| WOL.skp (b:=true) rfl rfl <| WOL.skp (b:=true) rfl rfl <| WOL.skp (b:=true) rfl rfl <| WOL.skp (b:=true) rfl rfl <| WOL.skp (b:=true) rfl rfl <| WOL.skp (b:=true) rfl rfl <| WOL.skp (b:=true) rfl rfl <| WOL.pkt rfl rfl <| WOL.mv rfl <| WOL.skp (b:=true) rfl rfl <| WOL.skp (b:=true) rfl rfl <| WOL.skp (b:=true) rfl rfl <| WOL.skp (b:=true) rfl rfl <| WOL.pkt rfl rfl <| WOL.nil <| WL.yes rfl <| WL.sr <| WOL.cl0 rfl ((k11t K _).mono ?_)
      rintro v g ⟨rfl,rfl⟩
      exact WOL.as rfl <| WOL.nil <| WL.ret (WL.end_ rfl rfl)
    | true =>
      obtain ⟨_,t2,l2,_,lim2⟩:=hok2 rfl
      refine WOL.now (b:=false) rfl rfl <| WOL.nt rfl <| WOL.pkf rfl rfl <| WOL.mv rfl <| WOL.now (b:=false) rfl rfl <| WOL.ix rfl rfl ix1115_0 <| WOL.now (b:=false) rfl rfl <| WOL.fa rfl (fa_of fo1114_0) <| WOL.now (b:=false) rfl rfl <| WOL.ld rfl (load_one tp3 A4 rfl) <| WOL.now (b:=false) rfl rfl <| WOL.ix rfl rfl ix1115_1 <| WOL.now (b:=false) rfl rfl <| WOL.fa rfl (fa_of fo1114_0) <| WOL.now (b:=false) rfl rfl <| WOL.ld rfl (load_one tp3 A4 rfl) <| WOL.now (b:=false) rfl rfl ?_
      by_cases c1:n1 = n2
      · subst c1
        have s1:=(r1.hx Y5).l
        have s2:=(r2.hx Y5).l
        refine WOL.bf rfl rfl rfl (bne_self_eq_false _) <| WOL.pkf rfl rfl <| WOL.mv rfl <| WOL.now (b:=false) rfl rfl <| WOL.ix rfl rfl ix1115_0 <| WOL.now (b:=false) rfl rfl <| WOL.fa rfl (fa_of fo1114_1) <| WOL.now (b:=false) rfl rfl <| WOL.ld rfl (load_one tp29 A4 rfl) <| WOL.now (b:=false) rfl rfl <| WOL.len rfl s1 u29 <| WOL.now (b:=false) rfl rfl <| WOL.ix rfl rfl ix1115_1 <| WOL.now (b:=false) rfl rfl <| WOL.fa rfl (fa_of fo1114_1) <| WOL.now (b:=false) rfl rfl <| WOL.ld rfl (load_one tp29 A4 rfl) <| WOL.now (b:=false) rfl rfl <| WOL.len rfl s2 u29 <| WOL.now (b:=false) rfl rfl ?_
        by_cases c2:L1.length = L2.length
        · refine WOL.bf rfl rfl rfl (bne_eq_false_iff_eq.2 (by omega)) <| WOL.pkf rfl rfl <| WOL.mv rfl <| WOL.now (b:=false) rfl rfl <| WOL.ix rfl rfl ix1115_0 <| WOL.now (b:=false) rfl rfl <| WOL.fa rfl (fa_of fo1114_0) <| WOL.now (b:=false) rfl rfl <| WOL.ld rfl (load_one tp3 A4 rfl) <| WOL.now (b:=false) rfl rfl ?_
          by_cases c3:n1 > 1000000
          · refine WOL.bt rfl rfl rfl (decide_eq_true c3) <| WOL.pkf rfl rfl <| WOL.nil <| WL.yes rfl <| WL.sr <| WOL.cl0 rfl ((k11t K _).mono ?_)
            rintro v g ⟨rfl,rfl⟩
            exact WOL.as rfl <| WOL.nil <| WL.ret (WL.end_ rfl rfl)
          · refine WOL.bf rfl rfl rfl (decide_eq_false c3) <| WOL.pkf rfl rfl <| WOL.nil <| WL.no rfl <| WL.skip ?_
            obtain ⟨p1,p2,p3,p4⟩:=chord_ok ce
            obtain ⟨_,_,m4,_⟩:=trace_ok t1
            obtain ⟨_,_,m4',_⟩:=trace_ok t2
            have hS1:S1.length ≤ 900000:=by
              have e:=holes_back m4
              have:=holesOf_le (knownL S1 L1.length)
              rw [e,knownL_len] at this
              omega
            have hS2:S2.length ≤ 900000:=by
              have e:=holes_back m4'
              have:=holesOf_le (knownL S2 L2.length)
              rw [e,knownL_len] at this
              omega
            obtain ⟨p,rfl⟩:∃ p:Nat,a = p:=⟨a.toNat,by omega⟩
            obtain ⟨q,rfl⟩:∃ q:Nat,b = q:=⟨b.toNat,by omega⟩
            exact kto (k1108a H K Y5 f A3 A4 A5 (r1.hx Y5) (r2.hx Y5) (iI.hx Y5) (by omega) (by omega) (by omega) (by omega) hx1 hx2 hy1 hy2 t1 t2 c2.symm l1 (by omega) (by omega) hS1 hS2 lim1 lim2) ⟨rfl,rfl,rfl,trivial⟩
        · refine WOL.bt rfl rfl rfl (bne_iff_ne.2 (by omega)) <| WOL.pkf rfl rfl <| WOL.mv rfl <| WOL.skp (b:=true) rfl rfl <| WOL.skp (b:=true) rfl rfl <| WOL.skp (b:=true) rfl rfl <| WOL.skp (b:=true) rfl rfl <| WOL.pkt rfl rfl <| WOL.nil <| WL.yes rfl <| WL.sr <| WOL.cl0 rfl ((k11t K _).mono ?_)
          rintro v g ⟨rfl,rfl⟩
          exact WOL.as rfl <| WOL.nil <| WL.ret (WL.end_ rfl rfl)
      · refine WOL.bt rfl rfl rfl (bne_iff_ne.2 c1) <| WOL.pkf rfl rfl <| WOL.mv rfl <| WOL.skp (b:=true) rfl rfl <| WOL.skp (b:=true) rfl rfl <| WOL.skp (b:=true) rfl rfl <| WOL.skp (b:=true) rfl rfl <| WOL.skp (b:=true) rfl rfl <| WOL.skp (b:=true) rfl rfl <| WOL.skp (b:=true) rfl rfl <| WOL.skp (b:=true) rfl rfl <| WOL.skp (b:=true) rfl rfl <| WOL.pkt rfl rfl <| WOL.mv rfl <| WOL.skp (b:=true) rfl rfl <| WOL.skp (b:=true) rfl rfl <| WOL.skp (b:=true) rfl rfl <| WOL.skp (b:=true) rfl rfl <| WOL.pkt rfl rfl <| WOL.nil <| WL.yes rfl <| WL.sr <| WOL.cl0 rfl ((k11t K _).mono ?_)
        rintro v g ⟨rfl,rfl⟩
        exact WOL.as rfl <| WOL.nil <| WL.ret (WL.end_ rfl rfl)
end
set_option maxRecDepth 100000 in
theorem ty_intsI {h:TH} {n:Nat} {ps:List Value} (y:Ty Tryz.prog h (n + 2) 24 ps):∃ v L,ps = [v] ∧ SlL encI 1 h v L ∧ (∀ e',Fits h v e') ∧ IsInts h v L:=by
 unfold Ty at y;rw [u29] at y
 obtain ⟨a,m,cap,rfl,h1,_,⟨rfl,rfl⟩ | ⟨b,c,el,rfl,h2,h3,h4⟩⟩:=y
 ·obtain rfl:m = 0:=by omega
  exact ⟨_,[],rfl,SlC.nil _ _ _,(fun e' b off m cap hv => by cases hv),.inl ⟨rfl,rfl⟩⟩
 ·obtain ⟨l,rfl,rfl⟩:=row_cat (enc:=encI) (fun p y => by obtain ⟨b,e,_⟩:=ty_int y;exact ⟨b,e⟩) m c h4
  refine ⟨_,l,rfl,⟨_,cap,rfl,h1,eI.cat_len l,.inr ⟨b,0,_,true,false,el,rfl,⟨h3,h2⟩,?_,?_⟩⟩,fun e' => Fits.of ⟨h3,h2⟩ (.inl rfl),.inr ⟨b,cap,true,false,el,rfl,h2,?_⟩⟩
  ·rw [List.drop_zero,← eI.cat_len l,List.take_length]
  ·rw [eI.cat_len];omega
  ·rw [cat_I] at h3;exact h3
set_option maxRecDepth 100000 in
theorem ty_trcI {h:TH} {n:Nat} {ps:List Value} (y:Ty Tryz.prog h (n + 4) 27 ps):∃ z v1 v2 L S,ps = [zi z,v1,v2] ∧ TrcH h v1 v2 L S ∧ IsInts h v1 L:=by
 obtain ⟨p,q,rfl,_,y1,p',q',rfl,_,y2,p2,q2,rfl,_,y3,rfl⟩:=tyg_struct Tryz.underlying27 y
 obtain ⟨z,rfl,_⟩:=ty_int y1
 obtain ⟨v1,L,rfl,r1,g1,i1⟩:=ty_intsI y2
 obtain ⟨v2,S,rfl,r2,_⟩:=tyg_slice eS u44 (fun p y => ty_span y) y3
 exact ⟨z,v1,v2,L,S,rfl,⟨r1,r2,g1 3⟩,i1⟩
theorem i8_inT {z:Int} (h:(Lit.int .i8 z).wf = true):-128 ≤ z ∧ z ≤ 127:=by
 have h:(decide (IntKind.i8.min ≤ z) && decide (z ≤ IntKind.i8.max)) = true:=h
 have e1:IntKind.i8.min = -128:=by decide
 have e2:IntKind.i8.max = 127:=by decide
 rw [e1,e2,Bool.and_eq_true] at h
 exact ⟨of_decide_eq_true h.1,of_decide_eq_true h.2⟩
set_option maxRecDepth 100000 in
theorem law1108:Law tpE 10 5 [23,28,90]:=by
 intro h us f ha
 obtain ⟨x0,x1,x2,rfl,⟨p0,y0,e0⟩,⟨p1,y1,e1⟩,⟨p2,y2,e2⟩⟩:=args3 ha
 have q0:=tyg_struct Tryz.underlying23 y0
 have q1:=tyg_array Tryz.underlying28 y1
 have q2:=tyg_array Tryz.underlying90 y2
 rw [val_agg (.inl ⟨_,Tryz.underlying23⟩)] at e0
 rw [val_agg (.inr ⟨_,_,Tryz.underlying28⟩)] at e1
 rw [val_agg (.inr ⟨_,_,Tryz.underlying90⟩)] at e2
 obtain ⟨c0,d0,rfl,_,t0,c1,d1,rfl,_,t1,rfl⟩:=q0
 obtain ⟨a,rfl,_⟩:=ty_int t0
 obtain ⟨b,rfl,_⟩:=ty_int t1
 obtain ⟨c2,d2,rfl,_,t2,c3,d3,rfl,_,t3,rfl⟩:=q1
 obtain ⟨n1,v1,v2,L1,S1,rfl,r1,i1⟩:=ty_trcI t2
 obtain ⟨n2,w1,w2,L2,S2,rfl,r2⟩:=ty_trc t3
 obtain ⟨c4,d4,rfl,_,t4,c5,d5,rfl,_,t5,rfl⟩:=q2
 obtain ⟨x,rfl,hx⟩:=tyg_int u91t t4
 obtain ⟨y,rfl,hy⟩:=tyg_int u91t t5
 obtain ⟨hx1,hx2⟩:=i8_inT hx
 obtain ⟨hy1,hy2⟩:=i8_inT hy
 subst e0 e1 e2
 exact k1108 hasE awkE r1 r2 i1 hx1 hx2 hy1 hy2 f
end Go.Tidy
