/- A part of the proof. -/
import Derived.Test.YtpmijenaggkpdaaGreatPa5
import Derived.Test.YtpmijenaggkpdaaGreatPa2
import Derived.Test.YtpmijenaggkpdaaGreatPa4
set_option linter.all false
namespace Go.Tidy
open Go Go.Proofs Tab
variable {tp:TProg}
theorem mix_len {α:Type} {A B:List α} (h:A.length = B.length) (j:Nat):(A.take j ++ B.drop j).length = B.length:=by simp; omega
theorem mix_get {α:Type} {A B:List α} (h:A.length = B.length) {j:Nat} (hj:j < B.length):(A.take j ++ B.drop j)[j]? = B[j]?:=by
 rw [List.getElem?_append_right (by simp; omega),List.length_take,List.getElem?_drop]
 congr 1; omega
theorem mix_set {α:Type} {A B:List α} (h:A.length = B.length) {j:Nat} {x:α} (hx:A[j]? = some x):(A.take j ++ B.drop j).set j x = A.take (j + 1) ++ B.drop (j + 1):=by
 have hj:j < A.length:=(List.getElem?_eq_some_iff.1 hx).1
 rw [List.set_append_right _ _ (by simp; omega),List.length_take,Nat.min_eq_left (by omega),Nat.sub_self,take_succ_get hx,List.append_assoc]
 congr 1
 rw [List.drop_eq_getElem_cons (by omega:j < B.length)]
 rfl
def sumCell (c d:Int × Bool):Int × Bool:=cond (c.2 && d.2) (c.1 + d.1,true) (0,false)
def sumC (C D:List (Int × Bool)):List (Int × Bool):=List.zipWith sumCell C D
theorem sumC_get {C D:List (Int × Bool)} {j:Nat} {c d:Int × Bool} (hc:C[j]? = some c) (hd:D[j]? = some d):(sumC C D)[j]? = some (sumCell c d):=by
 unfold sumC; rw [List.getElem?_zipWith,hc,hd]
def sumErr (e:Int) (C D:List (Int × Bool)):Int:=cond (e != 0) e (cond (allOk (sumC C D)) 0 4)
theorem bd134z:buildT Tryz.prog 70 [] = some (.agg #[.int .i64 0,.bool false]):=by kernel_rfl
theorem sumBody {h hb g:TH} {b7 b8 c2 c4 j:Nat} {M C D:List (Int × Bool)} {c d:Int × Bool} {R:Exit → Regs → TH → Prop} (f:Free0 h.next h) (hC:C.length ≤ 1000000) (lc:c.1.natAbs ≤ 16384) (ld:d.1.natAbs ≤ 16384)
    (hm:M[j]? = some c) (hd:D[j]? = some d) (ml:M.length = C.length) (hlt:j < C.length)
    (X:HX h hb) (Y:HX hb g) (h7:At g b7 (.cells (cat encC M) true true 70)) (h8:At g b8 (.cells (cat encC D) true true 70)) (hn:b7 ≠ b8) (ho:hb.next ≤ b7)
    (K:∀ g',HX hb g' → At g' b7 (.cells (cat encC (M.set j (sumCell c d))) true true 70) → At g' b8 (.cells (cat encC D) true true 70) → ∀ a,Kn [(2,ptr c2),(4,ptr c4),(7,.slice (some ⟨b7,0,none⟩) C.length C.length),(30,.slice (some ⟨b8,0,none⟩) D.length D.length),(31,zi C.length),(32,zi (j:Nat))] a → R .normal a g') :
    ∀ a,Kn [(2,ptr c2),(4,ptr c4),(7,.slice (some ⟨b7,0,none⟩) C.length C.length),(30,.slice (some ⟨b8,0,none⟩) D.length D.length),(31,zi C.length),(32,zi (j:Nat)),(33,.bool true)] a →
      W Tryz.prog tp false (.block 1 (.seq (.reg r50_7) (.seq (.seq (.reg r50_8) (.cond (.tmp 47) (.seq (.reg r50_9) (.exit 1)) .skip)) (.reg r50_10)))) a g R:=by
  have sl8:SlL encC 2 g (.slice (some ⟨b8,0,none⟩) D.length D.length) D:=SlL.own eC h8 rfl
  obtain ⟨b,o,cc,fix,wr,el,e1,e2,e3,e4,e5⟩:=sl8.at eC u135 tp134 hd .i64
  have ix7:indexAddrT Tryz.prog 66 (.slice (some ⟨b7,0,none⟩) C.length C.length) (.int .i64 (j:Nat)) = some (.pointer (some ⟨b7,0 + j * 2,none⟩)):=indexAddr_tp u135 tp134 hlt
  have g0:(cat encC M)[0 + j * 2 + 0]? = some (.int .i64 c.1):=by rw [show 0 + j * 2 + 0 = j * 2 + 0 by omega]; exact eC.get hm (q:=0) (by omega)
  have g1:(cat encC M)[0 + j * 2 + 1]? = some (.bool c.2):=by rw [show 0 + j * 2 + 1 = j * 2 + 1 by omega]; exact eC.get hm (q:=1) (by omega)
  have lt7:=h7.lt
  have lt8:=h8.lt
  have xh:HX h g:=X.trans Y
  have xn:=X.next
  refine WL.block ?_
  refine WL.sr <| WOL.mv rfl <| WOL.ix rfl rfl e1 <| WOL.ld rfl (load_row tp134 e2 e4 e3) ?_
  refine WOL.al tp134 fun h3 N3 => WOL.as rfl <| WOL.sto rfl rfl tp134 N3.at_ rfl rfl (Nat.le_of_ble_eq_true rfl) rfl (f.hx (xh.trans N3.hx)) xh.next fun h4 P4 => WOL.nil <| keep [(2,_),(4,_),(7,_),(9,_),(10,_),(30,_),(31,_),(32,_)] ⟨rfl,rfl,rfl,rfl,rfl,rfl,rfl,rfl,trivial⟩ ?_
  have X4:HX hb h4:=P4.hx _ (Y.trans N3.hx) Y.next
  have xh4:HX h h4:=X.trans X4
  have B7:=P4.oth _ _ (by omega) (h7.hx N3.hx)
  have B8:=P4.oth _ _ (by omega) (h8.hx N3.hx)
  have B10:At h4 g.next (.cells [.int .i64 d.1,.bool d.2] true true 70):=P4.at_
  have no:sumCell c d = (0,false) → ∀ a,Kn [(2,ptr c2),(4,ptr c4),(7,.slice (some ⟨b7,0,none⟩) C.length C.length),(9,zi (j:Nat)),(30,.slice (some ⟨b8,0,none⟩) D.length D.length),(31,zi C.length),(32,zi (j:Nat)),(47,.bool true)] a →
      W Tryz.prog tp false (.cond (.tmp 47) (.seq (.reg r50_9) (.exit 1)) .skip) a h4 (andThen (fun a h => W Tryz.prog tp false (.reg r50_10) a h (leaves 1 R)) (leaves 1 R)):=by
    intro hx
    refine WL.yes rfl <| WL.sr <| WOL.mv rfl <| WOL.mv rfl <| WOL.bd rfl bd134z <| WOL.ix rfl rfl ix7 ?_
    refine WOL.sto rfl rfl tp134 B7 rfl rfl (by rw [eC.cat_len,ml]; omega) rfl (f.hx xh4) (by omega) fun h5 P5 => WOL.nil ?_
    have C7:=P5.at_
    rw [show 0 + j * 2 = j * 2 by omega,show (Value.agg #[.int .i64 0,.bool false]).cells.toList = encC (0,false) from rfl,eC.set (by omega),← hx] at C7
    exact WL.exit (kto (K h5 (P5.hx _ X4 ho) C7 (P5.oth _ _ (Ne.symm hn) B8)) ⟨rfl,rfl,rfl,rfl,rfl,rfl,trivial⟩)
  refine WL.seq <| WL.sr <| WOL.mv rfl <| WOL.mv rfl <| WOL.ix rfl rfl ix7 <| WOL.fa rfl (fa_of fo134_1) <| WOL.ld rfl (load_one tp4 B7 g1) <| WOL.nt rfl ?_
  cases hk:c.2 with
  | false =>
    refine WOL.mv rfl <| WOL.skp (b:=true) rfl rfl <| WOL.skp (b:=true) rfl rfl <| WOL.skp (b:=true) rfl rfl <| WOL.pkt rfl rfl <| WOL.nil ?_
    exact kto (no (by simp [sumCell,hk])) ⟨rfl,rfl,rfl,rfl,rfl,rfl,rfl,rfl,trivial⟩
  | true =>
    refine WOL.mv rfl <| WOL.now (b:=false) rfl rfl <| WOL.fa rfl (fa_of fo134_1) <| WOL.now (b:=false) rfl rfl <| WOL.ld rfl (load_one tp4 B10 rfl) <| WOL.now (b:=false) rfl rfl <| WOL.nt rfl <| WOL.pkf rfl rfl <| WOL.nil ?_
    cases hk2:d.2 with
    | false => exact kto (no (by simp [sumCell,hk2])) ⟨rfl,rfl,rfl,rfl,rfl,rfl,rfl,rfl,trivial⟩
    | true =>
      refine WL.no rfl <| WL.skip ?_
      refine WL.reg <| WOL.mv rfl <| WOL.mv rfl <| WOL.ix rfl rfl ix7 <| WOL.fa rfl (fa_of fo134_0) <| WOL.ld rfl (load_one tp3 B7 g0) <| WOL.fa rfl (fa_of fo134_0) <| WOL.ld rfl (load_one tp3 B10 rfl) ?_
      refine WOL.bi (v:=zi (c.1 + d.1)) rfl rfl (by show some (Value.int .i64 (fwrap .i64 (c.1 + d.1))) = _; rw [fwrap_i64 (by omega) (by omega)]) ?_
      refine WOL.ix rfl rfl ix7 <| WOL.fa rfl (fa_of fo134_0) ?_
      refine WOL.sto rfl rfl tp3 B7 rfl rfl (by rw [eC.cat_len,ml]; omega) rfl (f.hx xh4) (by omega) fun h5 P5 => WOL.nil ?_
      have C7:=P5.at_
      have hset:splice (cat encC M) (0 + j * 2 + 0) [Value.int .i64 (c.1 + d.1)] = cat encC (M.set j (sumCell c d)):=by
        rw [← eC.set (by omega),show sumCell c d = (c.1 + d.1,true) by simp [sumCell,hk,hk2]]
        apply List.ext_getElem?
        intro q
        rw [hk] at g1
        rw [splice_at _ _ _ (by rw [eC.cat_len,ml]; simp; omega),splice_at _ _ _ (by rw [eC.cat_len,ml]; show _ + 2 ≤ _; omega)]
        show (if 0 + j * 2 + 0 ≤ q ∧ q < 0 + j * 2 + 0 + 1 then _ else _) = if j * 2 ≤ q ∧ q < j * 2 + 2 then _ else _
        by_cases q0:q = j * 2
        · subst q0; rw [if_pos (by omega),if_pos (by omega),show j * 2 - (0 + j * 2 + 0) = 0 by omega,show j * 2 - j * 2 = 0 by omega]; rfl
        · by_cases q1:q = j * 2 + 1
          · subst q1; rw [if_neg (by omega),if_pos (by omega),show j * 2 + 1 - j * 2 = 1 by omega,show j * 2 + 1 = 0 + j * 2 + 1 by omega,g1]; rfl
          · rw [if_neg (by omega),if_neg (by omega)]
      rw [show (zi (c.1 + d.1)).cells.toList = [Value.int .i64 (c.1 + d.1)] from rfl,hset] at C7
      exact kto (K h5 (P5.hx _ X4 ho) C7 (P5.oth _ _ (Ne.symm hn) B8)) ⟨rfl,rfl,rfl,rfl,rfl,rfl,trivial⟩
theorem sumLoop {h hb g:TH} {b7 b8 c2 c4:Nat} {C D:List (Int × Bool)} {Q:Exit → Regs → TH → Prop} (f:Free0 h.next h) (hl:D.length = C.length) (hC:C.length ≤ 1000000) (limC:∀ c,c ∈ C → c.1.natAbs ≤ 16384) (limD:∀ c,c ∈ D → c.1.natAbs ≤ 16384)
    (X:HX h hb) (Y:HX hb g) (h7:At g b7 (.cells (cat encC C) true true 70)) (h8:At g b8 (.cells (cat encC D) true true 70)) (hn:b7 ≠ b8) (ho:hb.next ≤ b7)
    (K:∀ g',HX hb g' → At g' b7 (.cells (cat encC (sumC C D)) true true 70) → ∀ a,Kn [(2,ptr c2),(4,ptr c4),(7,.slice (some ⟨b7,0,none⟩) C.length C.length)] a → Q (.exit 0) a g') :
    ∀ a,Kn [(2,ptr c2),(4,ptr c4),(7,.slice (some ⟨b7,0,none⟩) C.length C.length),(30,.slice (some ⟨b8,0,none⟩) D.length D.length),(31,zi C.length),(32,zi 0)] a →
      W Tryz.prog tp false (.loop (.seq (.reg r50_6) (.seq (.cond (.tmp 33) .skip (.exit 0)) (.seq (.block 1 (.seq (.reg r50_7) (.seq (.seq (.reg r50_8) (.cond (.tmp 47) (.seq (.reg r50_9) (.exit 1)) .skip)) (.reg r50_10)))) (.reg r50_11))))) a g Q:=by
  have hsl:(sumC C D).length = C.length:=by simp [sumC,hl]
  refine WL.loop (fun k a h2 => ∃ j:Nat,j ≤ C.length ∧ k = C.length - j ∧ HX hb h2 ∧ At h2 b7 (.cells (cat encC ((sumC C D).take j ++ C.drop j)) true true 70) ∧ At h2 b8 (.cells (cat encC D) true true 70) ∧
    Kn [(2,ptr c2),(4,ptr c4),(7,.slice (some ⟨b7,0,none⟩) C.length C.length),(30,.slice (some ⟨b8,0,none⟩) D.length D.length),(31,zi C.length),(32,zi (j:Nat))] a) C.length (fun a q => ⟨0,by omega,by omega,Y,by simpa using h7,h8,q.sub ⟨rfl,rfl,rfl,rfl,rfl,rfl,trivial⟩⟩) ?_
  rintro k a h2 ⟨j,hj,rfl,X2,A7,A8,q⟩
  refine q.go ?_
  refine WL.sr <| WOL.bi (v:=.bool (decide ((j:Int) < C.length))) rfl rfl rfl ?_
  refine WOL.nil <| keep [(2,_),(4,_),(7,_),(30,_),(31,_),(32,_),(33,_)] ⟨rfl,rfl,rfl,rfl,rfl,rfl,rfl,trivial⟩ ?_
  by_cases hlt:j < C.length
  · rw [show decide ((j:Int) < (C.length:Int)) = true by simpa using hlt]
    have hc:C[j]? = some C[j]:=List.getElem?_eq_getElem hlt
    have hd:D[j]? = some D[j]:=List.getElem?_eq_getElem (by omega)
    have hs:=sumC_get hc hd
    have hm:((sumC C D).take j ++ C.drop j)[j]? = some C[j]:=by rw [mix_get hsl hlt,hc]
    refine WL.seq <| WL.yes rfl <| WL.skip <| WL.seq ?_
    refine sumBody f hC (limC _ (List.mem_of_getElem? hc)) (limD _ (List.mem_of_getElem? hd)) hm hd (mix_len hsl j) hlt X X2 A7 A8 hn ho ?_
    intro h5 X5 D7 D8
    rw [mix_set hsl hs] at D7
    refine WL.reg <| WOL.bi (v:=zi ((j + 1:Nat):Int)) rfl rfl (by show some (Value.int .i64 (fwrap .i64 ((j:Int) + 1))) = _; rw [fwrap_i64 (by omega) (by omega)]; rfl) ?_
    refine WOL.mv rfl <| WOL.nil ?_
    exact fun a q => ⟨C.length - (j + 1),by omega,j + 1,by omega,rfl,X5,D7,D8,q.sub ⟨rfl,rfl,rfl,rfl,rfl,rfl,trivial⟩⟩
  · rw [show decide ((j:Int) < (C.length:Int)) = false by simpa using hlt]
    refine WL.seq <| WL.no rfl <| WL.exit ?_
    obtain rfl:j = C.length:=by omega
    rw [List.drop_length,List.append_nil,List.take_of_length_le (by omega)] at A7
    exact kto (K h2 X2 A7) ⟨rfl,rfl,rfl,trivial⟩
end Go.Tidy
namespace Go.Tidy
open Go Go.Proofs Tab
variable {tp:TProg}
theorem nzero {z:Int}:fastBin .neq (.int .i64 z) (.int .i64 0) = some (.bool (z != 0)):=rfl
def twoE (E1 E2:Int) (n:Int) (m:Nat) (n':Int) (m':Nat):Int:=firstNZ [E1,E2,cond (!shapeB n m n' m') 2 0]
theorem twoE_zero {E1 E2 n n':Int} {m m':Nat} (h:twoE E1 E2 n m n' m' = 0):E1 = 0 ∧ E2 = 0 ∧ n' = n ∧ m' = m:=by
 have z:=firstNZ_zero h
 have h1:=z E1 (by simp)
 have h2:=z E2 (by simp)
 have h3:=z (cond (!shapeB n m n' m') 2 0) (by simp)
 cases hb:shapeB n m n' m' with
 | false => rw [hb] at h3; cases h3
 | true => simp [shapeB] at hb; omega
set_option maxHeartbeats 1000000 in
set_option maxRecDepth 10000 in
theorem k50 (H:Has tp) (X:HasX tp) {s s':ByteArray} {n n':Int} {v1 v2 w1 w2:Value} {F G:List Nat} {S T:List (Int × Int)} {es L es' L':List Int} {h:TH} (r:RunH h v1 v2 F S) (r':RunH h w1 w2 G T) (hE:SErr F es) (hL:firstNZ es = 0 → Lev F L) (hE':SErr G es') (hL':firstNZ es' = 0 → Lev G L')
  (hF:F.length ≤ 900000) (hS:S.length ≤ 900000) (hG:G.length ≤ 900000) (hT:T.length ≤ 900000) (f:Free0 h.next h) :
  CallW Tryz.prog tp (.func (.func 20) #[] #[]) #[runV s n v1 v2,runV s' n' w1 w2] h fun v h' => RunR h h' v s n (sumC (cellsL L S) (cellsL L' T)) (sumErr (twoE (runE s n F.length S es L) (runE s' n' G.length T es' L') n F.length n' G.length) (cellsL L S) (cellsL L' T)):=by
 refine CallW.fnL (H.fn 20 f50 rfl rfl) ?_
 obtain ⟨bv1,kv1,rfl⟩:=r.f.form
 obtain ⟨bv2,kv2,rfl⟩:=r.s.form
 obtain ⟨bw1,kw1,rfl⟩:=r'.f.form
 obtain ⟨bw2,kw2,rfl⟩:=r'.s.form
 refine WL.sr <| WOL.box rfl fun h1 N1 => ?_
 refine WOL.box rfl fun h2 N2 => ?_
 refine WOL.al tp52 fun h3 N3 => ?_
 have n1:=N1.next
 have n2:=N2.next
 have n3:=N3.next
 have X3:HX h h3:=(N1.hx.trans N2.hx).trans N3.hx
 have A2:=(N1.at_.hx N2.hx).hx N3.hx
 have A3:=N2.at_.hx N3.hx
 have A4:=N3.at_
 refine WOL.as rfl <| WOL.nil <| keep [(2,_),(3,_),(4,_)] ⟨rfl,rfl,rfl,trivial⟩ ?_
 refine WL.seq <| WL.sr <| WOL.ld rfl (load_row tp52 A2 rfl (Nat.le_of_ble_eq_true rfl)) <| WOL.ld rfl (load_row tp52 A3 rfl (Nat.le_of_ble_eq_true rfl)) <| WOL.ld rfl (load_row tp52 A2 rfl (Nat.le_of_ble_eq_true rfl)) <| WOL.ld rfl (load_row tp52 A3 rfl (Nat.le_of_ble_eq_true rfl)) ?_
 refine WOL.lq1 [h1.next,h.next,h1.next] rfl rfl rfl fun M hM => ((k41 H X (s:=s) (n:=n) ((r.hx X3).relock' M) hE hL (by omega) (by omega) ((f.on X3).held hM (fun b hb => by simp at hb; omega))).mono ?_)
 rintro v h4 ⟨rfl,X4⟩
 replace X4:=X4.relock
 generalize h4.withLock h3.lock = h4 at *
 have Y4:=X3.trans X4
 have y4:=X4.next
 refine WOL.lq1 [h1.next,h.next] rfl rfl rfl fun M hM => ((k41 H X (s:=s') (n:=n') ((r'.hx Y4).relock' M) hE' hL' (by omega) (by omega) ((f.on Y4).held hM (fun b hb => by simp at hb; omega))).mono ?_)
 rintro v h5 ⟨rfl,X5⟩
 replace X5:=X5.relock
 generalize h5.withLock h4.lock = h5 at *
 have Y5:=Y4.trans X5
 refine WOL.cl2 rfl rfl rfl ((k109 H (s:=s) (s':=s') (n:=n) (n':=n') (r.f.hx Y5) (r'.f.hx Y5)).mono ?_)
 rintro v h6 ⟨rfl,X6⟩
 have Y6:=Y5.trans X6
 refine WOL.nt rfl <| WOL.cl2 rfl rfl rfl ((k77 H _ _ _).mono ?_)
 rintro v h6 ⟨rfl,rfl⟩
 refine WOL.bsl rfl u166 tp30 (by decide) (by decide) (by decide) (filled_ints3 _ _ _) fun h8 N8 => ?_
 refine WOL.cl1 rfl rfl ((k71 H (l:=[_,_,_]) N8.at_.get (by simp)).mono ?_)
 rintro v h8 ⟨rfl,rfl⟩
 have Y8:=Y6.trans N8.hx
 have Z8:=((X4.trans X5).trans X6).trans N8.hx
 replace A2:=A2.hx Z8
 replace A3:=A3.hx Z8
 replace A4:=A4.hx Z8
 have lt4:=A4.lt
 have z8:=Z8.next
 generalize hEE:firstNZ [runE s n F.length S es L,runE s' n' G.length T es' L',cond (!shapeB n F.length n' G.length) 2 0] = E
 have hE0:twoE (runE s n F.length S es L) (runE s' n' G.length T es' L') n F.length n' G.length = E:=hEE
 rw [hE0]
 refine WOL.as rfl <| WOL.nil <| keep [(2,_),(3,_),(4,_),(6,_)] ⟨rfl,rfl,rfl,rfl,trivial⟩ ?_
 refine WL.sr <| WOL.mv rfl <| WOL.bi rfl rfl nzero <| WOL.nil <| keep [(2,_),(3,_),(4,_),(6,_),(23,_)] ⟨rfl,rfl,rfl,rfl,rfl,trivial⟩ ?_
 rcases nz_cases E with h0 | h0
 ·rw [h0]
  obtain ⟨z1,z2,z3,z4⟩:=twoE_zero (hE0.trans h0)
  have V:=valid_of hL z1
  have V':=valid_of hL' z2
  have Vm:=V.m
  have hcl:(cellsL L S).length = F.length:=cells_len V.lev V.in_
  have hcl':(cellsL L' T).length = G.length:=cells_len V'.lev V'.in_
  have lim:=cells_lim V.lev S
  have lim':=cells_lim V'.lev T
  refine WL.no rfl <| WL.skip ?_
  refine WL.sr <| WOL.ld rfl (load_row tp52 A2 rfl (Nat.le_of_ble_eq_true rfl)) <| WOL.ld rfl (load_row tp52 A3 rfl (Nat.le_of_ble_eq_true rfl)) ?_
  refine WOL.lq1 [h1.next] rfl rfl rfl fun M hM => ((k85 H (s:=s) (n:=n) ((r.hx Y8).relock' M) V.lev (by omega) (by omega) V.in_ ((f.on Y8).held hM (fun b hb => by simp at hb; omega))).mono ?_)
  rintro v g1 ⟨b7,rfl,o7,A7,X7⟩
  replace A7:=A7.relock h8.lock
  replace X7:=X7.relock
  replace o7:h8.next ≤ b7:=o7
  generalize g1.withLock h8.lock = g1 at *
  have Y9:=Y8.trans X7
  refine WOL.cl1 rfl rfl ((k85 H (s:=s') (n:=n') (r'.hx Y9) V'.lev (by omega) (by omega) V'.in_ (f.on Y9)).mono ?_)
  rintro v g2 ⟨b8,rfl,o8,A8,X8⟩
  have lt7:=A7.lt
  have Z2:=X7.trans X8
  refine WOL.as rfl <| WOL.as rfl <| WOL.nil <| keep [(2,_),(4,_),(7,_),(8,_)] ⟨rfl,rfl,rfl,rfl,trivial⟩ ?_
  rw [← hcl,← hcl']
  refine WL.seq <| WL.sr <| WOL.mv rfl <| WOL.len rfl (SlL.own eC A8 rfl) u135 <| WOL.mv rfl <| WOL.nil ?_
  refine WL.block ?_
  have hDC:(cellsL L' T).length = (cellsL L S).length:=by omega
  rw [hDC]
  refine kto (sumLoop (c2:=h.next) (c4:=h2.next) (f:=f) (hl:=hDC) (hC:=by omega) lim lim' Y8 Z2 (A7.hx X8) A8 (by omega) o7 ?_) ⟨rfl,rfl,rfl,by rw [hDC]; rfl,rfl,rfl,trivial⟩
  intro g3 X9 B7
  have Y10:=Y8.trans X9
  have C2:=A2.hx X9
  have C4:=A4.hx X9
  have hsl:(sumC (cellsL L S) (cellsL L' T)).length = (cellsL L S).length:=by simp [sumC]; omega
  have sl7:SlL encC 2 g3 (.slice (some ⟨b7,0,none⟩) (cellsL L S).length (cellsL L S).length) (sumC (cellsL L S) (cellsL L' T)):=SlL.own eC B7 hsl
  refine WL.seq <| WL.sr <| WOL.mv rfl <| WOL.cl1 rfl rfl ((k104 H sl7 (by omega)).mono ?_)
  rintro v g4 ⟨rfl,X10⟩
  have Y11:=Y10.trans X10
  refine WOL.nt rfl <| WOL.nil <| keep [(2,_),(4,_),(7,_),(65,_)] ⟨rfl,rfl,rfl,rfl,trivial⟩ ?_
  cases hok:allOk (sumC (cellsL L S) (cellsL L' T)) with
  | false =>
   refine WL.yes rfl <| WL.sr <| WOL.bd rfl bd52z ?_
   refine WOL.sto rfl rfl tp52 (C4.hx X10) rfl rfl (Nat.le_of_ble_eq_true rfl) rfl (f.hx Y11) (by omega) fun g5 P5 => ?_
   refine WOL.as rfl <| WOL.nil ?_
   refine WL.ret (WL.endC1 (t:=4) (s:=5) rfl rfl (load_row tp52 P5.at_ rfl (Nat.le_of_ble_eq_true rfl)) ⟨P5.hx _ Y11 (by omega),.inl ⟨?_,?_⟩⟩)
   ·unfold sumErr; rw [hok]; decide
   ·unfold sumErr; rw [hok]; rfl
  | true =>
   refine WL.no rfl <| WL.skip ?_
   refine WL.sr <| WOL.fa rfl (fa_of fo52_0) <| WOL.ld rfl (load_one tp9 (C2.hx X10) rfl) <| WOL.fa rfl (fa_of fo52_1) <| WOL.ld rfl (load_one tp3 (C2.hx X10) rfl) <| WOL.mv rfl ?_
   refine WOL.cl3 rfl rfl rfl rfl ((k89 H (s:=s) (n:=n) (sl7.hx X10) (allOk_iff.1 hok) (by omega) (f.on Y11)).mono ?_)
   rintro v g5 ⟨q1,q2,rfl,X11,O5⟩
   have Y12:=Y11.trans X11
   have y11:=Y11.next
   have z9:=X9.next
   have z10:=X10.next
   obtain ⟨bo1,k1,rfl⟩:=O5.r.f.form
   obtain ⟨bo2,k2,rfl⟩:=O5.r.s.form
   refine WOL.sto rfl rfl tp52 ((C4.hx X10).hx X11) rfl rfl (Nat.le_of_ble_eq_true rfl) rfl (f.hx Y12) (by omega) fun g6 P6 => ?_
   refine WOL.as rfl <| WOL.nil ?_
   refine WL.ret (WL.endC1 (t:=4) (s:=5) rfl rfl (load_row tp52 P6.at_ rfl (Nat.le_of_ble_eq_true rfl)) ⟨P6.hx _ Y12 (by omega),.inr ⟨?_,_,_,rfl,(O5.away P6 (by omega)).le (by omega)⟩⟩)
   unfold sumErr; rw [hok]; rfl
 ·rw [h0]
  refine WL.yes rfl <| WL.sr <| WOL.bd rfl bd52z <| WOL.mv rfl ?_
  refine WOL.sto rfl rfl tp52 A4 rfl rfl (Nat.le_of_ble_eq_true rfl) rfl (f.hx Y8) (by omega) fun g5 P5 => ?_
  refine WOL.as rfl <| WOL.nil ?_
  have hse:sumErr E (cellsL L S) (cellsL L' T) = E:=by unfold sumErr; rw [h0]; rfl
  rw [hse]
  exact WL.ret (WL.endC1 (t:=4) (s:=5) rfl rfl (load_row tp52 P5.at_ rfl (Nat.le_of_ble_eq_true rfl)) ⟨P5.hx _ Y8 (by omega),.inl ⟨by simpa using h0,rfl⟩⟩)
end Go.Tidy
namespace Go.Tidy
open Go Go.Proofs Tab
variable {tp:TProg}
theorem rnd_zero {b:Int} (hb:0 < b):rnd 0 b = 0:=by
 unfold rnd
 exact Int.ediv_eq_zero_of_lt (by omega) (by omega)
def scCell (m d:Int) (c:Int × Bool):Int × Bool:=(rnd (c.1 * m) d,c.2)
def scC (m d:Int) (C:List (Int × Bool)):List (Int × Bool):=C.map (scCell m d)
theorem mul_small {x m:Int} {B N:Nat} (hx:x.natAbs ≤ B) (hm:m.natAbs ≤ N):(x * m).natAbs ≤ B * N:=by
 rw [Int.natAbs_mul]; exact Nat.mul_le_mul hx hm
theorem k102 (H:Has tp) {c:Int × Bool} {m d:Int} {c4 c5:Nat} {h:TH} (hc:c.1.natAbs ≤ 16384) (A4:At h c4 (.cells [zi m] true true 3)) (A5:At h c5 (.cells [zi d] true true 3)) (hm:m.natAbs ≤ 1000) (hd:0 < d) (hd2:d ≤ 1000) (f:Free0 h.next h) :
  CallW Tryz.prog tp (.func (.func 50) #[] #[ptr c4,ptr c5]) #[.agg #[.int .i64 c.1,.bool c.2]] h fun v h' => v = .agg #[.int .i64 (scCell m d c).1,.bool (scCell m d c).2] ∧ HX h h':=by
 have hp:(c.1 * m).natAbs ≤ 16384 * 1000:=mul_small hc hm
 refine CallW.fnC (H.fn 50 f102 rfl rfl) ?_
 refine WL.sr <| WOL.box rfl fun h1 N1 => ?_
 refine WOL.al tp134 fun h2 N2 => ?_
 refine WOL.nil <| keep [(1,_),(2,_),(3,_),(4,_)] ⟨rfl,rfl,rfl,rfl,trivial⟩ ?_
 have X2:=N1.hx.trans N2.hx
 have A3:=N1.at_.hx N2.hx
 refine WL.sr <| WOL.fa rfl (fa_of fo134_0) ?_
 refine WOL.ld rfl (load_one tp3 A3 rfl) ?_
 refine WOL.ld rfl (load_one tp3 (A4.hx X2) rfl) ?_
 refine WOL.mul rfl rfl (by omega) (by omega) ?_
 refine WOL.ld rfl (load_one tp3 (A5.hx X2) rfl) ?_
 refine WOL.fa rfl (fa_of fo134_1) ?_
 refine WOL.ld rfl (load_one tp4 A3 rfl) ?_
 refine WOL.lk2 rfl rfl rfl fun M => ((k103 H (a:=c.1 * m) (b:=d) (by omega) hd (by omega)).mono ?_)
 rintro v h3 ⟨rfl,rfl⟩
 have X3:HX h2 ((h2.withLock M).withLock h2.lock):=(HX.refl _).relock
 generalize (h2.withLock M).withLock h2.lock = h3 at *
 have Y3:=X2.trans X3
 refine WOL.bd rfl bd134 ?_
 have n1:=N1.next
 refine WOL.sto rfl rfl tp134 (N2.at_.hx X3) rfl rfl (Nat.le_of_ble_eq_true rfl) rfl (f.hx Y3) (by omega) fun h4 P4 => ?_
 refine WOL.nil <| keep [(4,_)] ⟨rfl,trivial⟩ ?_
 exact WL.ret (WL.endC rfl (load_row tp134 P4.at_ rfl (Nat.le_of_ble_eq_true rfl)) ⟨rfl,P4.hx _ Y3 (by omega)⟩)
theorem k101 (H:Has tp) {v:Value} {C:List (Int × Bool)} {m d:Int} {c4 c5:Nat} {h:TH} (s:SlL encC 2 h v C) (hS:∀ c,c ∈ C → c.1.natAbs ≤ 16384) (hC:C.length ≤ 1000000) (A4:At h c4 (.cells [zi m] true true 3)) (A5:At h c5 (.cells [zi d] true true 3)) (hm:m.natAbs ≤ 1000) (hd:0 < d) (hd2:d ≤ 1000) (f:Free0 h.next h) :
  CallW Tryz.prog tp (.func (.func 49) #[] #[]) #[v,.func (.func 50) #[] #[ptr c4,ptr c5]] h fun v' h' => ∃ b,v' = .slice (some ⟨b,0,none⟩) C.length C.length ∧ h.next ≤ b ∧ At h' b (.cells (cat encC (scC m d C)) true true 70) ∧ HX h h':=by
 refine CallW.fnL (H.fn 49 f101 rfl rfl) ?_
 refine WL.sr <| WOL.as rfl <| WOL.nil <| keep [(0,_),(1,_)] ⟨rfl,rfl,trivial⟩ ?_
 refine WL.sr <| WOL.mv rfl ?_
 refine WOL.len rfl s u135 ?_
 refine WOL.ms rfl rfl u135 tp134 (by decide) (by omega) fun h1 N1 => ?_
 refine WOL.as rfl <| WOL.nil <| keep [(0,_),(1,_),(5,_)] ⟨rfl,rfl,rfl,trivial⟩ ?_
 refine WL.seq ?_
 refine WL.sr <| WOL.mv rfl ?_
 refine WOL.len rfl (s.hx N1.hx) u135 ?_
 refine WOL.mv rfl <| WOL.nil <| keep [(1,_),(5,_),(11,_),(12,_),(13,_)] ⟨rfl,rfl,rfl,rfl,rfl,trivial⟩ ?_
 have hlen:(scC m d C).length = C.length:=by simp [scC]
 have A1:At h1 h.next (.cells (cat encC ((scC m d C).take 0 ++ List.replicate ((scC m d C).length - 0) ((0:Int),false))) true true 70):=by
  rw [fill_zero,hlen,← Enc.rep]; exact N1.at_
 refine WL.block ?_
 refine WL.loop (fun k a h2 => ∃ j:Nat,j ≤ C.length ∧ k = C.length - j ∧ HX h h2 ∧ At h2 h.next (.cells (cat encC ((scC m d C).take j ++ List.replicate ((scC m d C).length - j) ((0:Int),false))) true true 70) ∧ Kn [(1,.func (.func 50) #[] #[ptr c4,ptr c5]),(5,.slice (some ⟨h.next,0,none⟩) C.length C.length),(11,v),(12,zi C.length),(13,zi (j:Nat))] a) C.length (fun a q => ⟨0,by omega,by omega,N1.hx,A1,q.sub ⟨rfl,rfl,rfl,rfl,rfl,trivial⟩⟩) ?_
 rintro k a h2 ⟨j,hj,rfl,X2,A2,q⟩
 refine q.go ?_
 refine WL.sr ?_
 refine WOL.bi (v:=.bool (decide ((j:Int) < C.length))) rfl rfl rfl ?_
 refine WOL.nil <| keep [(1,_),(5,_),(11,_),(12,_),(13,_),(14,_)] ⟨rfl,rfl,rfl,rfl,rfl,rfl,trivial⟩ ?_
 refine WL.seq ?_
 by_cases hlt:j < C.length
 ·rw [show decide ((j:Int) < (C.length:Int)) = true by simpa using hlt]
  refine WL.yes rfl <| WL.skip ?_
  have hC1:C[j]? = some C[j]:=List.getElem?_eq_getElem hlt
  have hl1:=hS _ (List.mem_of_getElem? hC1)
  generalize C[j] = c at *
  have hR1:(scC m d C)[j]? = some (scCell m d c):=by unfold scC; rw [List.getElem?_map,hC1]; rfl
  obtain ⟨b,o,cc,fix,wr,el,e1,e2,e3,e4,e5⟩:=(s.hx X2).at eC u135 tp134 hC1 .i64
  refine WL.seq ?_
  refine WL.block ?_
  refine WL.sr <| WOL.mv rfl ?_
  refine WOL.ix rfl rfl e1 ?_
  refine WOL.ld rfl (load_row tp134 e2 e4 e3) ?_
  refine WOL.al tp134 fun h3 N3 => ?_
  refine WOL.as rfl ?_
  refine WOL.sto rfl rfl tp134 N3.at_ rfl rfl (Nat.le_of_ble_eq_true rfl) rfl (f.hx (X2.trans N3.hx)) X2.next fun h4 P4 => ?_
  have X4:=P4.hx _ (X2.trans N3.hx) X2.next
  have l2:h.next < h2.next:=A2.lt
  have A4':=P4.oth _ _ (by omega) (A2.hx N3.hx)
  refine WOL.nil <| keep [(1,_),(5,_),(6,_),(7,_),(11,_),(12,_),(13,_)] ⟨rfl,rfl,rfl,rfl,rfl,rfl,rfl,trivial⟩ ?_
  refine WL.reg <| WOL.mv rfl <| WOL.mv rfl <| WOL.mv rfl ?_
  refine WOL.ld rfl (load_row tp134 P4.at_ rfl (Nat.le_of_ble_eq_true rfl)) ?_
  refine WOL.cl1 rfl rfl ((k102 H (c:=c) (m:=m) (d:=d) hl1 (A4.hx X4) (A5.hx X4) hm hd hd2 (f.on X4)).mono ?_)
  rintro v5 h5 ⟨rfl,X5⟩
  have Y5:=X4.trans X5
  refine WOL.ix rfl rfl (indexAddr_tp u135 tp134 hlt) ?_
  refine WOL.sto rfl rfl tp134 (A4'.hx X5) rfl rfl (by rw [eC.cat_len,fill_len _ _ _ (by omega)]; omega) rfl (f.hx Y5) (Nat.le_refl _) fun h6 P6 => ?_
  have A6:=P6.at_
  rw [show (0:Nat) + j * 2 = j * 2 by omega,show (Value.agg #[.int .i64 (scCell m d c).1,.bool (scCell m d c).2]).cells.toList = encC (scCell m d c) from rfl,eC.set (by rw [fill_len _ _ _ (by omega)]; omega)] at A6
  have hi:j < (scC m d C).length:=by omega
  rw [show scCell m d c = (scC m d C)[j] from Option.some.inj (by rw [← hR1,List.getElem?_eq_getElem hi]),fill_set _ _ _ hi] at A6
  refine WOL.nil <| keep [(1,_),(5,_),(11,_),(12,_),(13,_)] ⟨rfl,rfl,rfl,rfl,rfl,trivial⟩ ?_
  refine WL.reg ?_
  refine WOL.bi (v:=zi ((j + 1:Nat):Int)) rfl rfl (by show some (Value.int .i64 (fwrap .i64 ((j:Int) + 1))) = _; rw [fwrap_i64 (by omega) (by omega)]; rfl) ?_
  refine WOL.mv rfl <| WOL.nil ?_
  exact fun a q => ⟨C.length - (j + 1),by omega,j + 1,by omega,rfl,P6.hx _ Y5 (Nat.le_refl _),A6,q.sub ⟨rfl,rfl,rfl,rfl,rfl,trivial⟩⟩
 ·rw [show decide ((j:Int) < (C.length:Int)) = false by simpa using hlt]
  refine WL.no rfl <| WL.exit ?_
  obtain rfl:j = C.length:=by omega
  refine WL.sr <| WOL.mv rfl <| WOL.as rfl <| WOL.nil <| keep [(4,_)] ⟨rfl,trivial⟩ ?_
  rw [← hlen,fill_all] at A2
  exact WL.ret (WL.end_ rfl ⟨h.next,rfl,Nat.le_refl _,A2,X2⟩)
def scErr (e:Int) (C:List (Int × Bool)):Int:=cond (e != 0) e (cond (allOk C) 0 4)
theorem scC_ok {m d:Int} {C:List (Int × Bool)}:(scC m d C).length = C.length:=by simp [scC]
set_option maxHeartbeats 1000000 in
set_option maxRecDepth 10000 in
theorem k43 (H:Has tp) (X:HasX tp) {s:ByteArray} {n m d:Int} {v1 v2:Value} {F:List Nat} {S:List (Int × Int)} {es L:List Int} {h:TH} (r:RunH h v1 v2 F S) (hE:SErr F es) (hL:firstNZ es = 0 → Lev F L)
  (hF:F.length ≤ 900000) (hS:S.length ≤ 900000) (f:Free0 h.next h) :
  CallW Tryz.prog tp (.func (.func 19) #[] #[]) #[runV s n v1 v2,zi m,zi d] h fun v h' => RunR h h' v s n (scC m d (cellsL L S)) (scErr (firstNZ [runE s n F.length S es L,outB m (-1000) 1000,outB d 1 1000]) (scC m d (cellsL L S))):=by
 obtain ⟨bv1,kv1,rfl⟩:=r.f.form
 obtain ⟨bv2,kv2,rfl⟩:=r.s.form
 refine CallW.fnL (H.fn 19 f43 rfl rfl) ?_
 refine WL.sr <| WOL.box rfl fun h1 N1 => ?_
 refine WOL.box rfl fun h2 N2 => ?_
 refine WOL.box rfl fun h3 N3 => ?_
 refine WOL.al tp52 fun h4 N4 => ?_
 refine WOL.as rfl <| WOL.nil <| keep [(3,_),(4,_),(5,_),(6,_)] ⟨rfl,rfl,rfl,rfl,trivial⟩ ?_
 have n1:=N1.next
 have n2:=N2.next
 have n3:=N3.next
 have n4:=N4.next
 have X4:HX h h4:=((N1.hx.trans N2.hx).trans N3.hx).trans N4.hx
 have A3:=((N1.at_.hx N2.hx).hx N3.hx).hx N4.hx
 have A4:At h4 h1.next (.cells [zi m] true true 3):=(N2.at_.hx N3.hx).hx N4.hx
 have A5:At h4 h2.next (.cells [zi d] true true 3):=N3.at_.hx N4.hx
 have A6:=N4.at_
 refine WL.sr ?_
 refine WOL.ld rfl (load_row tp52 A3 rfl (Nat.le_of_ble_eq_true rfl)) ?_
 refine WOL.ld rfl (load_one tp3 A4 rfl) ?_
 refine WOL.ld rfl (load_one tp3 A5 rfl) ?_
 refine WOL.lq1 [h2.next,h1.next] rfl rfl rfl fun M hM => ((k41 H X (s:=s) (n:=n) ((r.hx X4).relock' M) hE hL (by omega) (by omega) ((f.on X4).held hM (fun b hb => by simp at hb; omega))).mono ?_)
 rintro v h5 ⟨rfl,X5⟩
 replace X5:=X5.relock
 generalize h5.withLock h4.lock = h5 at *
 refine WOL.lk3 rfl rfl rfl rfl fun M => ((k72 H _ _ _ _).mono ?_)
 rintro v h6 ⟨rfl,rfl⟩
 have X6:HX h5 ((h5.withLock M).withLock h5.lock):=(HX.refl _).relock
 generalize (h5.withLock M).withLock h5.lock = h6 at *
 refine WOL.cl3 rfl rfl rfl rfl ((k72 H _ _ _ _).mono ?_)
 rintro v h6 ⟨rfl,rfl⟩
 refine WOL.bsl rfl u166 tp30 (by decide) (by decide) (by decide) (filled_ints3 _ _ _) fun h8 N8 => ?_
 refine WOL.cl1 rfl rfl ((k71 H (l:=[_,_,_]) N8.at_.get (by simp)).mono ?_)
 rintro v h8 ⟨rfl,rfl⟩
 have Z8:HX h4 h8:=(X5.trans X6).trans N8.hx
 have Y8:=X4.trans Z8
 have z8:=Z8.next
 generalize hEE:firstNZ [runE s n F.length S es L,outB m (-1000) 1000,outB d 1 1000] = E
 refine WOL.as rfl <| WOL.nil <| keep [(3,_),(4,_),(5,_),(6,_),(8,_)] ⟨rfl,rfl,rfl,rfl,rfl,trivial⟩ ?_
 refine WL.seq ?_
 refine WL.sr <| WOL.mv rfl ?_
 refine WOL.bi rfl rfl nzero ?_
 refine WOL.nil <| keep [(3,_),(4,_),(5,_),(6,_),(8,_),(19,_)] ⟨rfl,rfl,rfl,rfl,rfl,rfl,trivial⟩ ?_
 rcases nz_cases E with h0 | h0
 ·rw [h0]
  have z:=firstNZ_zero (hEE.trans h0)
  have V:=valid_of (s:=s) (n:=n) (S:=S) hL (z _ (by simp))
  have b1:=outB_zero (z (outB m (-1000) 1000) (by simp))
  have b2:=outB_zero (z (outB d 1 1000) (by simp))
  have Vm:=V.m
  have hcl:(cellsL L S).length = F.length:=cells_len V.lev V.in_
  have lim:=cells_lim V.lev S
  have hE0:E = 0:=h0
  refine WL.no rfl <| WL.skip ?_
  refine WL.sr ?_
  refine WOL.ld rfl (load_row tp52 (A3.hx Z8) rfl (Nat.le_of_ble_eq_true rfl)) ?_
  refine WOL.cl1 rfl rfl ((k85 H (s:=s) (n:=n) (r.hx Y8) V.lev (by omega) (by omega) V.in_ (f.on Y8)).mono ?_)
  rintro v h10 ⟨b9,rfl,o9,A9,X10⟩
  have Y10:=Y8.trans X10
  have Z10:=Z8.trans X10
  refine WOL.mf rfl ?_
  refine WOL.cl2 rfl rfl rfl ((k101 H (SlL.own eC A9 hcl) lim (by omega) (A4.hx Z10) (A5.hx Z10) (by omega) (by omega) (by omega) (f.on Y10)).mono ?_)
  rintro v h11 ⟨b11,rfl,o11,A11,X11⟩
  have Y11:=Y10.trans X11
  have Z11:=Z10.trans X11
  have sl11:SlL encC 2 h11 (.slice (some ⟨b11,0,none⟩) (cellsL L S).length (cellsL L S).length) (scC m d (cellsL L S)):=SlL.own eC A11 (by rw [scC_ok])
  refine WOL.as rfl <| WOL.nil <| keep [(3,_),(6,_),(9,_)] ⟨rfl,rfl,rfl,trivial⟩ ?_
  refine WL.seq ?_
  refine WL.sr <| WOL.mv rfl ?_
  refine WOL.cl1 rfl rfl ((k104 H sl11 (by rw [scC_ok]; omega)).mono ?_)
  rintro v h12 ⟨rfl,X12⟩
  have Y12:=Y11.trans X12
  have Z12:=Z11.trans X12
  refine WOL.nt rfl <| WOL.nil <| keep [(3,_),(6,_),(9,_),(28,_)] ⟨rfl,rfl,rfl,rfl,trivial⟩ ?_
  have z12:=Z12.next
  cases hok:allOk (scC m d (cellsL L S)) with
  | false =>
   refine WL.yes rfl <| WL.sr <| WOL.bd rfl bd52z ?_
   refine WOL.sto rfl rfl tp52 (A6.hx Z12) rfl rfl (Nat.le_of_ble_eq_true rfl) rfl (f.hx Y12) (by omega) fun h13 P13 => ?_
   refine WOL.as rfl <| WOL.nil ?_
   refine WL.ret (WL.endC1 (t:=6) (s:=7) rfl rfl (load_row tp52 P13.at_ rfl (Nat.le_of_ble_eq_true rfl)) ⟨P13.hx _ Y12 (by omega),.inl ⟨?_,?_⟩⟩)
   ·unfold scErr; rw [hok]; decide
   ·unfold scErr; rw [hok]; rfl
  | true =>
   refine WL.no rfl <| WL.skip ?_
   refine WL.sr <| WOL.fa rfl (fa_of fo52_0) ?_
   refine WOL.ld rfl (load_one tp9 (A3.hx Z12) rfl) ?_
   refine WOL.fa rfl (fa_of fo52_1) ?_
   refine WOL.ld rfl (load_one tp3 (A3.hx Z12) rfl) ?_
   refine WOL.mv rfl ?_
   refine WOL.cl3 rfl rfl rfl rfl ((k89 H (s:=s) (n:=n) (sl11.hx X12) (allOk_iff.1 hok) (by rw [scC_ok]; omega) (f.on Y12)).mono ?_)
   rintro v h14 ⟨q1,q2,rfl,X14,O14⟩
   have Y14:=Y12.trans X14
   obtain ⟨bo1,k1,rfl⟩:=O14.r.f.form
   obtain ⟨bo2,k2,rfl⟩:=O14.r.s.form
   refine WOL.sto rfl rfl tp52 ((A6.hx Z12).hx X14) rfl rfl (Nat.le_of_ble_eq_true rfl) rfl (f.hx Y14) (by omega) fun h15 P15 => ?_
   refine WOL.as rfl <| WOL.nil ?_
   have y12:=Y12.next
   refine WL.ret (WL.endC1 (t:=6) (s:=7) rfl rfl (load_row tp52 P15.at_ rfl (Nat.le_of_ble_eq_true rfl)) ⟨P15.hx _ Y14 (by omega),.inr ⟨?_,_,_,rfl,(O14.away P15 (by omega)).le (by omega)⟩⟩)
   unfold scErr; rw [hok]; rfl
 ·rw [h0]
  refine WL.yes rfl <| WL.sr <| WOL.bd rfl bd52z <| WOL.mv rfl ?_
  refine WOL.sto rfl rfl tp52 (A6.hx Z8) rfl rfl (Nat.le_of_ble_eq_true rfl) rfl (f.hx Y8) (by omega) fun h9 P9 => ?_
  refine WOL.as rfl <| WOL.nil ?_
  have hse:scErr E (scC m d (cellsL L S)) = E:=by unfold scErr; rw [h0]; rfl
  rw [hse]
  exact WL.ret (WL.endC1 (t:=6) (s:=7) rfl rfl (load_row tp52 P9.at_ rfl (Nat.le_of_ble_eq_true rfl)) ⟨P9.hx _ Y8 (by omega),.inl ⟨by simpa using h0,rfl⟩⟩)
end Go.Tidy
namespace Go.Tidy
open Go Go.Proofs Tab
variable {tp:TProg}
section
variable {α:Type} {enc:α → List Value} {n0:Nat} {h h':TH} {v:Value} {e:TypeId} {l:List α}
theorem own_of {b m:Nat} (hm:l.length = m) (hn:n0 ≤ b) (a:At h b (.cells (cat enc l) false true e)) (hl:0 < m):OwnL enc n0 h (.slice (some ⟨b,0,none⟩) m m) e l:=by
 subst hm
 exact .inr ⟨fun h => by rw [h] at hl; simp at hl,b,rfl,hn,a⟩
theorem own_put {c:Nat} {x:TB} (o:OwnL enc n0 h v e l) (p:Put h h' c x) (hc:bl v ≠ some c):OwnL enc n0 h' v e l:=o.keep fun d y hd ha => p.oth _ _ (fun q => hc (by rw [hd,q])) ha
end
def okTo (Z:List Int) (Y:List Bool) (j:Nat):Prop:=∀ (i:Nat) (z:Int),i < j → Z[i]? = some z → Y[i]? = some true → okI z = true
theorem splice1 {α:Type} {enc:α → List Value} (E:Enc enc 1) {l:List α} {i:Nat} (h:i < l.length) (a:α):splice (cat enc l) (0 + i * 1) (enc a) = cat enc (l.set i a):=by
 rw [Nat.zero_add]; exact E.set h a
end Go.Tidy
namespace Go.Tidy
open Go Go.Proofs Tab
variable {tp:TProg}
def SumR (h h':TH) (v:Value) (s:ByteArray) (n:Int) (Z:List Int) (Y:List Bool) (sh:Bool):Prop :=
  HX h h' ∧ ((sh = false ∧ v = .tuple #[run0,.int .i64 2]) ∨ (sh = true ∧ ¬ okTo Z Y Z.length ∧ v = .tuple #[run0,.int .i64 4]) ∨
    (sh = true ∧ okTo Z Y Z.length ∧ ∃ w1 w2,v = .tuple #[runV s n w1 w2,.int .i64 0] ∧ RunO h.next h' w1 w2 (madeF Z Y) (holesOf Y)))
theorem cellsK_get {L:List Int} {K:List Bool} {i:Nat} {x:Int} {p:Bool} (hx:L[i]? = some x) (hp:K[i]? = some p):(cellsK L K)[i]? = some (if p = true then (x,true) else (0,false)):=by
 unfold cellsK; rw [List.getElem?_zipWith,hx,hp]
theorem cellsK_ln {L:List Int} {K:List Bool} (h:K.length = L.length):(cellsK L K).length = L.length:=by simp [cellsK,h]
theorem ok_cells {Z:List Int} {Y:List Bool} (h:Y.length = Z.length):allOk (cellsK Z Y) = true ↔ okTo Z Y Z.length:=by
 rw [allOk_iff]
 constructor
 ·intro ok i z hi hz hy
  have:=ok _ (List.mem_of_getElem? (cellsK_get hz hy))
  exact okI_iff.2 this
 ·intro ok c hc
  obtain ⟨i,hi,hci⟩:=List.getElem_of_mem hc
  have hl:=cellsK_ln h
  have hz:Z[i]? = some Z[i]:=List.getElem?_eq_getElem (by omega)
  have hy:Y[i]? = some Y[i]:=List.getElem?_eq_getElem (by omega)
  have:=cellsK_get hz hy
  rw [List.getElem?_eq_getElem hi,hci] at this
  obtain rfl:=Option.some.inj this
  cases hb:Y[i] with
  | false => simp
  | true => rw [hb] at hy; simpa using okI_iff.1 (ok i _ (by omega) hz hy)
end Go.Tidy
namespace Go.Tidy
open Go Go.Proofs Tab
variable {tp:TProg}
theorem cellsL_flat:∀ m:Nat,(List.replicate m [Value.int .i64 0,.bool false]).flatten = cat encC (List.replicate m ((0:Int),false))
 | 0 => rfl
 | m + 1 => by rw [List.replicate_succ,List.replicate_succ,List.flatten_cons,cat_cons,cellsL_flat m]; rfl
theorem tp135:Tp Tryz.prog 66 1 [.slice none 0 0] false:=tp_of (by kernel_rfl) (by kernel_rfl) rfl
structure Rows3 (h:TH) (b:Nat) (Xs:List Value) (Cs:List (List (Int × Bool))):Prop where
 at_:At h b (.cells Xs true true 66)
 len:Xs.length = Cs.length
 sl:∀ (i:Nat) (x:Value) (C:List (Int × Bool)),Xs[i]? = some x → Cs[i]? = some C → SlL encC 2 h x C
theorem Rows3.hx {h h':TH} {b:Nat} {Xs:List Value} {Cs:List (List (Int × Bool))} (r:Rows3 h b Xs Cs) (x:HX h h'):Rows3 h' b Xs Cs:=⟨r.at_.hx x,r.len,fun i y C h1 h2 => (r.sl i y C h1 h2).hx x⟩
end Go.Tidy
namespace Go.Tidy
open Go Go.Proofs Tab
variable {tp:TProg}
theorem Rows3.relock {h:TH} {b:Nat} {Xs:List Value} {Cs:List (List (Int × Bool))} (r:Rows3 h b Xs Cs) (M:List Nat):Rows3 (h.withLock M) b Xs Cs:=⟨r.at_.relock M,r.len,fun i y C h1 h2 => (r.sl i y C h1 h2).relock M⟩
end Go.Tidy
namespace Go.Tidy
open Go Go.Proofs Tab
variable {tp:TProg}
section
variable {P:Program} {α:Type} {enc:α → List Value} {n n0:Nat} {h:TH} {v:Value} {e:TypeId} {l:List α} {z:List Value} {row:Bool}
end
def JoinR (h h':TH) (v:Value) (s:ByteArray) (n:Int) (Z:List Int) (Y:List Bool) (e:Int):Prop :=
 HX h h' ∧ ((e ≠ 0 ∧ v = .tuple #[run0,.int .i64 e]) ∨ (e = 0 ∧ ∃ w1 w2,v = .tuple #[runV s n w1 w2,.int .i64 0] ∧ RunO h.next h' w1 w2 (madeF Z Y) (holesOf Y)))
end Go.Tidy
namespace Go.Tidy
open Go Go.Proofs Tab
variable {tp:TProg}
def thinTo {α:Type} (k:Nat) (l:List α):Nat → List α
 | 0 => []
 | i + 1 => thinTo k l i ++ if i % k = 0 then l[i]?.toList else []
def thin {α:Type} (k:Nat) (l:List α):List α:=thinTo k l l.length
section
variable {α:Type} {k:Nat} {l:List α}
theorem thin_hit {i:Nat} {x:α} (hi:i % k = 0) (hx:l[i]? = some x):thinTo k l (i + 1) = thinTo k l i ++ [x]:=by
 show _ ++ (if _ then _ else _) = _
 rw [if_pos hi,hx]; rfl
theorem thin_miss {i:Nat} (hi:i % k ≠ 0):thinTo k l (i + 1) = thinTo k l i:=by
 show _ ++ (if _ then _ else _) = _
 rw [if_neg hi,List.append_nil]
theorem thin_len:∀ i,(thinTo k l i).length ≤ i
  | 0 => Nat.le_refl _
  | i + 1 => by
    have:=thin_len i
    unfold thinTo
    rw [List.length_append]
    have:(if i % k = 0 then l[i]?.toList else []).length ≤ 1:=by
      split
      · cases l[i]? <;> simp
      · simp
    omega
theorem thin_mem {x:α}:∀ {i},x ∈ thinTo k l i → x ∈ l
  | 0,h => by cases h
  | i + 1,h => by
    rcases List.mem_append.1 h with h | h
    · exact thin_mem h
    · split at h
      · exact List.mem_of_getElem? (Option.mem_toList.1 h)
      · cases h
end
theorem WO.remI {P:Program} {tp:TProg} {a:Regs} {h:TH} {K:Regs → TH → Prop} {rest:List TOper} {d:Option Tmp} {ty:TypeId} {i:Nat} {x y:Operand} {t u:TypeId} {m n:Int} (hx:getO a x = some (.int .i64 m)) (hy:getO a y = some (.int .i64 n)) (hn:n ≠ 0)
  (w:WO P tp rest (a.put d (.int .i64 (m.tmod n))) h K):WO P tp (⟨d,.binOp .rem t x y u,ty,none,[],i⟩ :: rest) a h K:=by
 refine WO.bi hx hy ?_ w
 have hk:Nat.beq (kindNo .i64) (kindNo .i64) = true:=Nat.beq_refl _
 have hb:(n == 0) = false:=by simpa using hn
 simp only [fastBin,hk,fastInt,hb,Bool.cond_true,Bool.cond_false]
theorem WOL.rem {P:Program} {tp:TProg} {h:TH} {K:Regs → TH → Prop} {rest:List TOper} {d:Option Tmp} {ty:TypeId} {i:Nat} {x y:Operand} {t u:TypeId} {L:Rg} {m n:Int} (hx:getL L x = some (.int .i64 m)) (hy:getL L y = some (.int .i64 n)) (hm:0 ≤ m) (hn:0 < n) (w:∀ a,Kn (putL L d (.int .i64 (m % n))) a → WO P tp rest a h K):∀ a,Kn L a → WO P tp (⟨d,.binOp .rem t x y u,ty,none,[],i⟩ :: rest) a h K:=fun a k => by
 refine WO.remI (k.o hx) (k.o hy) (by omega) ?_
 rw [Int.tmod_eq_emod_of_nonneg hm]
 exact w _ (k.put d _)
def thErr (e n k:Int):Int:=cond (e != 0) e (cond (n % k != 0) 21 0)
set_option maxHeartbeats 1000000 in
set_option maxRecDepth 10000 in
theorem k44 (H:Has tp) (X:HasX tp) {s:ByteArray} {n z:Int} {v1 v2:Value} {F:List Nat} {S:List (Int × Int)} {es L:List Int} {h:TH} (r:RunH h v1 v2 F S) (hE:SErr F es) (hL:firstNZ es = 0 → Lev F L)
    (hF:F.length ≤ 900000) (hS:S.length ≤ 900000) (f:Free0 h.next h) :
    CallW Tryz.prog tp (.func (.func 16) #[] #[]) #[runV s n v1 v2,zi z] h fun v h' => RunR h h' v s (n / z) (thin z.toNat (cellsL L S)) (thErr (firstNZ [runE s n F.length S es L,outB z 1 64]) n z):=by
  obtain ⟨bv1,kv1,rfl⟩:=r.f.form
  obtain ⟨bv2,kv2,rfl⟩:=r.s.form
  refine CallW.fnL (H.fn 16 f44 rfl rfl) ?_
  refine WL.sr <| WOL.box rfl fun h1 N1 => ?_
  refine WOL.al tp52 fun h2 N2 => ?_
  refine WOL.as rfl <| WOL.nil <| keep [(1,_),(2,_),(4,_)] ⟨rfl,rfl,rfl,trivial⟩ ?_
  have n1:=N1.next
  have n2:=N2.next
  have X2:=N1.hx.trans N2.hx
  have A2:=N1.at_.hx N2.hx
  have A4:=N2.at_
  refine WL.seq ?_
  refine WL.sr ?_
  refine WOL.ld rfl (load_row tp52 A2 rfl (Nat.le_of_ble_eq_true rfl)) ?_
  refine WOL.cl1 rfl rfl ((k41 H X (s:=s) (n:=n) (r.hx X2) hE hL (by omega) (by omega) (f.on X2)).mono ?_)
  rintro v h3 ⟨rfl,X3⟩
  refine WOL.mv rfl ?_
  refine WOL.cl3 rfl rfl rfl rfl ((k72 H _ _ _ _).mono ?_)
  rintro v h3 ⟨rfl,rfl⟩
  refine WOL.bsl rfl u166 tp30 (by decide) (by decide) (by decide) (filled_ints _ _) fun h5 N5 => ?_
  refine WOL.cl1 rfl rfl ((k71 H (l:=[_,_]) N5.at_.get (by simp)).mono ?_)
  rintro v h5 ⟨rfl,rfl⟩
  have Z5:=X3.trans N5.hx
  have Y5:=X2.trans Z5
  have z5:=Z5.next
  have B2:=A2.hx Z5
  have B4:=A4.hx Z5
  generalize hEE:firstNZ [runE s n F.length S es L,outB z 1 64] = E
  refine WOL.as rfl <| WOL.nil <| keep [(1,_),(2,_),(4,_),(6,_)] ⟨rfl,rfl,rfl,rfl,trivial⟩ ?_
  refine WL.sr <| WOL.mv rfl ?_
  refine WOL.bi rfl rfl nzero ?_
  refine WOL.nil <| keep [(1,_),(2,_),(4,_),(6,_),(17,_)] ⟨rfl,rfl,rfl,rfl,rfl,trivial⟩ ?_
  rcases nz_cases E with h0 | h0
  · rw [h0]
    have z0:=firstNZ_zero (hEE.trans h0)
    have V:=valid_of (s:=s) (n:=n) (S:=S) hL (z0 _ (by simp))
    have b1:=outB_zero (z0 (outB z 1 64) (by simp))
    have Vm:=V.m
    have V0:=V.n0
    have V1:=V.n1
    have hcl:(cellsL L S).length = F.length:=cells_len V.lev V.in_
    have lim:=cells_lim V.lev S
    refine WL.no rfl <| WL.skip ?_
    refine WL.seq ?_
    refine WL.sr <| WOL.fa rfl (fa_of fo52_1) ?_
    refine WOL.ld rfl (load_one tp3 B2 rfl) ?_
    refine WOL.mv rfl ?_
    refine WOL.rem rfl rfl V0 (by omega) ?_
    refine WOL.bi rfl rfl nzero ?_
    refine WOL.nil <| keep [(1,_),(2,_),(4,_),(24,_)] ⟨rfl,rfl,rfl,rfl,trivial⟩ ?_
    have hth:thErr 0 n z = cond (n % z != 0) 21 0:=rfl
    rw [hth]
    cases hnz:n % z != 0 with
    | true =>
      refine WL.yes rfl <| WL.sr <| WOL.bd rfl bd52z ?_
      refine WOL.sto rfl rfl tp52 B4 rfl rfl (Nat.le_of_ble_eq_true rfl) rfl (f.hx Y5) (by omega) fun h7 P7 => ?_
      refine WOL.as rfl <| WOL.nil ?_
      exact WL.ret (WL.endC1 (t:=4) (s:=5) rfl rfl (load_row tp52 P7.at_ rfl (Nat.le_of_ble_eq_true rfl)) ⟨P7.hx _ Y5 (by omega),.inl ⟨by decide,rfl⟩⟩)
    | false =>
      refine WL.no rfl <| WL.skip ?_
      refine WL.sr <| WOL.as rfl <| WOL.nil <| keep [(1,_),(2,_),(4,_),(7,_)] ⟨rfl,rfl,rfl,rfl,trivial⟩ ?_
      refine WL.seq ?_
      refine WL.sr ?_
      refine WOL.ld rfl (load_row tp52 B2 rfl (Nat.le_of_ble_eq_true rfl)) ?_
      refine WOL.cl1 rfl rfl ((k85 H (s:=s) (n:=n) (r.hx Y5) V.lev (by omega) (by omega) V.in_ (f.on Y5)).mono ?_)
      rintro v h8 ⟨b27,rfl,o27,A27,X8⟩
      have Y8:=Y5.trans X8
      have sl27:SlL encC 2 h8 (.slice (some ⟨b27,0,none⟩) F.length F.length) (cellsL L S):=SlL.own eC A27 hcl
      rw [← hcl]
      rw [← hcl] at sl27
      refine WOL.len rfl sl27 u135 ?_
      refine WOL.mv rfl <| WOL.nil <| keep [(1,_),(2,_),(4,_),(7,_),(27,_),(28,_),(29,_)] ⟨rfl,rfl,rfl,rfl,rfl,rfl,rfl,trivial⟩ ?_
      generalize hC:cellsL L S = C at *
      obtain ⟨k,rfl⟩:∃ k:Nat,z = (k:Int):=⟨z.toNat,by omega⟩
      rw [Int.toNat_natCast]
      refine WL.block ?_
      refine WL.loop (L:=[(1,zi (k:Nat)),(2,ptr h.next),(4,ptr h1.next),(7,.slice none 0 0),(27,.slice (some ⟨b27,0,none⟩) C.length C.length),(28,zi C.length),(29,zi 0)]) (fun q a hh => ∃ (j:Nat) (w7:Value),j ≤ C.length ∧ q = C.length - j ∧ HX h8 hh ∧ OwnL encC h8.next hh w7 70 (thinTo k C j) ∧ Kn [(1,zi (k:Nat)),(2,ptr h.next),(4,ptr h1.next),(7,w7),(27,.slice (some ⟨b27,0,none⟩) C.length C.length),(28,zi C.length),(29,zi (j:Nat))] a) C.length (fun a q => ⟨0,_,by omega,by omega,HX.refl _,OwnL.nil,q.sub ⟨rfl,rfl,rfl,rfl,rfl,rfl,rfl,trivial⟩⟩) ?_
      rintro q a hh ⟨j,w7,hj,rfl,Xh,O7,q⟩
      refine q.go ?_
      have Yh:=Y8.trans Xh
      have xh:=Xh.next
      have x8:=X8.next
      refine WL.sr ?_
      refine WOL.bi (v:=.bool (decide ((j:Int) < C.length))) rfl rfl rfl ?_
      refine WOL.nil <| keep [(1,_),(2,_),(4,_),(7,_),(27,_),(28,_),(29,_),(30,_)] ⟨rfl,rfl,rfl,rfl,rfl,rfl,rfl,rfl,trivial⟩ ?_
      refine WL.seq ?_
      by_cases hlt:j < C.length
      · rw [show decide ((j:Int) < (C.length:Int)) = true by simpa using hlt]
        refine WL.yes rfl <| WL.skip ?_
        have hC1:C[j]? = some C[j]:=List.getElem?_eq_getElem hlt
        generalize C[j] = c at *
        obtain ⟨b,o,cc,fix,wr,el,e1,e2,e3,e4,e5⟩:=(sl27.hx Xh).at eC u135 tp134 hC1 .i64
        refine WL.seq ?_
        refine WL.block ?_
        refine WL.sr <| WOL.mv rfl ?_
        refine WOL.ix rfl rfl e1 ?_
        refine WOL.ld rfl (load_row tp134 e2 e4 e3) ?_
        refine WOL.al tp134 fun h9 N9 => ?_
        refine WOL.as rfl ?_
        refine WOL.sto rfl rfl tp134 N9.at_ rfl rfl (Nat.le_of_ble_eq_true rfl) rfl (f.hx (Yh.trans N9.hx)) Yh.next fun g P => ?_
        have Xg:HX h8 g:=P.hx _ (Xh.trans N9.hx) xh
        have Yg:=Y8.trans Xg
        have O7':OwnL encC h8.next g w7 70 (thinTo k C j):=own_put (O7.hx N9.hx) P (fun e => by have:=(O7.lt e).2; omega)
        have B9:At g hh.next (.cells [.int .i64 c.1,.bool c.2] true true 70):=P.at_
        refine WOL.nil <| keep [(1,_),(2,_),(4,_),(7,_),(8,_),(9,_),(27,_),(28,_),(29,_)] ⟨rfl,rfl,rfl,rfl,rfl,rfl,rfl,rfl,rfl,trivial⟩ ?_
        refine WL.sr <| WOL.mv rfl <| WOL.mv rfl ?_
        refine WOL.rem rfl rfl (by omega) (by omega) ?_
        refine WOL.bi rfl rfl ezero ?_
        refine WOL.nil <| keep [(1,_),(2,_),(4,_),(7,_),(9,_),(27,_),(28,_),(29,_),(37,_)] ⟨rfl,rfl,rfl,rfl,rfl,rfl,rfl,rfl,rfl,trivial⟩ ?_
        have fin:∀ {Q:Exit → Regs → TH → Prop} g' w7',HX h8 g' → OwnL encC h8.next g' w7' 70 (thinTo k C (j + 1)) → ∀ a,Kn [(1,zi (k:Nat)),(2,ptr h.next),(4,ptr h1.next),(7,w7'),(27,.slice (some ⟨b27,0,none⟩) C.length C.length),(28,zi C.length),(29,zi (j:Nat))] a → W Tryz.prog tp false (.reg r44_12) a g' (andThen (fun a hh => ∃ q',q' < C.length - j ∧ ∃ (j:Nat) (w7:Value),j ≤ C.length ∧ q' = C.length - j ∧ HX h8 hh ∧ OwnL encC h8.next hh w7 70 (thinTo k C j) ∧ Kn [(1,zi (k:Nat)),(2,ptr h.next),(4,ptr h1.next),(7,w7),(27,.slice (some ⟨b27,0,none⟩) C.length C.length),(28,zi C.length),(29,zi (j:Nat))] a) Q):=by
          intro Q g' w7' X' O'
          refine WL.reg ?_
          refine WOL.bi (v:=zi ((j + 1:Nat):Int)) rfl rfl (by show some (Value.int .i64 (fwrap .i64 ((j:Int) + 1))) = _; rw [fwrap_i64 (by omega) (by omega)]; rfl) ?_
          refine WOL.mv rfl <| WOL.nil ?_
          exact fun a q => ⟨C.length - (j + 1),by omega,j + 1,w7',by omega,rfl,X',O',q.sub ⟨rfl,rfl,rfl,rfl,rfl,rfl,rfl,trivial⟩⟩
        have hmod:((j:Int) % (k:Int) == 0) = decide (j % k = 0):=by
          rw [← Int.natCast_emod]
          by_cases hh0:j % k = 0
          · simp [hh0]
          · simp [hh0]
            omega
        rw [hmod]
        by_cases hjk:j % k = 0
        · rw [decide_eq_true hjk]
          refine WL.yes rfl <| WL.reg <| WOL.mv rfl ?_
          refine WOL.ld rfl (load_row tp134 B9 rfl (Nat.le_of_ble_eq_true rfl)) ?_
          refine WOL.bs2 rfl u135 tp134 fun i1 M1 => ?_
          have X1':=Xg.trans M1.hx
          obtain ⟨q8,i2,ap8,o8,x8',keep8,b8,m8⟩:=own_push (sT:=66) (x:=c) eC u135 tp134 (O7'.hx M1.hx) (SlC.own (sz:=2) (m:=1) rfl M1.at_) ((f.on Y8).hx X1') (by have:=thin_len (k:=k) (l:=C) j; omega) X1'.next
          refine WOL.ap rfl rfl ap8 <| WOL.as rfl <| WOL.nil ?_
          rw [← thin_hit hjk hC1] at o8
          exact kto (fin i2 q8 (x8' _ X1' (Nat.le_refl _)) o8) ⟨rfl,rfl,rfl,rfl,rfl,rfl,rfl,trivial⟩
        · rw [decide_eq_false hjk]
          refine WL.no rfl <| WL.skip ?_
          rw [← thin_miss (l:=C) hjk] at O7'
          exact kto (fin g w7 Xg O7') ⟨rfl,rfl,rfl,rfl,rfl,rfl,rfl,trivial⟩
      · rw [show decide ((j:Int) < (C.length:Int)) = false by simpa using hlt]
        refine WL.no rfl <| WL.exit ?_
        obtain rfl:j = C.length:=by omega
        have D2:=(B2.hx X8).hx Xh
        have hq0:0 ≤ n / (k:Int):=Int.ediv_nonneg V0 (by omega)
        refine WL.sr <| WOL.fa rfl (fa_of fo52_0) ?_
        refine WOL.ld rfl (load_one tp9 D2 rfl) ?_
        refine WOL.fa rfl (fa_of fo52_1) ?_
        refine WOL.ld rfl (load_one tp3 D2 rfl) ?_
        refine WOL.mv rfl ?_
        refine WOL.quo rfl rfl V0 (by omega) (by omega) ?_
        refine WOL.mv rfl ?_
        have hle:=thin_len (k:=k) (l:=C) C.length
        refine WOL.cl3 rfl rfl rfl rfl ((k89 H (s:=s) (n:=n / (k:Int)) (O7.sl eC) (fun c hc => lim c (thin_mem hc)) (by omega) (f.on Yh)).mono ?_)
        rintro v h11 ⟨q1,q2,rfl,X11,O11⟩
        have Y11:=Yh.trans X11
        obtain ⟨bo1,k1,rfl⟩:=O11.r.f.form
        obtain ⟨bo2,k2,rfl⟩:=O11.r.s.form
        have yh:=Yh.next
        refine WOL.sto rfl rfl tp52 (((B4.hx X8).hx Xh).hx X11) rfl rfl (Nat.le_of_ble_eq_true rfl) rfl (f.hx Y11) (by omega) fun h12 P12 => ?_
        refine WOL.as rfl <| WOL.nil ?_
        exact WL.ret (WL.endC1 (t:=4) (s:=5) rfl rfl (load_row tp52 P12.at_ rfl (Nat.le_of_ble_eq_true rfl)) ⟨P12.hx _ Y11 (by omega),.inr ⟨rfl,_,_,rfl,(O11.away P12 (by omega)).le (by omega)⟩⟩)
  · rw [h0]
    refine WL.yes rfl <| WL.sr <| WOL.bd rfl bd52z <| WOL.mv rfl ?_
    refine WOL.sto rfl rfl tp52 B4 rfl rfl (Nat.le_of_ble_eq_true rfl) rfl (f.hx Y5) (by omega) fun h9 P9 => ?_
    refine WOL.as rfl <| WOL.nil ?_
    have hse:thErr E n z = E:=by unfold thErr; rw [h0]; rfl
    rw [hse]
    exact WL.ret (WL.endC1 (t:=4) (s:=5) rfl rfl (load_row tp52 P9.at_ rfl (Nat.le_of_ble_eq_true rfl)) ⟨P9.hx _ Y5 (by omega),.inl ⟨by simpa using h0,rfl⟩⟩)
end Go.Tidy
namespace Go.Tidy
open Go Go.Proofs Tab
variable {tp:TProg}
section
variable {P:Program} {h:TH} {v:Value} {t e:TypeId} {n:Nat} {z:List Value} {row:Bool} {K:Regs → TH → Prop} {rest:List TOper} {d:Option Tmp} {ty:TypeId} {i:Nat} {x y lo hi:Operand} {L:Rg}
theorem WOL.sl {q:Addr} {m cap:Nat} {vlo vhi:Value} (hx:getL L x = some (.slice (some q) m cap)) (hl:getL L lo = some vlo) (hh:getL L hi = some vhi) (hv:sliceT P t (.slice (some q) m cap) (some vlo) (some vhi) none h = some v) (w:∀ a,Kn (putL L d v) a → WO P tp rest a h K):∀ a,Kn L a → WO P tp (⟨d,.slice t x (some lo) (some hi) none,ty,none,[],i⟩ :: rest) a h K :=
 fun a k => WO.sl (k.o hx) (k.o hl) (k.o hh) hv (k.nx w)
end
def setN {α:Type} (l:List α) (p:Nat) (g:Nat → α):Nat → List α
 | 0 => l
 | i + 1 => (setN l p g i).set (p + i) (g i)
section
variable {α:Type} {l:List α} {p:Nat} {g:Nat → α}
theorem setN_len:∀ i,(setN l p g i).length = l.length
 | 0 => rfl
 | i + 1 => by show ((setN l p g i).set _ _).length = _; rw [List.length_set,setN_len i]
theorem setN_mem {x:α}:∀ i,x ∈ setN l p g i → x ∈ l ∨ ∃ j,j < i ∧ x = g j
  | 0,h => .inl h
  | i + 1,h => by
    rcases List.mem_or_eq_of_mem_set h with h | h
    · rcases setN_mem i h with h | ⟨j,h1,h2⟩
      · exact .inl h
      · exact .inr ⟨j,by omega,h2⟩
    · exact .inr ⟨i,by omega,h⟩
end
theorem Free0.of {n:Nat} {hb h h':TH} (f:Free0 n h) (x:HX hb h) (y:HX hb h'):Free0 n h':=⟨by rw [y.floor,← x.floor]; exact f.floor,by rw [y.lock,← x.lock]; exact f.lock⟩
end Go.Tidy
namespace Go.Tidy
open Go Go.Proofs Tab
variable {tp:TProg}
theorem Valid.cell {s:ByteArray} {n:Int} {F:List Nat} {S:List (Int × Int)} {L:List Int} (V:Valid s n F S L) {i:Nat} (hi:i < F.length):∃ k,(cellsL L S)[i]? = some (L.getD i 0,k):=by
 have kl:=V.kl
 have ll:=V.lev.1
 have hx:L[i]? = some L[i]:=List.getElem?_eq_getElem (by omega)
 have hp:(knownL S F.length)[i]? = some (knownL S F.length)[i]:=List.getElem?_eq_getElem (by omega)
 have hd:=V.dark.2 i _ hx
 have hg:L.getD i 0 = L[i]:=by rw [List.getD_eq_getElem?_getD,hx]; rfl
 rw [V.cells,cellsK_get hx hp,hg]
 generalize (knownL S F.length)[i] = k at *
 cases k with
 | true => exact ⟨true,rfl⟩
 | false => exact ⟨false,by rw [hd hp]; rfl⟩
end Go.Tidy
namespace Go.Tidy
open Go Go.Proofs Tab
variable {tp:TProg}
theorem holeE_after {m:Nat}:∀ {S:List (Int × Int)} {prev:Int},holeE m prev S = 0 → ∀ p,p ∈ S → prev < p.1
  | [],_,_ => fun p hp => by cases hp
  | x :: r,prev,h => by
    have hlt:=holeE_lt h x (List.mem_cons_self ..)
    rw [holeE_cons] at h
    cases hb:badS m x with
    | true => rw [hb] at h; cases h
    | false =>
      rw [hb] at h
      by_cases hc:x.1 ≤ prev
      · rw [decide_eq_true hc] at h; cases h
      · rw [decide_eq_false hc] at h
        intro p hp
        rcases List.mem_cons.1 hp with rfl | hp
        · omega
        · have:=holeE_after (S:=r) (prev:=x.2) h p hp
          omega
end Go.Tidy
namespace Go.Tidy
open Go Go.Proofs Tab
theorem Samp.e0 {b:Nat} {n:Int} (s:Samp b n):SampleE b 0:=by
 obtain ⟨neg,q,h,h2,_⟩:=s.ok
 obtain ⟨m,k,hr,hq,hk⟩:=h
 obtain ⟨D,hD⟩:∃ D:Nat,2 ^ 149 = D:=⟨_,rfl⟩
 have hDp:0 < D:=by rw [← hD]; exact two_pow_pos 149
 have e1:=h2 D hD
 have hl:=s.lim
 have hU:m * 2 ^ (k + 4) = n.natAbs * D:=by rw [Nat.pow_add,← Nat.mul_assoc,← e1,hq]
 have ok:okU (m * 2 ^ (k + 4)) = true:=by
  rw [okU_eq hD]
  unfold okD
  rw [hU,decide_eq_true (Nat.mul_le_mul_right D hl),Nat.mul_div_cancel _ hDp]
  simp
 rcases single_cases b with h | ⟨s',h⟩ | ⟨neg',m',k',N⟩
 ·rw [s.nan] at h; cases h
 ·rw [hr] at h; cases h
 ·have e:=hr.symm.trans N.read
  injection e with e1 e2 e3
  obtain rfl:k = k':=by omega
  subst e2
  have:=SampleE.num neg' m k N
  rw [ok] at this
  exact this
theorem serr_zero {F:List Nat} {L:List Int} (h:Lev F L):∃ es,SErr F es ∧ firstNZ es = 0:=by
 refine ⟨List.replicate F.length 0,⟨by simp,fun i b e hb he => ?_⟩,?_⟩
 ·have hi:i < F.length:=(List.getElem?_eq_some_iff.1 hb).1
  have hiL:i < L.length:=by rw [← h.1]; exact hi
  have hx:L[i]? = some L[i]:=List.getElem?_eq_getElem hiL
  rw [List.getElem?_replicate,if_pos hi] at he
  cases he
  exact (h.2 i b _ hb hx).e0
 ·have:∀ k,firstNZ (List.replicate k 0) = 0:=by
   intro k
   induction k with
   | zero => rfl
   | succ k ih => rw [List.replicate_succ]; show cond ((0:Int) != 0) 0 _ = 0; exact ih
  exact this _
def endOf (prev:Int):List (Int × Int) → Int
 | [] => prev
 | p :: r => endOf p.2 r
theorem endOf_le {i:Int}:∀ (S:List (Int × Int)) (prev:Int),prev ≤ i → (∀ p,p ∈ S → p.2 ≤ i) → endOf prev S ≤ i
 | [],_,h,_ => h
 | x :: r,prev,_,h => endOf_le r x.2 (h x (List.mem_cons_self ..)) fun p hp => h p (List.mem_cons_of_mem _ hp)
theorem holeE_snoc {m:Nat} (p:Int × Int):∀ (S:List (Int × Int)) (prev:Int),holeE m prev (S ++ [p]) = 0 ↔ holeE m prev S = 0 ∧ badS m p = false ∧ endOf prev S < p.1
  | [], prev => by
    show holeE m prev [p] = 0 ↔ _
    rw [holeE_cons]
    cases hb:badS m p with
    | true => simp
    | false =>
      by_cases hc:p.1 ≤ prev
      · rw [decide_eq_true hc]
        simp only [Bool.cond_false,Bool.cond_true,endOf]
        constructor
        · intro h; cases h
        · rintro ⟨_,_,h⟩; omega
      · rw [decide_eq_false hc]
        simp only [Bool.cond_false,endOf]
        exact ⟨fun _ => ⟨by trivial,by trivial,by omega⟩,fun _ => by trivial⟩
  | x :: r,prev => by
    show holeE m prev (x :: (r ++ [p])) = 0 ↔ _
    rw [holeE_cons,holeE_cons]
    cases hb:badS m x with
    | true => simp
    | false =>
      by_cases hc:x.1 ≤ prev
      · rw [decide_eq_true hc]; simp
      · rw [decide_eq_false hc]
        exact holeE_snoc p r x.2
theorem badS_no {m:Nat} {p:Int × Int}:badS m p = false ↔ 0 ≤ p.1 ∧ p.1 < p.2 ∧ p.2 ≤ m:=by
 unfold badS
 simp only [Bool.or_eq_false_iff,decide_eq_false_iff_not]
 omega
structure HoleI (B:List Bool) (i:Nat) (S:List (Int × Int)):Prop where
 h0:holeE B.length (-1) S = 0
 hi:∀ p,p ∈ S → p.2 ≤ (i:Int)
 hk:∀ x:Nat,x < i → S.any (inS x) = !B.getD x false
 ho:0 < i ∧ B.getD (i - 1) false = false → ∃ T a,S = T ++ [((a:Int),(i:Int))]
 hc:¬ (0 < i ∧ B.getD (i - 1) false = false) → endOf (-1) S < (i:Int)
theorem inS_past {S:List (Int × Int)} {i:Nat} (h:∀ p,p ∈ S → p.2 ≤ (i:Int)):S.any (inS i) = false:=by
 rw [List.any_eq_false]
 intro p hp
 have:=h p hp
 unfold inS
 rw [decide_eq_false (by omega:¬ (i:Int) < p.2),Bool.and_false]
 decide
theorem holeI (B:List Bool):∀ i,i ≤ B.length → HoleI B i (holesN B i)
  | 0,_ => ⟨rfl,fun p hp => (by cases hp),fun x hx => by omega,fun h => by omega,fun _ => (by show (-1:Int) < 0; decide)⟩
  | i + 1,hle => by
    obtain ⟨h0,hi,hk,ho,hc⟩:=holeI B i (by omega)
    show HoleI B (i + 1) (hstep B (holesN B i) i)
    generalize holesN B i = S at *
    have sub1:i + 1 - 1 = i:=by omega
    unfold hstep
    by_cases hb:B.getD i false = true
    · rw [if_pos hb]
      refine ⟨h0,fun p hp => by have:=hi p hp; omega,fun x hx => ?_,fun h => ?_,fun _ => ?_⟩
      · by_cases hxi:x < i
        · exact hk x hxi
        · obtain rfl:x = i:=by omega
          rw [inS_past hi,hb]; rfl
      · rw [sub1,hb] at h; cases h.2
      · have:=endOf_le S (-1) (show (-1:Int) ≤ (i:Int) by omega) hi
        omega
    · have hb':B.getD i false = false:=by simpa using hb
      rw [if_neg hb]
      by_cases hp:0 < i ∧ B.getD (i - 1) false = false
      · rw [if_pos hp]
        obtain ⟨T,a,rfl⟩:=ho hp
        obtain ⟨t0,t1,t2⟩:=(holeE_snoc _ T (-1)).1 h0
        have t1':=badS_no.1 t1
        have hS:(T ++ [(a,(i:Int))]).set ((T ++ [(a,(i:Int))]).length - 1) (((T ++ [(a,(i:Int))]).getD ((T ++ [(a,(i:Int))]).length - 1) (0,0)).1,(i:Int) + 1) = T ++ [(a,((i + 1:Nat):Int))]:=by
          simp
        rw [hS]
        refine ⟨(holeE_snoc _ T (-1)).2 ⟨t0,badS_no.2 ⟨t1'.1,?_,?_⟩,t2⟩,fun p hp => ?_,fun x hx => ?_,fun _ => ⟨T,a,rfl⟩,fun h => ?_⟩
        · have:a < (i:Int):=t1'.2.1
          show a < ((i + 1:Nat):Int)
          omega
        · show ((i + 1:Nat):Int) ≤ _
          omega
        · rcases List.mem_append.1 hp with hp | hp
          · have:=hi p (List.mem_append_left _ hp); omega
          · simp at hp; subst hp; exact Int.le_refl _
        · have ha:a < (i:Int):=t1'.2.1
          by_cases hxi:x < i
          · rw [← hk x hxi,List.any_append,List.any_append]
            congr 1
            simp only [List.any_cons,List.any_nil,Bool.or_false,inS]
            congr 1
            rw [decide_eq_true (by omega:(x:Int) < ((i + 1:Nat):Int)),decide_eq_true (by omega:(x:Int) < (i:Int))]
          · obtain rfl:x = i:=by omega
            rw [hb',List.any_append]
            simp only [List.any_cons,List.any_nil,Bool.or_false,inS]
            rw [decide_eq_true (by omega:(x:Int) ≥ a),decide_eq_true (by omega:(x:Int) < ((x + 1:Nat):Int))]
            simp
        · rw [sub1] at h
          exact absurd ⟨by omega,hb'⟩ h
      · rw [if_neg hp]
        have hc':=hc hp
        refine ⟨(holeE_snoc _ S (-1)).2 ⟨h0,badS_no.2 ⟨by show (0:Int) ≤ (i:Int); omega,by show (i:Int) < (i:Int) + 1; omega,by show (i:Int) + 1 ≤ _; omega⟩,hc'⟩,fun p hp => ?_,fun x hx => ?_,fun _ => ⟨S,(i:Int),rfl⟩,fun h => ?_⟩
        · rcases List.mem_append.1 hp with hp | hp
          · have:=hi p hp; omega
          · simp at hp; subst hp; show (i:Int) + 1 ≤ _; omega
        · rw [List.any_append]
          by_cases hxi:x < i
          · rw [← hk x hxi]
            simp only [List.any_cons,List.any_nil,Bool.or_false,inS]
            rw [decide_eq_false (by omega:¬ (x:Int) ≥ (i:Int))]
            simp
          · obtain rfl:x = i:=by omega
            rw [hb']
            simp only [List.any_cons,List.any_nil,Bool.or_false,inS]
            rw [decide_eq_true (by omega:(x:Int) ≥ (x:Int)),decide_eq_true (by omega:(x:Int) < (x:Int) + 1)]
            simp
        · rw [sub1] at h
          exact absurd ⟨by omega,hb'⟩ h
theorem known_holes (B:List Bool):knownL (holesOf B) B.length = B:=by
 have H:=holeI B B.length (Nat.le_refl _)
 apply List.ext_getElem?
 intro x
 by_cases hx:x < B.length
 ·unfold knownL
  rw [List.getElem?_map,List.getElem?_range hx]
  show some (knownB (holesOf B) x) = _
  unfold knownB
  rw [show (holesOf B).any (inS x) = !B.getD x false from H.hk x hx,Bool.not_not,List.getD_eq_getElem?_getD,List.getElem?_eq_getElem hx]
  rfl
 ·rw [List.getElem?_eq_none (by rw [knownL_len]; omega),List.getElem?_eq_none (by omega)]
theorem holes_ok (B:List Bool):holeE B.length (-1) (holesOf B) = 0:=(holeI B B.length (Nat.le_refl _)).h0
def DarkC (C:List (Int × Bool)):Prop:=∀ c,c ∈ C → c.2 = false → c.1 = 0
theorem made_run {s:ByteArray} {n:Int} {C:List (Int × Bool)} (hd:headE s n C.length = 0) (hn:n + C.length ≤ 100000000) (lim:∀ c,c ∈ C → c.1.natAbs ≤ 16384) (dk:DarkC C) :
    ∃ es,SErr (C.map fun c => smp c.1) es ∧ Lev (C.map fun c => smp c.1) (C.map fun c => c.1) ∧ runE s n (C.map fun c => smp c.1).length (holesOf (C.map fun c => c.2)) es (C.map fun c => c.1) = 0 ∧ Valid s n (C.map fun c => smp c.1) (holesOf (C.map fun c => c.2)) (C.map fun c => c.1) ∧ cellsL (C.map fun c => c.1) (holesOf (C.map fun c => c.2)) = C:=by
  have hL:=lev_smp lim
  obtain ⟨es,hE,h0⟩:=serr_zero hL
  have hlen:(C.map fun c => smp c.1).length = C.length:=by simp
  have hlen2:(C.map fun c => c.2).length = C.length:=by simp
  have ho:holeE C.length (-1) (holesOf (C.map fun c => c.2)) = 0:=by have:=holes_ok (C.map fun c => c.2); rwa [hlen2] at this
  have hK:knownL (holesOf (C.map fun c => c.2)) C.length = C.map fun c => c.2:=by have:=known_holes (C.map fun c => c.2); rwa [hlen2] at this
  have hin:=holeE_in ho
  have hform:(holesOf (C.map fun c => c.2)).any (anyIn (C.map fun c => c.1)) = false:=by
    cases hb:(holesOf (C.map fun c => c.2)).any (anyIn (C.map fun c => c.1)) with
    | false => rfl
    | true =>
      obtain ⟨j,x,hj,hx,hk⟩:=(form_iff hin).1 hb
      rw [List.getElem?_map] at hj
      cases hc:C[j]? with
      | none => rw [hc] at hj; cases hj
      | some c =>
        have hjl:j < C.length:=(List.getElem?_eq_some_iff.1 hc).1
        have hkj:(knownL (holesOf (C.map fun c => c.2)) C.length)[j]? = some (knownB (holesOf (C.map fun c => c.2)) j):=by
          unfold knownL
          rw [List.getElem?_map,List.getElem?_range hjl]; rfl
        rw [hK,List.getElem?_map,hc,hk] at hkj
        rw [hc] at hj
        exact absurd ((Option.some.inj hj).symm.trans (dk c (List.mem_of_getElem? hc) (Option.some.inj hkj))) hx
  obtain ⟨_,n0,n1,hm⟩:=headE_zero hd
  have hr:runE s n (C.map fun c => smp c.1).length (holesOf (C.map fun c => c.2)) es (C.map fun c => c.1) = 0:=by
    unfold runE tailE formE
    rw [hlen,hd,h0,ho,hform,decide_eq_false (by omega)]
    rfl
  refine ⟨es,hE,hL,hr,valid_of (fun _ => hL) hr,?_⟩
  rw [cells_eq hL (by rw [hlen]; exact hin),hlen,hK]
  apply List.ext_getElem?
  intro i
  cases hc:C[i]? with
  | none =>
    have:C.length ≤ i:=List.getElem?_eq_none_iff.1 hc
    rw [List.getElem?_eq_none (by rw [cellsK_ln (by simp)]; simp; omega)]
  | some c =>
    rw [cellsK_get (x:=c.1) (p:=c.2) (by rw [List.getElem?_map,hc]; rfl) (by rw [List.getElem?_map,hc]; rfl)]
    obtain ⟨x,k⟩:=c
    cases k with
    | true => rfl
    | false =>
      have h1:x = 0:=dk _ (List.mem_of_getElem? hc) rfl
      subst h1; rfl
theorem Valid.darkC {s:ByteArray} {n:Int} {F:List Nat} {S:List (Int × Int)} {L:List Int} (V:Valid s n F S L):DarkC (cellsL L S):=by
 rw [V.cells]
 intro c hc hk
 obtain ⟨i,hi,e⟩:=List.getElem_of_mem hc
 have kl:=V.kl
 rw [cellsK_ln kl] at hi
 have hx:L[i]? = some L[i]:=List.getElem?_eq_getElem hi
 have hp:(knownL S F.length)[i]? = some (knownL S F.length)[i]:=List.getElem?_eq_getElem (by omega)
 have hg:=cellsK_get hx hp
 rw [List.getElem?_eq_getElem (by rw [cellsK_ln kl]; exact hi),e] at hg
 have:=Option.some.inj hg
 cases hb:(knownL S F.length)[i] with
 | true => rw [hb] at this; rw [this] at hk; cases hk
 | false => rw [hb] at this; rw [this]; rfl
end Go.Tidy
namespace Go.Tidy
open Go Go.Proofs Tab
theorem known_no {S:List (Int × Int)} {x:Int}:knownB S x = false ↔ ∃ p,p ∈ S ∧ p.1 ≤ x ∧ x < p.2:=by
 unfold knownB
 rw [Bool.not_eq_false',List.any_eq_true]
 constructor
 ·rintro ⟨p,hp,h⟩
  unfold inS at h
  simp only [Bool.and_eq_true,decide_eq_true_eq] at h
  exact ⟨p,hp,h.1,h.2⟩
 ·rintro ⟨p,hp,h1,h2⟩
  refine ⟨p,hp,?_⟩
  unfold inS
  rw [decide_eq_true h1,decide_eq_true h2]; rfl
theorem holeE_tail {m:Nat} {prev:Int} {p:Int × Int} {r:List (Int × Int)} (h:holeE m prev (p :: r) = 0):badS m p = false ∧ prev < p.1 ∧ holeE m p.2 r = 0:=by
 rw [holeE_cons] at h
 cases hb:badS m p with
 | true => rw [hb] at h; cases h
 | false =>
  rw [hb] at h
  by_cases hc:p.1 ≤ prev
  ·rw [decide_eq_true hc] at h; cases h
  ·rw [decide_eq_false hc] at h
   exact ⟨rfl,by omega,h⟩
theorem known_tail {p:Int × Int} {r:List (Int × Int)} {x:Int} (hx:p.2 ≤ x):knownB (p :: r) x = knownB r x:=by
 unfold knownB
 rw [List.any_cons]
 unfold inS
 rw [decide_eq_false (by omega:¬ x < p.2),Bool.and_false,Bool.false_or]
theorem holes_first {m:Nat} {prev:Int} {p:Int × Int} {r:List (Int × Int)} (h:holeE m prev (p :: r) = 0) {x:Int} (hx:knownB (p :: r) x = false):p.1 ≤ x:=by
 obtain ⟨q,hq,h1,_⟩:=known_no.1 hx
 obtain ⟨b,_,t⟩:=holeE_tail h
 have:=badS_no.1 b
 rcases List.mem_cons.1 hq with rfl | hq
 ·exact h1
 ·have:=holeE_after t q hq
  omega
theorem holes_end {m:Nat} {prev:Int} {p:Int × Int} {r:List (Int × Int)} (h:holeE m prev (p :: r) = 0):knownB (p :: r) p.2 = true:=by
 cases hb:knownB (p :: r) p.2 with
 | true => rfl
 | false =>
  rw [known_tail (Int.le_refl _)] at hb
  obtain ⟨q,hq,h1,_⟩:=known_no.1 hb
  have:=holeE_after (holeE_tail h).2.2 q hq
  omega
theorem holes_uniq {m:Nat}:∀ {S T:List (Int × Int)} {prev:Int},-1 ≤ prev → holeE m prev S = 0 → holeE m prev T = 0 → (∀ x:Nat,prev < (x:Int) → knownB S x = knownB T x) → S = T
  | [],[],_,_,_,_,_ => rfl
  | [],q :: t,prev,h0,_,hT,h => by
    obtain ⟨b,a,_⟩:=holeE_tail hT
    have b':=badS_no.1 b
    obtain ⟨x,hx⟩:=Int.eq_ofNat_of_zero_le b'.1
    have h1:=h x (by omega)
    rw [show knownB (q :: t) (x:Int) = false from known_no.2 ⟨q,List.mem_cons_self ..,by omega,by omega⟩] at h1
    cases h1
  | p :: r,[],prev,h0,hS,_,h => by
    obtain ⟨b,a,_⟩:=holeE_tail hS
    have b':=badS_no.1 b
    obtain ⟨x,hx⟩:=Int.eq_ofNat_of_zero_le b'.1
    have h1:=h x (by omega)
    rw [show knownB (p :: r) (x:Int) = false from known_no.2 ⟨p,List.mem_cons_self ..,by omega,by omega⟩] at h1
    cases h1
  | p :: r,q :: t,prev,h0,hS,hT,h => by
    obtain ⟨b,a,tS⟩:=holeE_tail hS
    obtain ⟨c,d,tT⟩:=holeE_tail hT
    have b':=badS_no.1 b
    have c':=badS_no.1 c
    obtain ⟨p1,p2⟩:=p
    obtain ⟨q1,q2⟩:=q
    simp only at b' c' a d
    obtain ⟨x,rfl⟩:=Int.eq_ofNat_of_zero_le b'.1
    obtain ⟨y,rfl⟩:=Int.eq_ofNat_of_zero_le c'.1
    obtain ⟨u,rfl⟩:=Int.eq_ofNat_of_zero_le (show 0 ≤ p2 by omega)
    obtain ⟨v,rfl⟩:=Int.eq_ofNat_of_zero_le (show 0 ≤ q2 by omega)
    have e1:(y:Int) ≤ x:=holes_first hT (x:=(x:Int)) (by rw [← h x a]; exact known_no.2 ⟨_,List.mem_cons_self ..,Int.le_refl _,b'.2.1⟩)
    have e2:(x:Int) ≤ y:=holes_first hS (x:=(y:Int)) (by rw [h y d]; exact known_no.2 ⟨_,List.mem_cons_self ..,Int.le_refl _,c'.2.1⟩)
    obtain rfl:x = y:=by omega
    have f1:¬ (u:Int) < v:=fun hl => by
      have:=h u (by omega)
      rw [show knownB (((x:Int),(u:Int)) :: r) (u:Int) = true from holes_end hS,show knownB (((x:Int),(v:Int)) :: t) (u:Int) = false from known_no.2 ⟨_,List.mem_cons_self ..,by show (x:Int) ≤ u; omega,hl⟩] at this
      cases this
    have f2:¬ (v:Int) < u:=fun hl => by
      have:=h v (by omega)
      rw [show knownB (((x:Int),(v:Int)) :: t) (v:Int) = true from holes_end hT,show knownB (((x:Int),(u:Int)) :: r) (v:Int) = false from known_no.2 ⟨_,List.mem_cons_self ..,by show (x:Int) ≤ v; omega,hl⟩] at this
      cases this
    obtain rfl:u = v:=by omega
    congr 1
    refine holes_uniq (prev:=(u:Int)) (by omega) tS tT fun z hz => ?_
    have:=h z (by omega)
    rwa [known_tail (by show (u:Int) ≤ z; omega),known_tail (by show (u:Int) ≤ z; omega)] at this
theorem known_past {m:Nat} {S:List (Int × Int)} (hin:In m S) {x:Int} (hx:(m:Int) ≤ x):knownB S x = true:=by
 cases hb:knownB S x with
 | true => rfl
 | false =>
  obtain ⟨p,hp,h1,h2⟩:=known_no.1 hb
  have:=(hin p hp).2.2
  omega
theorem knownL_get {S:List (Int × Int)} {m i:Nat} (hi:i < m):(knownL S m)[i]? = some (knownB S i):=by
 unfold knownL
 rw [List.getElem?_map,List.getElem?_range hi]; rfl
theorem holesOf_get {K:List Bool} {i:Nat} (hi:i < K.length):K[i]? = some (knownB (holesOf K) i):=by
 have:=knownL_get (S:=holesOf K) hi
 rwa [known_holes] at this
theorem holes_back {m:Nat} {S:List (Int × Int)} (h:holeE m (-1) S = 0):holesOf (knownL S m) = S:=by
 have hl:=knownL_len S m
 have h2:=holes_ok (knownL S m)
 rw [hl] at h2
 refine holes_uniq (Int.le_refl _) h2 h fun x _ => ?_
 by_cases hx:x < m
 ·have e1:=holesOf_get (K:=knownL S m) (i:=x) (by omega)
  rw [knownL_get hx] at e1
  exact (Option.some.inj e1).symm
 ·rw [known_past (holeE_in h2) (by omega),known_past (holeE_in h) (by omega)]
theorem setN_in {α:Type} {l:List α} {p:Nat} {g:Nat → α} {q:Nat} (h1:p ≤ q) (h3:q < l.length):∀ w,q < p + w → (setN l p g w)[q]? = some (g (q - p))
  | 0,h => by omega
  | w + 1,h => by
    show ((setN l p g w).set _ _)[q]? = _
    by_cases hq:q = p + w
    · subst hq
      rw [List.getElem?_set_self (by rw [setN_len]; exact h3)]
      congr 2; omega
    · rw [List.getElem?_set_ne (by omega),setN_in h1 h3 w (by omega)]
end Go.Tidy
namespace Go.Tidy
open Go Go.Proofs Tab
variable {tp:TProg}
theorem short_small {s:ByteArray} {m k:Nat} (h:shortB s m k = true):m ≤ 4097 ∧ k ≤ 12:=by
 simp only [shortB,Bool.and_eq_true,Bool.or_eq_true,decide_eq_true_eq,beq_iff_eq] at h
 omega
end Go.Tidy
namespace Go.Tidy
open Go Go.Proofs Tab
variable {tp:TProg}
theorem JoinR.out {h h':TH} {v:Value} {s:ByteArray} {n:Int} {Z:List Int} {Y:List Bool} {e:Int} (r:JoinR h h' v s n Z Y e):∃ sz nz bo1 l1 k1 bo2 l2 k2,v = .tuple #[runV sz nz (.slice bo1 l1 k1) (.slice bo2 l2 k2),.int .i64 e] ∧ HX h h' ∧ (e ≠ 0 → (Value.slice bo1 l1 k1 = .slice none 0 0 ∧ Value.slice bo2 l2 k2 = .slice none 0 0)) ∧ (e = 0 → (sz = s ∧ nz = n) ∧ RunO h.next h' (.slice bo1 l1 k1) (.slice bo2 l2 k2) (madeF Z Y) (holesOf Y)):=by
 obtain ⟨X,⟨he,rfl⟩ | ⟨rfl,w1,w2,rfl,O⟩⟩:=r
 ·exact ⟨_,_,_,_,_,_,_,_,rfl,X,fun _ => ⟨rfl,rfl⟩,fun h => absurd h he⟩
 ·obtain ⟨bo1,k1,rfl⟩:=O.r.f.form
  obtain ⟨bo2,k2,rfl⟩:=O.r.s.form
  exact ⟨_,_,_,_,_,_,_,_,rfl,X,fun h => absurd rfl h,fun _ => ⟨⟨rfl,rfl⟩,O⟩⟩
theorem SumR.out {h h':TH} {v:Value} {s:ByteArray} {n:Int} {Z:List Int} {Y:List Bool} {sh:Bool} (hY:sh = true → Y.length = Z.length) (r:SumR h h' v s n Z Y sh):JoinR h h' v s n Z Y (cond (!sh) 2 (cond (allOk (cellsK Z Y)) 0 4)):=by
 obtain ⟨X,⟨rfl,rfl⟩ | ⟨rfl,no,rfl⟩ | ⟨rfl,ok,w1,w2,rfl,O⟩⟩:=r
 ·exact ⟨X,.inl ⟨by simp,rfl⟩⟩
 ·have:allOk (cellsK Z Y) = false:=by
   cases hb:allOk (cellsK Z Y) with
   | false => rfl
   | true => exact absurd ((ok_cells (hY rfl)).1 hb) no
  rw [this]
  exact ⟨X,.inl ⟨by decide,rfl⟩⟩
 ·rw [(ok_cells (hY rfl)).2 ok]
  exact ⟨X,.inr ⟨rfl,w1,w2,rfl,O⟩⟩
end Go.Tidy
namespace Go.Tidy
open Go Go.Proofs Tab
variable {tp:TProg}
structure Cel (s:ByteArray) (n:Int) (F:List Nat) (es:List Int) (C:List (Int × Bool)):Prop where
 len:F.length = C.length
 e:SErr F es
 lev:Lev F (C.map fun c => c.1)
 r:runE s n F.length (holesOf (C.map fun c => c.2)) es (C.map fun c => c.1) = 0
 v:Valid s n F (holesOf (C.map fun c => c.2)) (C.map fun c => c.1)
 c:cellsL (C.map fun c => c.1) (holesOf (C.map fun c => c.2)) = C
def RunC (s:ByteArray) (n:Int) (h:TH) (v1 v2:Value) (C:List (Int × Bool)):Prop:=∃ F es,RunH h v1 v2 F (holesOf (C.map fun c => c.2)) ∧ Cel s n F es C
theorem RunC.hx {s:ByteArray} {n:Int} {h h':TH} {v1 v2:Value} {C:List (Int × Bool)} (r:RunC s n h v1 v2 C) (x:HX h h'):RunC s n h' v1 v2 C:=by
 obtain ⟨F,es,r,c⟩:=r
 exact ⟨F,es,r.hx x,c⟩
section
variable {s:ByteArray} {n:Int} {F:List Nat} {es L:List Int} {S:List (Int × Int)} {C:List (Int × Bool)}
theorem Cel.m (c:Cel s n F es C):C.length ≤ 4096:=by have:=c.v.m; rw [c.len] at this; exact this
theorem Cel.lim (c:Cel s n F es C):∀ x,x ∈ C → x.1.natAbs ≤ 16384:=by have:=c.v.lim; rwa [c.c] at this
theorem Cel.dk (c:Cel s n F es C):DarkC C:=by have:=c.v.darkC; rwa [c.c] at this
theorem Cel.holes (_:Cel s n F es C):(holesOf (C.map fun c => c.2)).length ≤ C.length:=by
 have:=holesN_len (C.map fun c => c.2) (C.map fun c => c.2).length
 show (holesN _ _).length ≤ _
 rwa [List.length_map] at this ⊢
theorem Cel.head (c:Cel s n F es C):headE s n C.length = 0:=by
 have:=c.r
 unfold runE at this
 rw [c.len] at this
 rcases nz_cases (headE s n C.length) with h | h
 ·exact h
 ·rw [h] at this; rw [show headE s n C.length = 0 from this] at h; cases h
theorem Cel.top (c:Cel s n F es C):n + C.length ≤ 100000000:=by have:=c.v.n1; rw [c.len] at this; exact this
theorem Valid.back (V:Valid s n F S L):((cellsL L S).map fun c => c.1) = L ∧ holesOf ((cellsL L S).map fun c => c.2) = S:=by
 have kl:=V.kl
 have ll:=V.lev.1
 constructor
 ·apply List.ext_getElem?
  intro i
  rw [List.getElem?_map]
  by_cases hi:i < F.length
  ·obtain ⟨k,hk⟩:=V.cell hi
   rw [hk,List.getElem?_eq_getElem (by omega:i < L.length)]
   simp [List.getD_eq_getElem?_getD,List.getElem?_eq_getElem (by omega:i < L.length)]
  ·rw [List.getElem?_eq_none (by rw [cells_len V.lev V.in_]; omega),List.getElem?_eq_none (by omega)]
   rfl
 ·rw [V.cells,cellsK_snd kl,holes_back V.hole]
theorem Cel.of (V:Valid s n F S L) (hE:SErr F es) (h0:runE s n F.length S es L = 0):Cel s n F es (cellsL L S):=by
 obtain ⟨b1,b2⟩:=V.back
 refine ⟨(cells_len V.lev V.in_).symm,hE,by rw [b1]; exact V.lev,by rw [b1,b2]; exact h0,by rw [b1,b2]; exact V,by rw [b1,b2]⟩
theorem Cel.made (hd:headE s n C.length = 0) (hn:n + C.length ≤ 100000000) (lim:∀ c,c ∈ C → c.1.natAbs ≤ 16384) (dk:DarkC C):∃ es,Cel s n (C.map fun c => smp c.1) es C:=by
 obtain ⟨es,e1,e2,e3,e4,e5⟩:=made_run hd hn lim dk
 exact ⟨es,by simp,e1,e2,e3,e4,e5⟩
theorem RunO.cel {B:Nat} {h:TH} {w1 w2:Value} (o:RunO B h w1 w2 (C.map fun c => smp c.1) (holesOf (C.map fun c => c.2))) (hd:headE s n C.length = 0) (hn:n + C.length ≤ 100000000) (lim:∀ c,c ∈ C → c.1.natAbs ≤ 16384) (dk:DarkC C):RunC s n h w1 w2 C:=by
 obtain ⟨es,c⟩:=Cel.made hd hn lim dk
 exact ⟨_,es,o.r,c⟩
end
section
variable {s:ByteArray} {n:Int} {h:TH} {v1 v2 w1 w2:Value} {C D:List (Int × Bool)}
def NewC (s:ByteArray) (n:Int) (C:List (Int × Bool)) (h:TH) (v:Value) (h':TH):Prop :=
 ∃ bo1 l1 k1 bo2 l2 k2,v = .tuple #[runV s n (.slice bo1 l1 k1) (.slice bo2 l2 k2),.int .i64 0] ∧ HX h h' ∧ RunC s n h' (.slice bo1 l1 k1) (.slice bo2 l2 k2) C ∧ Above h.next (.slice bo1 l1 k1) ∧ Above h.next (.slice bo2 l2 k2)
theorem RunR.new {h':TH} {v:Value} (r:RunR h h' v s n C 0) (hd:headE s n C.length = 0) (hn:n + C.length ≤ 100000000) (lim:∀ c,c ∈ C → c.1.natAbs ≤ 16384) (dk:DarkC C):NewC s n C h v h':=by
 obtain ⟨X,⟨he,_⟩ | ⟨_,w1,w2,rfl,O⟩⟩:=r
 ·exact absurd rfl he
 ·obtain ⟨bo1,k1,rfl⟩:=O.r.f.form
  obtain ⟨bo2,k2,rfl⟩:=O.r.s.form
  exact ⟨_,_,_,_,_,_,rfl,X,O.cel hd hn lim dk,O.o1,O.o2⟩
theorem c31 (H:Has tp) (r:RunC s n h v1 v2 C):CallW Tryz.prog tp (.func (.func 12) #[] #[]) #[runV s n v1 v2] h fun v h' => v = .int .i64 0 ∧ HX h h':=by
 obtain ⟨F,es,r,c⟩:=r
 have m:=c.m
 have l:=c.len
 have q:=c.holes
 refine (k31 H r c.e (fun _ => c.lev) (by omega) (by omega)).mono ?_
 rintro v h' ⟨rfl,x⟩
 rw [c.r]
 exact ⟨rfl,x⟩
theorem c28 (H:Has tp) (X:HasX tp) (r:RunC s n h v1 v2 C) (f:Free0 h.next h):CallW Tryz.prog tp (.func (.func 13) #[] #[]) #[runV s n v1 v2] h fun v h' => NewC s n C.reverse h v h':=by
 obtain ⟨F,es,r,c⟩:=r
 have m:=c.m
 have l:=c.len
 have q:=c.holes
 refine (k28 H X r c.e (fun _ => c.lev) (by omega) (by omega) f).mono ?_
 intro v h' R
 rw [c.r,c.c] at R
 exact R.new (by rw [List.length_reverse]; exact c.head) (by rw [List.length_reverse]; exact c.top) (fun x hx => c.lim x (List.mem_reverse.1 hx)) (fun x hx => c.dk x (List.mem_reverse.1 hx))
theorem c57 (H:Has tp) (r:RunC s n h v1 v2 C) (r':RunC s n h w1 w2 C):CallW Tryz.prog tp (.func (.func 14) #[] #[]) #[runV s n v1 v2,runV s n w1 w2] h fun v h' => v = .bool true ∧ HX h h':=by
 obtain ⟨F,es,r,c⟩:=r
 obtain ⟨F',es',r',c'⟩:=r'
 have m:=c.m
 have l:=c.len
 have q:=c.holes
 exact k57 H r.f r'.f c.lev c'.lev r.s r'.s (by omega) (by omega)
theorem c29 (H:Has tp) (X:HasX tp) (r:RunC s n h v1 v2 C) (f:Free0 h.next h):CallW Tryz.prog tp (.func (.func 21) #[] #[]) #[runV s n v1 v2] h fun v h' => v = .tuple #[.int .i64 (sqL (knownV C)),.int .i64 0] ∧ HX h h':=by
 obtain ⟨F,es,r,c⟩:=r
 have m:=c.m
 have l:=c.len
 have q:=c.holes
 refine (k29 H X r c.e (fun _ => c.lev) (by omega) (by omega) f).mono ?_
 rintro v h' ⟨rfl,x⟩
 rw [c.r,c.c]
 exact ⟨rfl,x⟩
theorem scC_dark {m d:Int} (hd:0 < d) (h:DarkC C):DarkC (scC m d C):=fun c hc hk => by
 unfold scC at hc
 obtain ⟨x,hx,rfl⟩:=List.mem_map.1 hc
 have:=h x hx hk
 show rnd (x.1 * m) d = 0
 rw [this,Int.zero_mul,rnd_zero hd]
theorem c43 (H:Has tp) (X:HasX tp) {m d:Int} (hm:outB m (-1000) 1000 = 0) (hd:outB d 1 1000 = 0) (r:RunC s n h v1 v2 C) (f:Free0 h.next h):CallW Tryz.prog tp (.func (.func 19) #[] #[]) #[runV s n v1 v2,.int .i64 m,.int .i64 d] h fun v h' =>
  (allOk (scC m d C) = false ∧ v = .tuple #[run0,.int .i64 4] ∧ HX h h') ∨ (allOk (scC m d C) = true ∧ NewC s n (scC m d C) h v h'):=by
 obtain ⟨F,es,r,c⟩:=r
 have mm:=c.m
 have l:=c.len
 have q:=c.holes
 have d1:=outB_zero hd
 refine (k43 H X r c.e (fun _ => c.lev) (by omega) (by omega) f).mono ?_
 intro v h' R
 rw [c.r,c.c,hm,hd] at R
 cases hb:allOk (scC m d C) with
 | false =>
  left
  have he:scErr (firstNZ [0,0,0]) (scC m d C) = 4:=by unfold scErr; rw [hb]; rfl
  rw [he] at R
  obtain ⟨x,⟨_,rfl⟩ | ⟨e,_⟩⟩:=R
  ·exact ⟨rfl,rfl,x⟩
  ·cases e
 | true =>
  right
  have he:scErr (firstNZ [0,0,0]) (scC m d C) = 0:=by unfold scErr; rw [hb]; rfl
  rw [he] at R
  exact ⟨rfl,R.new (by rw [scC_ok]; exact c.head) (by rw [scC_ok]; exact c.top) (allOk_iff.1 hb) (scC_dark (by omega) c.dk)⟩
end
end Go.Tidy
namespace Go.Tidy
open Go Go.Proofs Tab
variable {tp:TProg}
theorem sumL_rev:∀ l:List Int,sumL l.reverse = sumL l
 | [] => rfl
 | x :: l => by
  rw [List.reverse_cons,sumL_append,sumL_rev l]
  show sumL l + (x + 0) = x + sumL l
  omega
end Go.Tidy
namespace Go.Tidy
open Go Go.Proofs Tab
variable {tp:TProg}
theorem headE_of {s:ByteArray} {n:Int} {m:Nat} (h1:nameB s = true) (h2:0 ≤ n) (h3:n ≤ 100000000) (h4:m ≤ 4096):headE s n m = 0:=by
 unfold headE outB
 rw [h1,decide_eq_false (by omega:¬ n < 0),decide_eq_false (by omega:¬ n > 100000000),decide_eq_false (by omega:¬ (m:Int) > 4096)]
 rfl
section
variable {s s':ByteArray} {n n':Int} {h:TH} {v1 v2 w1 w2:Value} {C D:List (Int × Bool)}
def partC (C:List (Int × Bool)) (lo hi:Nat):List (Int × Bool):=(C.drop lo).take (hi - lo)
theorem partC_len {lo hi:Nat} (h1:lo ≤ hi) (h2:hi ≤ C.length):(partC C lo hi).length = hi - lo:=by unfold partC; rw [List.length_take,List.length_drop]; omega
theorem partC_mem {lo hi:Nat} {c:Int × Bool} (h:c ∈ partC C lo hi):c ∈ C:=List.mem_of_mem_drop (List.mem_of_mem_take h)
theorem c27 (H:Has tp) (X:HasX tp) {lo hi:Nat} (h1:lo < hi) (h2:hi ≤ C.length) (r:RunC s n h v1 v2 C) (f:Free0 h.next h):CallW Tryz.prog tp (.func (.func 18) #[] #[]) #[runV s n v1 v2,.agg #[.int .i64 (n + lo),.int .i64 (n + hi)]] h fun v h' => NewC s (n + lo) (partC C lo hi) h v h':=by
 obtain ⟨F,es,r,c⟩:=r
 have m:=c.m
 have l:=c.len
 have q:=c.holes
 have n1:=c.top
 obtain ⟨e1,e2,e3,_⟩:=headE_zero c.head
 refine (k27 H X r c.e (fun _ => c.lev) (by omega) (by omega) f).mono ?_
 intro v h' R
 have ho:offB n F.length (n + lo,n + hi) = false:=by
  unfold offB
  rw [decide_eq_false (by show ¬ n + (lo:Int) < n; omega),decide_eq_false (by show ¬ n + (lo:Int) ≥ n + hi; omega),decide_eq_false (by show ¬ n + (hi:Int) > n + F.length; omega)]
  rfl
 rw [c.r,c.c,ho,show (n + (lo:Int) - n).toNat = lo by omega,show (n + (hi:Int) - n).toNat = hi by omega] at R
 have pl:=partC_len (C:=C) (by omega:lo ≤ hi) h2
 exact RunR.new (C:=partC C lo hi) R (headE_of e1 (by omega) (by omega) (by omega)) (by rw [pl]; omega) (fun x hx => c.lim x (partC_mem hx)) (fun x hx => c.dk x (partC_mem hx))
def knownC (C:List (Int × Bool)) (x:Int):Bool:=knownB (holesOf (C.map fun c => c.2)) x
theorem knownC_get {i:Nat} {c:Int × Bool} (hc:C[i]? = some c):knownC C i = c.2:=by
 have hi:i < (C.map fun c => c.2).length:=by rw [List.length_map]; exact (List.getElem?_eq_some_iff.1 hc).1
 have:=holesOf_get hi
 rw [List.getElem?_map,hc] at this
 exact (Option.some.inj this).symm
theorem c39 (H:Has tp) (x:Int) (r:RunC s n h v1 v2 C):CallW Tryz.prog tp (.func (.func 23) #[] #[]) #[runV s n v1 v2,.int .i64 x] h fun v h' => v = .bool (knownC C x) ∧ HX h h':=by
 obtain ⟨F,es,r,c⟩:=r
 have m:=c.m
 have q:=c.holes
 exact k39 H r.s (by omega)
end
end Go.Tidy
namespace Go.Tidy
open Go Go.Proofs Tab
variable {tp:TProg}
theorem lev_some (F:List Nat):∃ es L,SErr F es ∧ (firstNZ es = 0 → Lev F L):=by
 obtain ⟨es,hE⟩:=serr_ex F
 by_cases h0:firstNZ es = 0
 ·obtain ⟨L,hL⟩:=lev_ex F es hE (firstNZ_zero h0)
  exact ⟨es,L,hE,fun _ => hL⟩
 ·exact ⟨es,[],hE,fun h => absurd h h0⟩
attribute [local irreducible] Ty valOf
end Go.Tidy
namespace Go.Tidy
open Go Go.Proofs Tab
variable {tp:TProg}
section
variable {P:Program} {h:TH} {K:Regs → TH → Prop} {rest:List TOper} {d:Option Tmp} {ty:TypeId} {i:Nat} {x y:Operand} {t u:TypeId} {L:Rg}
theorem WOL.fne {b c:Nat} {m n:Int} (s:Samp b m) (s':Samp c n) (hx:getL L x = some (.float .f32 b)) (hy:getL L y = some (.float .f32 c)) (w:∀ a,Kn (putL L d (.bool (!decide (m = n)))) a → WO P tp rest a h K):∀ a,Kn L a → WO P tp (⟨d,.binOp .neq t x y u,ty,none,[],i⟩ :: rest) a h K:=fun a k => WO.fcmp (k.o hx) (k.o hy) s.nan s'.nan (s.cmp s').2 (w _ (k.put d _))
end
section
variable {s:ByteArray} {n:Int} {g:TH} {v1 v2 p1 p2:Value} {C:List (Int × Bool)} {c2 c3 c5':Nat}
end
end Go.Tidy
namespace Go.Tidy
open Go Go.Proofs Tab
variable {tp:TProg}
theorem ne_same (z:Int):fastBin .neq (.int .i64 z) (.int .i64 z) = some (.bool false):=by
 show some (Value.bool (z != z)) = _
 simp
section
variable {s:ByteArray} {n:Int} {g:TH} {v1 v2 p1 p2:Value} {C D:List (Int × Bool)} {c2 c3 c5':Nat}
end
end Go.Tidy
namespace Go.Tidy
open Go Go.Proofs Tab
variable {tp:TProg}
section
variable {s:ByteArray} {n:Int} {g:TH} {v1 v2 p1 p2:Value} {C:List (Int × Bool)} {c2 c3 c5':Nat}
theorem RunC.lens (r:RunC s n g v1 v2 C):∃ F:List Nat,F.length = C.length ∧ SlL encF 1 g v1 F:=by
 obtain ⟨F,es,r,c⟩:=r
 exact ⟨F,c.len,r.f⟩
theorem RunC.relock (r:RunC s n g v1 v2 C) (M:List Nat):RunC s n (g.withLock M) v1 v2 C:=by
 obtain ⟨F,es,r,c⟩:=r
 exact ⟨F,es,r.relock' M,c⟩
theorem RunC.hx' {h':TH} (r:RunC s n g v1 v2 C) (x:HX g h') (M:List Nat):RunC s n (h'.withLock M) v1 v2 C:=(r.hx x).relock M
theorem RunC.small (r:RunC s n g v1 v2 C):C.length ≤ 4096 ∧ 0 ≤ n ∧ n + C.length ≤ 100000000 ∧ DarkC C ∧ ∀ x,x ∈ C → x.1.natAbs ≤ 16384:=by
 obtain ⟨F,es,r,c⟩:=r
 exact ⟨c.m,c.v.n0,c.top,c.dk,c.lim⟩
end
attribute [local irreducible] Ty valOf
end Go.Tidy
namespace Go.Tidy
open Go Go.Proofs Tab
variable {tp:TProg}
theorem RunC.away {s:ByteArray} {n:Int} {h h':TH} {v1 v2:Value} {C:List (Int × Bool)} {n0 c:Nat} {x:TB} (r:RunC s n h v1 v2 C) (a1:Above n0 v1) (a2:Above n0 v2) (p:Put h h' c x) (hc:c < n0):RunC s n h' v1 v2 C:=by
 obtain ⟨F,es,r,q⟩:=r
 exact ⟨F,es,(RunO.away (n0:=n0) ⟨r,a1,a2⟩ p hc).r,q⟩
theorem u5:Tryz.prog.underlying 5 = some (.int .u8):=by kernel_rfl
theorem u94:Tryz.prog.underlying 28 = some (.array 3 5):=by kernel_rfl
theorem tp5:Tp Tryz.prog 5 1 [.int .u8 0] false:=tp_of (by kernel_rfl) (by kernel_rfl) rfl
theorem ixC0 {c:Nat}:indexAddrT Tryz.prog 28 (.pointer (some ⟨c,0,none⟩)) (.int .i64 0) = some (.pointer (some ⟨c,0,none⟩)):=by kernel_rfl
theorem ixC1 {c:Nat}:indexAddrT Tryz.prog 28 (.pointer (some ⟨c,0,none⟩)) (.int .i64 1) = some (.pointer (some ⟨c,1,none⟩)):=by kernel_rfl
theorem ixC2 {c:Nat}:indexAddrT Tryz.prog 28 (.pointer (some ⟨c,0,none⟩)) (.int .i64 2) = some (.pointer (some ⟨c,2,none⟩)):=by kernel_rfl
theorem WOL.convU {P:Program} {tp:TProg} {h:TH} {K:Regs → TH → Prop} {rest:List TOper} {d:Option Tmp} {ty:TypeId} {i:Nat} {x:Operand} {L:Rg} {s t:TypeId} {ds:TypeDesc} {k:IntKind} {n:Int} (hs:P.underlying s = some ds) (ht:P.underlying t = some (.int .i64)) (hx:getL L x = some (.int k n)) (h1:0 ≤ n) (h2:n ≤ 255) (w:∀ a,Kn (putL L d (.int .i64 n)) a → WO P tp rest a h K):∀ a,Kn L a → WO P tp (⟨d,.convert s t x,ty,none,[],i⟩ :: rest) a h K:=fun a q => by
 refine WO.conv (q.o hx) rfl (conv_i2i hs ht) rfl ?_
 rw [show IntKind.i64.wrap n = n from IntWalk.i64_in _ (by omega)]
 exact w _ (q.put d _)
section
variable {s:ByteArray} {n:Int} {g:TH} {v1 v2:Value} {C:List (Int × Bool)} {c2 c3:Nat}
end
end Go.Tidy
namespace Go.Tidy
open Go Go.Proofs Tab
variable {tp:TProg}
section
variable {s:ByteArray} {n:Int} {g:TH} {v1 v2:Value} {C:List (Int × Bool)} {c2 c3:Nat}
theorem RunC.samp (r:RunC s n g v1 v2 C):∃ F:List Nat,F.length = C.length ∧ SlL encF 1 g v1 F ∧ ∀ (i b:Nat) (c:Int × Bool),F[i]? = some b → C[i]? = some c → Samp b c.1:=by
 obtain ⟨F,es,r,q⟩:=r
 exact ⟨F,q.len,r.f,fun i b c hb hc => q.lev.2 i b c.1 hb (by rw [List.getElem?_map,hc]; rfl)⟩
end
end Go.Tidy
namespace Go.Tidy
open Go Go.Proofs Tab
variable {tp:TProg}
theorem Samp.order {b c:Nat} {n m:Int} (s:Samp b n) (t:Samp c m):Ieee.single.order b c = some (compare n m):=by
 obtain ⟨neg,q,h1,h2,h3⟩:=s.ok
 obtain ⟨neg',q',g1,g2,g3⟩:=t.ok
 obtain ⟨D,hD⟩:∃ D:Nat,2 ^ 149 = D:=⟨_,rfl⟩
 have hDp:0 < D:=by rw [← hD]; exact two_pow_pos 149
 have e1:=h2 D hD
 have e2:=g2 D hD
 have a1:sg neg q * (16:Nat) = n * (D:Nat):=by rw [← sg_mul,e1,sg_mul,h3]
 have a2:sg neg' q' * (16:Nat) = m * (D:Nat):=by rw [← sg_mul,e2,sg_mul,g3]
 rw [h1.order g1]
 generalize sg neg q = x at *
 generalize sg neg' q' = y at *
 have hDi:(0:Int) < (D:Int):=by omega
 have hlt:x < y ↔ n < m:=by
  constructor
  ·intro hq
   have:n * (D:Int) < m * (D:Int):=by rw [← a1,← a2]; omega
   exact Int.lt_of_mul_lt_mul_right this (by omega)
  ·intro hq
   have:n * (D:Int) < m * (D:Int):=Int.mul_lt_mul_of_pos_right hq hDi
   rw [← a1,← a2] at this
   omega
 have heq:x = y ↔ n = m:=by
  constructor
  ·intro hq
   rw [hq,a2] at a1
   exact (Int.eq_of_mul_eq_mul_right (by omega) a1).symm
  ·intro hq
   rw [hq,← a2] at a1
   omega
 congr 1
 show compareOfLessAndEq _ _ = compareOfLessAndEq _ _
 unfold compareOfLessAndEq
 simp only [hlt,heq]
theorem cmp_lt {n m:Int}:(some (compare n m) == some Ordering.lt) = decide (n < m):=by
 show (some (compareOfLessAndEq n m) == some Ordering.lt) = _
 unfold compareOfLessAndEq
 by_cases h:n < m
 ·simp [h]
 ·by_cases h2:n = m
  ·simp [h2]
  ·simp [h,h2]
theorem cmp_gt {n m:Int}:(some (compare n m) == some Ordering.gt) = decide (m < n):=by
 show (some (compareOfLessAndEq n m) == some Ordering.gt) = _
 unfold compareOfLessAndEq
 by_cases h:n < m
 ·simp [h]; omega
 ·by_cases h2:n = m
  ·simp [h2]
  ·have:m < n:=by omega
   simp [h,h2,this]
section
variable {P:Program} {h:TH} {K:Regs → TH → Prop} {rest:List TOper} {d:Option Tmp} {ty:TypeId} {i:Nat} {x y:Operand} {t u:TypeId} {L:Rg}
end
end Go.Tidy
namespace Go.Tidy
open Go Go.Proofs Tab
variable {tp:TProg}
def down:List Int → Nat → List Int
 | l,0 => l
 | l,j + 1 => if l.getD (j + 1) 0 < l.getD j 0 then down ((l.set (j + 1) (l.getD j 0)).set j (l.getD (j + 1) 0)) j else l
def insL (l:List Int):Nat → List Int
 | 0 => l
 | k + 1 => down (insL l k) k
theorem down_len:∀ (j:Nat) (l:List Int),(down l j).length = l.length
 | 0,l => rfl
 | j + 1,l => by
  unfold down
  split
  ·rw [down_len j]; simp
  ·rfl
theorem insL_len (l:List Int):∀ k,(insL l k).length = l.length
 | 0 => rfl
 | k + 1 => by unfold insL; rw [down_len,insL_len l k]
theorem down_all {p:Int → Prop}:∀ (j:Nat) (l:List Int),j < l.length ∨ j = 0 → (∀ x,x ∈ l → p x) → ∀ x,x ∈ down l j → p x
  | 0,l,_,h => h
  | j + 1,l,hj,h => by
    unfold down
    have hj:j + 1 < l.length:=by omega
    have g1:l.getD (j + 1) 0 ∈ l:=by rw [List.getD_eq_getElem?_getD,List.getElem?_eq_getElem hj]; exact List.getElem_mem hj
    have g2:l.getD j 0 ∈ l:=by rw [List.getD_eq_getElem?_getD,List.getElem?_eq_getElem (show j < l.length by omega)]; exact List.getElem_mem _
    split
    · refine down_all j _ (by left; simp; omega) ?_
      intro x hx
      rcases List.mem_or_eq_of_mem_set hx with hx | rfl
      · rcases List.mem_or_eq_of_mem_set hx with hx | rfl
        · exact h x hx
        · exact h _ g2
      · exact h _ g1
    · exact h
theorem insL_all {p:Int → Prop} {l:List Int} (h:∀ x,x ∈ l → p x):∀ k,k ≤ l.length → ∀ x,x ∈ insL l k → p x
 | 0,_ => h
 | k + 1,hk => by
  unfold insL
  exact down_all k _ (by left; rw [insL_len]; omega) (insL_all h k (by omega))
theorem k199 (H:Has tp) (n:Int) (h:TH):CallW Tryz.prog tp (.func (.func 113) #[] #[]) #[zi n] h fun v h' => v = .bool false ∧ h' = h:=by
 refine CallW.fnL (H.fn 113 f199 rfl rfl) ?_
 refine WL.sr <| WOL.as rfl <| WOL.nil <| keep [(0,_)] ⟨rfl,trivial⟩ ?_
 refine WL.sr <| WOL.mv rfl <| WOL.mv rfl ?_
 refine WOL.bi rfl rfl (ne_same _) <| WOL.as rfl <| WOL.nil <| keep [(2,_)] ⟨rfl,trivial⟩ ?_
 exact WL.done rfl ⟨rfl,rfl⟩
theorem k183 (H:Has tp) (n m:Int) (h:TH):CallW Tryz.prog tp (.func (.func 102) #[] #[]) #[zi n,zi m] h fun v h' => v = .bool (decide (n < m)) ∧ h' = h:=by
 refine CallW.fnL (H.fn 102 f183 rfl rfl) ?_
 refine WL.sr <| WOL.as rfl <| WOL.nil <| keep [(0,_),(1,_)] ⟨rfl,rfl,trivial⟩ ?_
 refine WL.sr <| WOL.mv rfl ?_
 refine WOL.cl1 rfl rfl ((k199 H n h).mono ?_)
 rintro v g ⟨rfl,rfl⟩
 refine WOL.mv rfl ?_
 refine WOL.skp (b:=false) rfl rfl <| WOL.skp (b:=false) rfl rfl <| WOL.skp (b:=false) rfl rfl <| WOL.pkf rfl rfl <| WOL.mv rfl ?_
 refine WOL.now (b:=false) rfl rfl <| WOL.mv rfl <| WOL.now (b:=false) rfl rfl <| WOL.mv rfl <| WOL.now (b:=false) rfl rfl ?_
 refine WOL.bi (v:=.bool (decide (n < m))) rfl rfl rfl <| WOL.pkf rfl rfl <| WOL.as rfl <| WOL.nil <| keep [(4,_)] ⟨rfl,trivial⟩ ?_
 exact WL.done rfl ⟨rfl,rfl⟩
set_option maxHeartbeats 2000000 in
set_option maxRecDepth 10000 in
theorem k177 (H:Has tp) {v:Value} {l:List Int} {n0:Nat} {h hb:TH} (O:OwnL encI n0 h v 3 l) (hl:l.length ≤ 12) (f:Free0 n0 h) (X:HX hb h) (hn:hb.next ≤ n0) :
    CallW Tryz.prog tp (.func (.func 96) #[] #[]) #[v,zi 0,zi l.length] h fun _ h' => OwnL encI n0 h' v 3 (insL l l.length) ∧ HX hb h':=by
  refine CallW.fnL (H.fn 96 f177 rfl rfl) ?_
  refine WL.sr <| WOL.mv rfl <| WOL.add rfl rfl (by decide) (by decide) <| WOL.as rfl <| WOL.nil <| keep [(0,_),(1,_),(2,_),(6,_)] ⟨rfl,rfl,rfl,rfl,trivial⟩ ?_
  refine WL.block ?_
  refine WL.loop (fun k a g => ∃ i:Nat,1 ≤ i ∧ (i ≤ l.length ∨ i = 1) ∧ k = l.length + 1 - i ∧ OwnL encI n0 g v 3 (insL l i) ∧ HX hb g ∧ Kn [(0,v),(1,zi 0),(2,zi l.length),(6,zi (i:Nat))] a) (l.length + 1 - 1) (fun a q => ⟨1,by omega,.inr rfl,rfl,O,X,q.sub ⟨rfl,rfl,rfl,rfl,trivial⟩⟩) ?_
  rintro k a g ⟨i,h1,h2,rfl,O1,X1,q⟩
  refine q.go ?_
  refine WL.seq <| WL.sr <| WOL.mv rfl <| WOL.mv rfl <| WOL.bi (v:=.bool (decide ((i:Int) < (l.length:Int)))) rfl rfl rfl <| WOL.nil <| keep [(0,_),(1,_),(2,_),(6,_),(12,_)] ⟨rfl,rfl,rfl,rfl,rfl,trivial⟩ ?_
  by_cases hlt:i < l.length
  · rw [show decide ((i:Int) < (l.length:Int)) = true by simpa using hlt]
    refine WL.yes rfl <| WL.skip ?_
    refine WL.seq <| WL.block ?_
    refine WL.sr <| WOL.mv rfl <| WOL.as rfl <| WOL.nil <| keep [(0,_),(1,_),(2,_),(6,_),(7,_)] ⟨rfl,rfl,rfl,rfl,rfl,trivial⟩ ?_
    refine WL.block ?_
    refine WL.loop (fun k a g => ∃ (j:Nat) (D:List Int),j ≤ i ∧ D.length = l.length ∧ k = j ∧ down D j = insL l (i + 1) ∧ OwnL encI n0 g v 3 D ∧ HX hb g ∧ Kn [(0,v),(1,zi 0),(2,zi l.length),(6,zi (i:Nat)),(7,zi (j:Nat))] a) i (fun a q => ⟨i,insL l i,by omega,insL_len l i,rfl,rfl,O1,X1,q.sub ⟨rfl,rfl,rfl,rfl,rfl,trivial⟩⟩) ?_
    have fin:∀ g',OwnL encI n0 g' v 3 (insL l (i + 1)) → HX hb g' → ∀ a,Kn [(0,v),(1,zi 0),(2,zi l.length),(6,zi (i:Nat))] a → W Tryz.prog tp false (.reg r177_6) a g' (andThen (fun a g => ∃ k',k' < l.length + 1 - i ∧ ∃ i:Nat,1 ≤ i ∧ (i ≤ l.length ∨ i = 1) ∧ k' = l.length + 1 - i ∧ OwnL encI n0 g v 3 (insL l i) ∧ HX hb g ∧ Kn [(0,v),(1,zi 0),(2,zi l.length),(6,zi (i:Nat))] a) (leaves 0 (Fin Tryz.prog [] fun _ h' => OwnL encI n0 h' v 3 (insL l l.length) ∧ HX hb h'))):=by
      intro g' O' X'
      refine WL.reg ?_
      refine WOL.mv rfl <| WOL.add rfl rfl (by omega) (by omega) <| WOL.as rfl <| WOL.nil ?_
      exact fun a q => ⟨l.length + 1 - (i + 1),by omega,i + 1,by omega,by omega,rfl,O',X',q.sub ⟨rfl,rfl,rfl,rfl,trivial⟩⟩
    clear O1 X1 q a g
    rintro k a g ⟨j,D,hj,hD,hk,hdn,O1,X1,q⟩
    subst hk
    refine q.go ?_
    refine WL.seq <| WL.sr <| WOL.mv rfl <| WOL.mv rfl ?_
    cases k with
    | zero =>
      refine WOL.bi (v:=.bool false) rfl rfl rfl <| WOL.mv rfl ?_
      refine WOL.skp (b:=false) rfl rfl <| WOL.skp (b:=false) rfl rfl <| WOL.skp (b:=false) rfl rfl <| WOL.skp (b:=false) rfl rfl <| WOL.skp (b:=false) rfl rfl <| WOL.skp (b:=false) rfl rfl <| WOL.skp (b:=false) rfl rfl <| WOL.skp (b:=false) rfl rfl <| WOL.skp (b:=false) rfl rfl <| WOL.skp (b:=false) rfl rfl ?_
      refine WOL.pkf rfl rfl <| WOL.nil <| keep [(0,_),(1,_),(2,_),(6,_),(30,_)] ⟨rfl,rfl,rfl,rfl,rfl,trivial⟩ ?_
      refine WL.no rfl <| WL.exit ?_
      have hdn:D = insL l (i + 1):=hdn
      exact kto (fin g (by rw [← hdn]; exact O1) X1) ⟨rfl,rfl,rfl,rfl,trivial⟩
    | succ j =>
      refine WOL.bi (v:=.bool true) rfl rfl (by show some (Value.bool (decide (((j + 1:Nat):Int) > 0))) = _; rw [decide_eq_true (by omega)]) <| WOL.mv rfl ?_
      have p1:D[j + 1]? = some (D.getD (j + 1) 0):=by rw [List.getD_eq_getElem?_getD,List.getElem?_eq_getElem (show j + 1 < D.length by omega)]; rfl
      have p0:D[j]? = some (D.getD j 0):=by rw [List.getD_eq_getElem?_getD,List.getElem?_eq_getElem (show j < D.length by omega)]; rfl
      unfold down at hdn
      generalize D.getD (j + 1) 0 = x at *
      generalize D.getD j 0 = y at *
      obtain ⟨b,o,cc,fix,wr,el,e1,e2,e3,e4,e5⟩:=(O1.sl eI).at eI u29 tp3 p1 .i64
      obtain ⟨b',o',cc',fix',wr',el',g1,g2,g3,g4,g5⟩:=(O1.sl eI).at eI u29 tp3 p0 .i64
      have sj:fastBin .sub (zi ((j + 1:Nat):Int)) (zi 1) = some (zi (j:Nat)):=by show some (Value.int .i64 (fwrap .i64 (((j + 1:Nat):Int) - 1))) = _; rw [fwrap_i64 (by omega) (by omega)]; congr 2; omega
      refine WOL.now (b:=true) rfl rfl <| WOL.mv rfl <| WOL.now (b:=true) rfl rfl <| WOL.mv rfl <| WOL.now (b:=true) rfl rfl ?_
      refine WOL.ix rfl rfl e1 <| WOL.now (b:=true) rfl rfl ?_
      refine WOL.ld rfl (load_one tp3 e2 (e5 0 (by decide))) ?_
      refine WOL.now (b:=true) rfl rfl <| WOL.mv rfl <| WOL.now (b:=true) rfl rfl <| WOL.mv rfl <| WOL.now (b:=true) rfl rfl ?_
      refine WOL.bi rfl rfl sj <| WOL.now (b:=true) rfl rfl ?_
      refine WOL.ix rfl rfl g1 <| WOL.now (b:=true) rfl rfl ?_
      refine WOL.ld rfl (load_one tp3 g2 (g5 0 (by decide))) ?_
      refine WOL.now (b:=true) rfl rfl ?_
      refine WOL.cl2 rfl rfl rfl ((k183 H x y g).mono ?_)
      rintro w g' ⟨rfl,rfl⟩
      refine WOL.pkt rfl rfl <| WOL.nil <| keep [(0,_),(1,_),(2,_),(6,_),(7,_),(30,_)] ⟨rfl,rfl,rfl,rfl,rfl,rfl,trivial⟩ ?_
      by_cases hxy:x < y
      · rw [decide_eq_true hxy]
        rw [if_pos hxy] at hdn
        refine WL.yes rfl <| WL.skip ?_
        refine WL.seq <| WL.block ?_
        refine WL.reg ?_
        refine WOL.mv rfl <| WOL.mv rfl <| WOL.mv rfl <| WOL.mv rfl <| WOL.bi rfl rfl sj <| WOL.mv rfl <| WOL.mv rfl <| WOL.bi rfl rfl sj ?_
        refine WOL.ix rfl rfl g1 ?_
        refine WOL.ld rfl (load_one tp3 g2 (g5 0 (by decide))) ?_
        refine WOL.mv rfl <| WOL.mv rfl <| WOL.ix rfl rfl e1 ?_
        refine WOL.ld rfl (load_one tp3 e2 (e5 0 (by decide))) ?_
        rcases O1 with ⟨_,he0⟩ | ⟨hne,bO,rfl,hbO,AO⟩
        · rw [he0] at hD; simp at hD; omega
        refine WOL.ix rfl rfl (indexAddr_tp u29 tp3 (by omega)) ?_
        refine WOL.sto rfl rfl tp3 AO rfl rfl (by rw [eI.cat_len]; omega) rfl (f.of X X1) hbO fun h4 P4 => ?_
        have A4:=P4.at_
        rw [show (Value.int .i64 y).cells.toList = encI y from rfl,splice1 eI (by omega)] at A4
        have X4:=P4.hx _ X1 (by omega)
        refine WOL.ix rfl rfl (indexAddr_tp u29 tp3 (by omega)) ?_
        refine WOL.sto rfl rfl tp3 A4 rfl rfl (by rw [eI.cat_len,List.length_set]; omega) rfl (f.of X X4) hbO fun h5 P5 => ?_
        have A5:=P5.at_
        rw [show (Value.int .i64 x).cells.toList = encI x from rfl,splice1 eI (by rw [List.length_set]; omega)] at A5
        have X5:=P5.hx _ X4 (by omega)
        refine WOL.nil <| keep [(0,_),(1,_),(2,_),(6,_),(7,_)] ⟨rfl,rfl,rfl,rfl,rfl,trivial⟩ ?_
        refine WL.reg ?_
        refine WOL.mv rfl <| WOL.bi rfl rfl sj <| WOL.as rfl <| WOL.nil ?_
        exact fun a q => ⟨j,by omega,j,_,by omega,by rw [List.length_set,List.length_set]; exact hD,rfl,hdn,own_of (by rw [List.length_set,List.length_set]) hbO A5 (by omega),X5,q.sub ⟨rfl,rfl,rfl,rfl,rfl,trivial⟩⟩
      · rw [decide_eq_false hxy]
        rw [if_neg hxy] at hdn
        refine WL.no rfl <| WL.exit ?_
        exact kto (fin g' (by rw [← hdn]; exact O1) X1) ⟨rfl,rfl,rfl,rfl,trivial⟩
  · rw [show decide ((i:Int) < (l.length:Int)) = false by simpa using hlt]
    refine WL.no rfl <| WL.exit ?_
    refine WL.endn (vs:=[]) rfl ⟨?_,X1⟩
    rcases h2 with h2 | rfl
    · obtain rfl:i = l.length:=by omega
      exact O1
    · have:l.length = 0 ∨ l.length = 1:=by omega
      rcases this with h0 | h0 <;> rw [h0] <;> exact O1
set_option maxHeartbeats 1000000 in
theorem k168 (H:Has tp) {v:Value} {l:List Int} {n0:Nat} {lim:Int} {h hb:TH} (O:OwnL encI n0 h v 3 l) (hl:l.length ≤ 12) (f:Free0 n0 h) (X:HX hb h) (hn:hb.next ≤ n0) :
  CallW Tryz.prog tp (.func (.func 85) #[] #[]) #[v,zi 0,zi l.length,zi lim] h fun _ h' => OwnL encI n0 h' v 3 (insL l l.length) ∧ HX hb h':=by
 refine CallW.fnL (H.fn 85 f168 rfl rfl) ?_
 refine WL.sr <| WOL.as rfl <| WOL.nil <| keep [(0,_),(1,_),(2,_)] ⟨rfl,rfl,rfl,trivial⟩ ?_
 refine WL.sr <| WOL.as rfl <| WOL.nil <| keep [(0,_),(1,_),(2,_)] ⟨rfl,rfl,rfl,trivial⟩ ?_
 refine WL.block ?_
 refine WL.loop (fun k a g => g = h ∧ Kn [(0,v),(1,zi 0),(2,zi l.length)] a) 0 (fun a q => ⟨rfl,q⟩) ?_
 rintro k a g ⟨rfl,q⟩
 refine q.go ?_
 refine WL.block ?_
 refine WL.sr <| WOL.mv rfl <| WOL.mv rfl <| WOL.sub rfl rfl (by omega) (by omega) <| WOL.as rfl <| WOL.nil <| keep [(0,_),(1,_),(2,_),(10,_)] ⟨rfl,rfl,rfl,rfl,trivial⟩ ?_
 refine WL.seq <| WL.sr <| WOL.mv rfl ?_
 refine WOL.bi (v:=.bool true) rfl rfl (by show some (Value.bool (decide (((l.length:Int) - 0) ≤ 12))) = _; rw [decide_eq_true (by omega)]) ?_
 refine WOL.nil <| keep [(0,_),(1,_),(2,_),(23,_)] ⟨rfl,rfl,rfl,rfl,trivial⟩ ?_
 refine WL.yes rfl <| WL.sr <| WOL.mv rfl <| WOL.mv rfl <| WOL.mv rfl ?_
 refine WOL.cl3 rfl rfl rfl rfl ((k177 H O hl f X hn).mono ?_)
 rintro w g' ⟨O2,X2⟩
 refine WOL.nil <| WL.ret ?_
 exact WL.end_ (vs:=[]) rfl ⟨O2,X2⟩
theorem WOL.si {P:Program} {tp:TProg} {h:TH} {K:Regs → TH → Prop} {rest:List TOper} {d:Option Tmp} {ty:TypeId} {i:Nat} {x y:Operand} {t:TypeId} {L:Rg} {s:ByteArray} {k:IntKind} {j:Nat} (hx:getL L x = some (.string s)) (hy:getL L y = some (.int k (j:Nat))) (hu:P.underlying t = some .string) (hj:j < s.size) (w:∀ a,Kn (putL L d (.int .u8 (s[j].toNat:Nat))) a → WO P tp rest a h K):∀ a,Kn L a → WO P tp (⟨d,.index t x y,ty,none,[],i⟩ :: rest) a h K:=fun a q => WO.si (q.o hx) (q.o hy) hu hj (w _ (q.put d _))
theorem WOL.cv {P:Program} {tp:TProg} {h:TH} {K:Regs → TH → Prop} {rest:List TOper} {d:Option Tmp} {ty:TypeId} {i:Nat} {x:Operand} {L:Rg} {s t:TypeId} {ds:TypeDesc} {k k':IntKind} {n:Int} (hs:P.underlying s = some ds) (ht:P.underlying t = some (.int k')) (hx:getL L x = some (.int k n)) (hw:k'.wrap n = n) (w:∀ a,Kn (putL L d (.int k' n)) a → WO P tp rest a h K):∀ a,Kn L a → WO P tp (⟨d,.convert s t x,ty,none,[],i⟩ :: rest) a h K:=fun a q => by
 refine WO.conv (q.o hx) rfl (conv_i2i hs ht) rfl ?_
 rw [hw]
 exact w _ (q.put d _)
theorem wrap_few {k:IntKind} {m:Nat} (h:m ≤ 3):k.wrap (m:Int) = m:=by
 obtain rfl | rfl | rfl | rfl:m = 0 ∨ m = 1 ∨ m = 2 ∨ m = 3:=by omega
 all_goals cases k <;> rfl
theorem u222:Tryz.prog.underlying 124 = some (.int .u64):=by kernel_rfl
theorem u228:Tryz.prog.underlying 119 = some (.int .u64):=by kernel_rfl
set_option maxRecDepth 100000 in
set_option maxHeartbeats 1000000 in
theorem k187 (H:Has tp) {m:Nat} (hm:m ≤ 3) (h:TH):CallW Tryz.prog tp (.func (.func 106) #[] #[]) #[.int .u64 (m:Nat)] h fun v h' => (∃ z,v = zi z) ∧ h' = h:=by
 refine CallW.fnL (H.fn 106 f187 rfl rfl) ?_
 have no:∀ c:Int,100 ≤ c → fastBin .geq (.int .u64 (m:Nat)) (.int .u64 c) = some (.bool false):=fun c hc => by
  show some (Value.bool (decide ((m:Int) ≥ c))) = _
  rw [decide_eq_false (by omega)]
 refine WL.sr <| WOL.as rfl <| WOL.nil <| keep [(0,_),(2,_)] ⟨rfl,rfl,trivial⟩ ?_
 refine WL.seq <| WL.sr <| WOL.mv rfl <| WOL.bi rfl rfl (no _ (by decide)) <| WOL.nil <| WL.no rfl <| WL.skip <| keep [(0,_),(2,_)] ⟨rfl,rfl,trivial⟩ ?_
 refine WL.seq <| WL.sr <| WOL.mv rfl <| WOL.bi rfl rfl (no _ (by decide)) <| WOL.nil <| WL.no rfl <| WL.skip <| keep [(0,_),(2,_)] ⟨rfl,rfl,trivial⟩ ?_
 refine WL.seq <| WL.sr <| WOL.mv rfl <| WOL.bi rfl rfl (no _ (by decide)) <| WOL.nil <| WL.no rfl <| WL.skip <| keep [(0,_),(2,_)] ⟨rfl,rfl,trivial⟩ ?_
 refine WL.sr <| WOL.mv rfl <| WOL.mv rfl ?_
 refine WOL.cv u222 u5 rfl (wrap_few hm) ?_
 refine WOL.si rfl rfl u9 (Nat.lt_of_lt_of_le (Nat.lt_succ_of_le hm) (Nat.le_of_ble_eq_true rfl)) ?_
 generalize hq:UInt8.toNat _ = q
 have hq2:q < 256:=by rw [← hq]; exact UInt8.toNat_lt _
 refine WOL.convU u5 u3 rfl (by omega) (by omega) ?_
 refine WOL.add rfl rfl (by omega) (by omega) ?_
 refine WOL.as rfl <| WOL.nil <| keep [(2,_)] ⟨rfl,trivial⟩ ?_
 exact WL.done rfl ⟨⟨_,rfl⟩,rfl⟩
theorem k169 (H:Has tp) {m:Nat} (hm:m ≤ 3) (h:TH):CallW Tryz.prog tp (.func (.func 86) #[] #[]) #[.int .u64 (m:Nat)] h fun v h' => (∃ z,v = zi z) ∧ h' = h:=by
 refine CallW.fnL (H.fn 86 f169 rfl rfl) ?_
 refine WL.sr <| WOL.as rfl <| WOL.nil <| keep [(0,_)] ⟨rfl,trivial⟩ ?_
 refine WL.seq <| WL.no rfl <| WL.skip ?_
 refine WL.sr <| WOL.mv rfl ?_
 refine WOL.cl1 rfl rfl ((k187 H hm h).mono ?_)
 rintro v g ⟨⟨z,rfl⟩,rfl⟩
 refine WOL.as rfl <| WOL.nil <| keep [(2,_)] ⟨rfl,trivial⟩ ?_
 exact WL.done rfl ⟨⟨_,rfl⟩,rfl⟩
theorem k150 (H:Has tp) {v:Value} {l:List Int} {n0:Nat} {h hb:TH} (O:OwnL encI n0 h v 3 l) (hl:l.length ≤ 3) (f:Free0 n0 h) (X:HX hb h) (hn:hb.next ≤ n0) :
  CallW Tryz.prog tp (.func (.func 64) #[] #[]) #[v] h fun _ h' => OwnL encI n0 h' v 3 (insL l l.length) ∧ HX hb h':=by
 refine CallW.fnL (H.fn 64 f150 rfl rfl) ?_
 refine WL.sr <| WOL.mv rfl <| WOL.len rfl (O.sl eI) u29 <| WOL.as rfl <| WOL.nil <| keep [(0,_),(2,_)] ⟨rfl,rfl,trivial⟩ ?_
 refine WL.reg <| WOL.mv rfl <| WOL.mv rfl <| WOL.mv rfl ?_
 refine WOL.cv u3 u228 rfl (wrap_few hl) ?_
 refine WOL.cl1 rfl rfl ((k169 H hl h).mono ?_)
 rintro w g ⟨⟨z,rfl⟩,rfl⟩
 refine WOL.cl4 rfl rfl rfl rfl rfl ((k168 H O (by omega) f X hn).mono ?_)
 rintro w g' ⟨O2,X2⟩
 exact WOL.nil <| WL.endn (vs:=[]) rfl ⟨O2,X2⟩
end Go.Tidy
namespace Go.Tidy
open Go Go.Proofs Tab
variable {tp:TProg}
section
variable {P:Program} {h:TH} {K:Regs → TH → Prop} {rest:List TOper} {d:Option Tmp} {ty:TypeId} {i:Nat} {x y z:Operand} {t u s:TypeId} {L:Rg}
theorem WOL.imin {m n:Int} (hx:getL L x = some (zi m)) (hy:getL L y = some (zi n)) (w:∀ a,Kn (putL L d (zi (min m n))) a → WO P tp rest a h K):∀ a,Kn L a → WO P tp (⟨d,.call ⟨.builtin .min,#[x,y],#[t,u]⟩,ty,none,[],i⟩ :: rest) a h K:=by
 intro a k
 have ex:=getO_eval (k.o hx)
 have ey:=getO_eval (k.o hy)
 have q:(if n < m then n else m) = min m n:=by rw [Int.min_def]; split <;> split <;> omega
 refine WO.plainly rfl rfl rfl rfl rfl (plainOp_of rfl (fun p hp => ?_) ?_ rfl) (w _ (k.put d _))
 ·simp only [Op.operands,Call.operands] at hp
  simp at hp
  rcases hp with rfl | rfl
  ·rw [ex]; rfl
  ·rw [ey]; rfl
 ·simp [toOper,execOp,resolve,invoke,builtin,Builtin.min_,Builtin.min2,pv_bind,pv_map,pv_pure,ex,ey,q]
theorem WOL.imax {m n:Int} (hx:getL L x = some (zi m)) (hy:getL L y = some (zi n)) (w:∀ a,Kn (putL L d (zi (max m n))) a → WO P tp rest a h K):∀ a,Kn L a → WO P tp (⟨d,.call ⟨.builtin .max,#[x,y],#[t,u]⟩,ty,none,[],i⟩ :: rest) a h K:=by
 intro a k
 have ex:=getO_eval (k.o hx)
 have ey:=getO_eval (k.o hy)
 have q:(if m < n then n else m) = max m n:=by rw [Int.max_def]; split <;> split <;> omega
 refine WO.plainly rfl rfl rfl rfl rfl (plainOp_of rfl (fun p hp => ?_) ?_ rfl) (w _ (k.put d _))
 ·simp only [Op.operands,Call.operands] at hp
  simp at hp
  rcases hp with rfl | rfl
  ·rw [ex]; rfl
  ·rw [ey]; rfl
 ·simp [toOper,execOp,resolve,invoke,builtin,Builtin.max_,Builtin.max2,pv_bind,pv_map,pv_pure,ex,ey,q]
end
def voteS (m:Int):List Int → Int × Bool
 | [a,b,c] => if min (b - a) (c - b) ≤ m then (b,true) else (0,false)
 | [a,b] => if b - a ≤ m then (rnd (a + b) 2,true) else (0,false)
 | _ => (0,false)
def voteC (m:Int) (C:List (Int × Bool)):Int × Bool:=voteS m (insL (knownV C) (knownV C).length)
theorem knownV_le (C:List (Int × Bool)):(knownV C).length ≤ C.length:=by
 unfold knownV
 rw [List.length_map]
 exact List.length_filter_le _ _
theorem knownV_all {p:Int → Prop} {C:List (Int × Bool)} (h:∀ c,c ∈ C → p c.1):∀ x,x ∈ knownV C → p x:=by
 intro x hx
 unfold knownV at hx
 obtain ⟨c,h1,rfl⟩:=List.mem_map.1 hx
 exact h c (List.mem_filter.1 h1).1
set_option maxHeartbeats 4000000 in
set_option maxRecDepth 10000 in
theorem k112 (H:Has tp) {m:Int} {v:Value} {C:List (Int × Bool)} {h:TH} (s:SlL encC 2 h v C) (hC:C.length ≤ 3) (hS:∀ c,c ∈ C → c.1.natAbs ≤ 16384) (f:Free0 h.next h) :
  CallW Tryz.prog tp (.func (.func 38) #[] #[]) #[zi m,v] h fun v' h' => v' = .agg #[zi (voteC m C).1,.bool (voteC m C).2] ∧ HX h h':=by
 refine CallW.fnL (H.fn 38 f112 rfl rfl) ?_
 refine WL.sr <| WOL.al tp134 fun h1 N1 => WOL.nil <| keep [(0,_),(1,_),(4,_)] ⟨rfl,rfl,rfl,trivial⟩ ?_
 refine WL.sr <| WOL.mv rfl ?_
 refine WOL.cl1 rfl rfl ((k88 H (s.hx N1.hx) (by omega) (f.on N1.hx)).mono ?_)
 rintro v2 h2 ⟨O2,X2⟩
 refine WOL.as rfl <| WOL.nil <| keep [(0,_),(4,_),(5,_)] ⟨rfl,rfl,rfl,trivial⟩ ?_
 have kl:=knownV_le C
 refine WL.sr <| WOL.mv rfl ?_
 refine WOL.cl1 rfl rfl ((k150 H O2 (by omega) ((f.on N1.hx).hx X2) X2 (Nat.le_refl _)).mono ?_)
 rintro v3 h3 ⟨O3,X3⟩
 refine WOL.nil <| keep [(0,_),(4,_),(5,_)] ⟨rfl,rfl,rfl,trivial⟩ ?_
 have hb:∀ x,x ∈ insL (knownV C) (knownV C).length → x.natAbs ≤ 16384:=insL_all (p:=fun x => x.natAbs ≤ 16384) (knownV_all (p:=fun x => x.natAbs ≤ 16384) hS) _ (Nat.le_refl _)
 have hl:(insL (knownV C) (knownV C).length).length ≤ 3:=by rw [insL_len]; omega
 unfold voteC
 generalize insL (knownV C) (knownV C).length = S at *
 have Y3:=N1.hx.trans X3
 have A4:=N1.at_.hx X3
 have put:∀ (x:Int) (b:Bool),(x,b) = voteS m S → ∀ h4,Put h3 h4 h.next (.cells [zi x,.bool b] true true 70) → (loadT Tryz.prog 70 (.pointer (some ⟨h.next,0,none⟩)) h4 = some (.agg #[zi x,.bool b])) ∧ (Value.agg #[zi x,.bool b] = .agg #[zi (voteS m S).1,.bool (voteS m S).2] ∧ HX h h4):=by
  intro x b e h4 P4
  refine ⟨load_row tp134 P4.at_ rfl (Nat.le_of_ble_eq_true rfl),?_,P4.hx _ Y3 (Nat.le_refl _)⟩
  rw [← e]
 have zero:(0,false) = voteS m S → ∀ a,Kn [(4,ptr h.next)] a → W Tryz.prog tp false (.seq (.reg r112_7) .ret) a h3 (Fin Tryz.prog [.cell 4 70] fun v' h' => v' = .agg #[zi (voteS m S).1,.bool (voteS m S).2] ∧ HX h h'):=by
  intro e
  refine WL.sr <| WOL.bd rfl bd134z ?_
  refine WOL.sto rfl rfl tp134 A4 rfl rfl (Nat.le_of_ble_eq_true rfl) rfl (f.hx Y3) (Nat.le_refl _) fun h4 P4 => ?_
  refine WOL.nil ?_
  obtain ⟨q1,q2⟩:=put _ _ e _ P4
  exact WL.ret (WL.endC rfl q1 q2)
 match S,hl,hb,O3 with
 | [],_,_,O3 =>
  refine WL.seq <| WL.block ?_
  refine WL.sr <| WOL.mv rfl <| WOL.len rfl (O3.sl eI) u29 <| WOL.bi (v:=.bool false) rfl rfl rfl <| WOL.mv rfl ?_
  refine WOL.skp (b:=false) rfl rfl <| WOL.skp (b:=false) rfl rfl <| WOL.skp (b:=false) rfl rfl <| WOL.skp (b:=false) rfl rfl <| WOL.skp (b:=false) rfl rfl <| WOL.skp (b:=false) rfl rfl <| WOL.skp (b:=false) rfl rfl <| WOL.skp (b:=false) rfl rfl <| WOL.skp (b:=false) rfl rfl <| WOL.skp (b:=false) rfl rfl <| WOL.skp (b:=false) rfl rfl <| WOL.skp (b:=false) rfl rfl <| WOL.skp (b:=false) rfl rfl <| WOL.skp (b:=false) rfl rfl <| WOL.skp (b:=false) rfl rfl <| WOL.skp (b:=false) rfl rfl <| WOL.skp (b:=false) rfl rfl ?_
  refine WOL.pkf rfl rfl <| WOL.as rfl <| WOL.nil <| keep [(0,_),(4,_),(5,_),(10,_)] ⟨rfl,rfl,rfl,rfl,trivial⟩ ?_
  refine WL.no rfl ?_
  refine WL.sr <| WOL.mv rfl <| WOL.len rfl (O3.sl eI) u29 <| WOL.bi (v:=.bool false) rfl rfl rfl <| WOL.mv rfl ?_
  refine WOL.skp (b:=false) rfl rfl <| WOL.skp (b:=false) rfl rfl <| WOL.skp (b:=false) rfl rfl <| WOL.skp (b:=false) rfl rfl <| WOL.skp (b:=false) rfl rfl <| WOL.skp (b:=false) rfl rfl <| WOL.skp (b:=false) rfl rfl <| WOL.skp (b:=false) rfl rfl <| WOL.skp (b:=false) rfl rfl ?_
  refine WOL.pkf rfl rfl <| WOL.as rfl <| WOL.nil <| keep [(0,_),(4,_),(5,_),(37,_)] ⟨rfl,rfl,rfl,rfl,trivial⟩ ?_
  refine WL.no rfl <| WL.skip ?_
  exact kto (zero rfl) ⟨rfl,trivial⟩
 | [p],_,_,O3 =>
  refine WL.seq <| WL.block ?_
  refine WL.sr <| WOL.mv rfl <| WOL.len rfl (O3.sl eI) u29 <| WOL.bi (v:=.bool false) rfl rfl rfl <| WOL.mv rfl ?_
  refine WOL.skp (b:=false) rfl rfl <| WOL.skp (b:=false) rfl rfl <| WOL.skp (b:=false) rfl rfl <| WOL.skp (b:=false) rfl rfl <| WOL.skp (b:=false) rfl rfl <| WOL.skp (b:=false) rfl rfl <| WOL.skp (b:=false) rfl rfl <| WOL.skp (b:=false) rfl rfl <| WOL.skp (b:=false) rfl rfl <| WOL.skp (b:=false) rfl rfl <| WOL.skp (b:=false) rfl rfl <| WOL.skp (b:=false) rfl rfl <| WOL.skp (b:=false) rfl rfl <| WOL.skp (b:=false) rfl rfl <| WOL.skp (b:=false) rfl rfl <| WOL.skp (b:=false) rfl rfl <| WOL.skp (b:=false) rfl rfl ?_
  refine WOL.pkf rfl rfl <| WOL.as rfl <| WOL.nil <| keep [(0,_),(4,_),(5,_),(10,_)] ⟨rfl,rfl,rfl,rfl,trivial⟩ ?_
  refine WL.no rfl ?_
  refine WL.sr <| WOL.mv rfl <| WOL.len rfl (O3.sl eI) u29 <| WOL.bi (v:=.bool false) rfl rfl rfl <| WOL.mv rfl ?_
  refine WOL.skp (b:=false) rfl rfl <| WOL.skp (b:=false) rfl rfl <| WOL.skp (b:=false) rfl rfl <| WOL.skp (b:=false) rfl rfl <| WOL.skp (b:=false) rfl rfl <| WOL.skp (b:=false) rfl rfl <| WOL.skp (b:=false) rfl rfl <| WOL.skp (b:=false) rfl rfl <| WOL.skp (b:=false) rfl rfl ?_
  refine WOL.pkf rfl rfl <| WOL.as rfl <| WOL.nil <| keep [(0,_),(4,_),(5,_),(37,_)] ⟨rfl,rfl,rfl,rfl,trivial⟩ ?_
  refine WL.no rfl <| WL.skip ?_
  exact kto (zero rfl) ⟨rfl,trivial⟩
 | [p,q],_,hb,O3 =>
  have b1:=hb p (by simp)
  have b2:=hb q (by simp)
  obtain ⟨c0,o0,cc0,fix0,wr0,el0,d1,d2,d3,d4,d5⟩:=(O3.sl eI).at eI u29 tp3 (j:=0) rfl .i64
  obtain ⟨c1,o1,cc1,fix1,wr1,el1,e1,e2,e3,e4,e5⟩:=(O3.sl eI).at eI u29 tp3 (j:=1) rfl .i64
  refine WL.seq <| WL.block ?_
  refine WL.sr <| WOL.mv rfl <| WOL.len rfl (O3.sl eI) u29 <| WOL.bi (v:=.bool false) rfl rfl rfl <| WOL.mv rfl ?_
  refine WOL.skp (b:=false) rfl rfl <| WOL.skp (b:=false) rfl rfl <| WOL.skp (b:=false) rfl rfl <| WOL.skp (b:=false) rfl rfl <| WOL.skp (b:=false) rfl rfl <| WOL.skp (b:=false) rfl rfl <| WOL.skp (b:=false) rfl rfl <| WOL.skp (b:=false) rfl rfl <| WOL.skp (b:=false) rfl rfl <| WOL.skp (b:=false) rfl rfl <| WOL.skp (b:=false) rfl rfl <| WOL.skp (b:=false) rfl rfl <| WOL.skp (b:=false) rfl rfl <| WOL.skp (b:=false) rfl rfl <| WOL.skp (b:=false) rfl rfl <| WOL.skp (b:=false) rfl rfl <| WOL.skp (b:=false) rfl rfl ?_
  refine WOL.pkf rfl rfl <| WOL.as rfl <| WOL.nil <| keep [(0,_),(4,_),(5,_),(10,_)] ⟨rfl,rfl,rfl,rfl,trivial⟩ ?_
  refine WL.no rfl ?_
  refine WL.sr <| WOL.mv rfl <| WOL.len rfl (O3.sl eI) u29 <| WOL.bi (v:=.bool true) rfl rfl rfl <| WOL.mv rfl ?_
  refine WOL.now (b:=true) rfl rfl <| WOL.mv rfl <| WOL.now (b:=true) rfl rfl <| WOL.ix rfl rfl e1 <| WOL.now (b:=true) rfl rfl ?_
  refine WOL.ld rfl (load_one tp3 e2 (e5 0 (by decide))) <| WOL.now (b:=true) rfl rfl ?_
  refine WOL.mv rfl <| WOL.now (b:=true) rfl rfl <| WOL.ix rfl rfl d1 <| WOL.now (b:=true) rfl rfl ?_
  refine WOL.ld rfl (load_one tp3 d2 (d5 0 (by decide))) <| WOL.now (b:=true) rfl rfl ?_
  refine WOL.sub rfl rfl (by omega) (by omega) <| WOL.now (b:=true) rfl rfl <| WOL.mv rfl <| WOL.now (b:=true) rfl rfl ?_
  refine WOL.bi (v:=.bool (decide (q - p ≤ m))) rfl rfl rfl <| WOL.pkt rfl rfl <| WOL.as rfl <| WOL.nil <| keep [(0,_),(4,_),(5,_),(37,_)] ⟨rfl,rfl,rfl,rfl,trivial⟩ ?_
  by_cases hq:q - p ≤ m
  ·rw [decide_eq_true hq]
   refine WL.yes rfl ?_
   refine WL.sr <| WOL.mv rfl <| WOL.ix rfl rfl d1 ?_
   refine WOL.ld rfl (load_one tp3 d2 (d5 0 (by decide))) ?_
   refine WOL.mv rfl <| WOL.ix rfl rfl e1 ?_
   refine WOL.ld rfl (load_one tp3 e2 (e5 0 (by decide))) ?_
   refine WOL.add rfl rfl (by omega) (by omega) ?_
   refine WOL.cl2 rfl rfl rfl ((k103 H (a:=p + q) (b:=2) (by omega) (by decide) (by decide)).mono ?_)
   rintro w g ⟨rfl,rfl⟩
   refine WOL.bd rfl bd134 ?_
   refine WOL.sto rfl rfl tp134 A4 rfl rfl (Nat.le_of_ble_eq_true rfl) rfl (f.hx Y3) (Nat.le_refl _) fun h4 P4 => ?_
   refine WOL.nil <| WL.ret ?_
   obtain ⟨q1,q2⟩:=put (rnd (p + q) 2) true (by show _ = (if q - p ≤ m then (rnd (p + q) 2,true) else (0,false)); rw [if_pos hq]) _ P4
   exact WL.endC rfl q1 q2
  ·rw [decide_eq_false hq]
   refine WL.no rfl <| WL.skip ?_
   exact kto (zero (by show _ = (if q - p ≤ m then (rnd (p + q) 2,true) else (0,false)); rw [if_neg hq])) ⟨rfl,trivial⟩
 | [p,q,r],_,hb,O3 =>
  have b1:=hb p (by simp)
  have b2:=hb q (by simp)
  have b3:=hb r (by simp)
  obtain ⟨c0,o0,cc0,fix0,wr0,el0,d1,d2,d3,d4,d5⟩:=(O3.sl eI).at eI u29 tp3 (j:=0) rfl .i64
  obtain ⟨c1,o1,cc1,fix1,wr1,el1,e1,e2,e3,e4,e5⟩:=(O3.sl eI).at eI u29 tp3 (j:=1) rfl .i64
  obtain ⟨c2,o2,cc2,fix2,wr2,el2,g1,g2,g3,g4,g5⟩:=(O3.sl eI).at eI u29 tp3 (j:=2) rfl .i64
  refine WL.seq <| WL.block ?_
  refine WL.sr <| WOL.mv rfl <| WOL.len rfl (O3.sl eI) u29 <| WOL.bi (v:=.bool true) rfl rfl rfl <| WOL.mv rfl ?_
  refine WOL.now (b:=true) rfl rfl <| WOL.mv rfl <| WOL.now (b:=true) rfl rfl <| WOL.ix rfl rfl e1 <| WOL.now (b:=true) rfl rfl ?_
  refine WOL.ld rfl (load_one tp3 e2 (e5 0 (by decide))) <| WOL.now (b:=true) rfl rfl ?_
  refine WOL.mv rfl <| WOL.now (b:=true) rfl rfl <| WOL.ix rfl rfl d1 <| WOL.now (b:=true) rfl rfl ?_
  refine WOL.ld rfl (load_one tp3 d2 (d5 0 (by decide))) <| WOL.now (b:=true) rfl rfl ?_
  refine WOL.sub rfl rfl (by omega) (by omega) <| WOL.now (b:=true) rfl rfl <| WOL.mv rfl <| WOL.now (b:=true) rfl rfl ?_
  refine WOL.ix rfl rfl g1 <| WOL.now (b:=true) rfl rfl ?_
  refine WOL.ld rfl (load_one tp3 g2 (g5 0 (by decide))) <| WOL.now (b:=true) rfl rfl ?_
  refine WOL.mv rfl <| WOL.now (b:=true) rfl rfl <| WOL.ix rfl rfl e1 <| WOL.now (b:=true) rfl rfl ?_
  refine WOL.ld rfl (load_one tp3 e2 (e5 0 (by decide))) <| WOL.now (b:=true) rfl rfl ?_
  refine WOL.sub rfl rfl (by omega) (by omega) <| WOL.now (b:=true) rfl rfl ?_
  refine WOL.imin rfl rfl <| WOL.now (b:=true) rfl rfl <| WOL.mv rfl <| WOL.now (b:=true) rfl rfl ?_
  refine WOL.bi (v:=.bool (decide (min (q - p) (r - q) ≤ m))) rfl rfl rfl <| WOL.pkt rfl rfl <| WOL.as rfl <| WOL.nil <| keep [(0,_),(4,_),(5,_),(10,_)] ⟨rfl,rfl,rfl,rfl,trivial⟩ ?_
  by_cases hq:min (q - p) (r - q) ≤ m
  ·rw [decide_eq_true hq]
   refine WL.yes rfl ?_
   refine WL.sr <| WOL.mv rfl <| WOL.ix rfl rfl e1 ?_
   refine WOL.ld rfl (load_one tp3 e2 (e5 0 (by decide))) ?_
   refine WOL.bd rfl bd134 ?_
   refine WOL.sto rfl rfl tp134 A4 rfl rfl (Nat.le_of_ble_eq_true rfl) rfl (f.hx Y3) (Nat.le_refl _) fun h4 P4 => ?_
   refine WOL.nil <| WL.ret ?_
   obtain ⟨q1,q2⟩:=put q true (by show _ = (if min (q - p) (r - q) ≤ m then (q,true) else (0,false)); rw [if_pos hq]) _ P4
   exact WL.endC rfl q1 q2
  ·rw [decide_eq_false hq]
   refine WL.no rfl ?_
   refine WL.sr <| WOL.mv rfl <| WOL.len rfl (O3.sl eI) u29 <| WOL.bi (v:=.bool false) rfl rfl rfl <| WOL.mv rfl ?_
   refine WOL.skp (b:=false) rfl rfl <| WOL.skp (b:=false) rfl rfl <| WOL.skp (b:=false) rfl rfl <| WOL.skp (b:=false) rfl rfl <| WOL.skp (b:=false) rfl rfl <| WOL.skp (b:=false) rfl rfl <| WOL.skp (b:=false) rfl rfl <| WOL.skp (b:=false) rfl rfl <| WOL.skp (b:=false) rfl rfl ?_
   refine WOL.pkf rfl rfl <| WOL.as rfl <| WOL.nil <| keep [(0,_),(4,_),(5,_),(37,_)] ⟨rfl,rfl,rfl,rfl,trivial⟩ ?_
   refine WL.no rfl <| WL.skip ?_
   exact kto (zero (by show _ = (if min (q - p) (r - q) ≤ m then (q,true) else (0,false)); rw [if_neg hq])) ⟨rfl,trivial⟩
 | p :: q :: r :: t :: S,hl,_,_ => simp at hl
def wrongB (m:Int) (c v:Int × Bool):Bool:=c.2 && v.2 && decide (max (c.1 - v.1) (v.1 - c.1) > m)
set_option maxHeartbeats 1000000 in
set_option maxRecDepth 10000 in
theorem k113 (H:Has tp) {m x n:Int} {p q:Bool} {h:TH} (hx:x.natAbs ≤ 16384) (hn:n.natAbs ≤ 16384) :
  CallW Tryz.prog tp (.func (.func 39) #[] #[]) #[.agg #[zi x,.bool p],.agg #[zi n,.bool q],zi m] h fun v h' => v = .bool (wrongB m (x,p) (n,q)) ∧ HX h h':=by
 refine CallW.fnL (H.fn 39 f113 rfl rfl) ?_
 refine WL.sr <| WOL.box rfl fun h1 N1 => WOL.box rfl fun h2 N2 => WOL.as rfl <| WOL.nil <| keep [(2,_),(3,_),(4,_)] ⟨rfl,rfl,rfl,trivial⟩ ?_
 have A3:=N1.at_.hx N2.hx
 have A4:=N2.at_
 have X2:=N1.hx.trans N2.hx
 refine WL.sr <| WOL.fa rfl (fa_of fo134_1) ?_
 refine WOL.ld rfl (load_one tp4 A3 rfl) <| WOL.mv rfl ?_
 cases p with
 | false =>
  refine WOL.skp (b:=false) rfl rfl <| WOL.skp (b:=false) rfl rfl <| WOL.pkf rfl rfl <| WOL.mv rfl ?_
  refine WOL.skp (b:=false) rfl rfl <| WOL.skp (b:=false) rfl rfl <| WOL.skp (b:=false) rfl rfl <| WOL.skp (b:=false) rfl rfl <| WOL.skp (b:=false) rfl rfl <| WOL.skp (b:=false) rfl rfl <| WOL.skp (b:=false) rfl rfl <| WOL.skp (b:=false) rfl rfl <| WOL.skp (b:=false) rfl rfl <| WOL.skp (b:=false) rfl rfl <| WOL.skp (b:=false) rfl rfl <| WOL.skp (b:=false) rfl rfl <| WOL.skp (b:=false) rfl rfl ?_
  refine WOL.pkf rfl rfl <| WOL.as rfl <| WOL.nil <| keep [(6,_)] ⟨rfl,trivial⟩ ?_
  exact WL.done rfl ⟨rfl,X2⟩
 | true =>
  refine WOL.now (b:=true) rfl rfl <| WOL.fa rfl (fa_of fo134_1) <| WOL.now (b:=true) rfl rfl ?_
  refine WOL.ld rfl (load_one tp4 A4 rfl) <| WOL.pkt rfl rfl <| WOL.mv rfl ?_
  cases q with
  | false =>
   refine WOL.skp (b:=false) rfl rfl <| WOL.skp (b:=false) rfl rfl <| WOL.skp (b:=false) rfl rfl <| WOL.skp (b:=false) rfl rfl <| WOL.skp (b:=false) rfl rfl <| WOL.skp (b:=false) rfl rfl <| WOL.skp (b:=false) rfl rfl <| WOL.skp (b:=false) rfl rfl <| WOL.skp (b:=false) rfl rfl <| WOL.skp (b:=false) rfl rfl <| WOL.skp (b:=false) rfl rfl <| WOL.skp (b:=false) rfl rfl <| WOL.skp (b:=false) rfl rfl ?_
   refine WOL.pkf rfl rfl <| WOL.as rfl <| WOL.nil <| keep [(6,_)] ⟨rfl,trivial⟩ ?_
   exact WL.done rfl ⟨rfl,X2⟩
  | true =>
   refine WOL.now (b:=true) rfl rfl <| WOL.fa rfl (fa_of fo134_0) <| WOL.now (b:=true) rfl rfl ?_
   refine WOL.ld rfl (load_one tp3 A3 rfl) <| WOL.now (b:=true) rfl rfl ?_
   refine WOL.fa rfl (fa_of fo134_0) <| WOL.now (b:=true) rfl rfl ?_
   refine WOL.ld rfl (load_one tp3 A4 rfl) <| WOL.now (b:=true) rfl rfl ?_
   refine WOL.sub rfl rfl (by omega) (by omega) <| WOL.now (b:=true) rfl rfl ?_
   refine WOL.fa rfl (fa_of fo134_0) <| WOL.now (b:=true) rfl rfl ?_
   refine WOL.ld rfl (load_one tp3 A4 rfl) <| WOL.now (b:=true) rfl rfl ?_
   refine WOL.fa rfl (fa_of fo134_0) <| WOL.now (b:=true) rfl rfl ?_
   refine WOL.ld rfl (load_one tp3 A3 rfl) <| WOL.now (b:=true) rfl rfl ?_
   refine WOL.sub rfl rfl (by omega) (by omega) <| WOL.now (b:=true) rfl rfl ?_
   refine WOL.imax rfl rfl <| WOL.now (b:=true) rfl rfl <| WOL.mv rfl <| WOL.now (b:=true) rfl rfl ?_
   refine WOL.bi (v:=.bool (decide (max (x - n) (n - x) > m))) rfl rfl rfl <| WOL.pkt rfl rfl <| WOL.as rfl <| WOL.nil <| keep [(6,_)] ⟨rfl,trivial⟩ ?_
   refine WL.done rfl ⟨?_,X2⟩
   unfold wrongB
   simp
   rfl
end Go.Tidy
namespace Go.Tidy
open Go Go.Proofs Tab
variable {tp:TProg}
theorem pv_q0 (a b c:Int):pv Tryz.prog (Go.part 3 #[.int .i64 a,.int .i64 b,.int .i64 c] 0) = some (.int .i64 a):=by kernel_rfl
theorem pv_q1 (a b c:Int):pv Tryz.prog (Go.part 3 #[.int .i64 a,.int .i64 b,.int .i64 c] 1) = some (.int .i64 b):=by kernel_rfl
theorem pv_q2 (a b c:Int):pv Tryz.prog (Go.part 3 #[.int .i64 a,.int .i64 b,.int .i64 c] 2) = some (.int .i64 c):=by kernel_rfl
theorem u83:Tryz.prog.underlying 41 = some (.array 3 3):=by kernel_rfl
theorem pv_s3:pv Tryz.prog (sizeOf 3) = some 1:=by kernel_rfl
theorem pv_eq83 (a b c:Int):pv Tryz.prog (Op.equal 41 (.agg #[.int .i64 a,.int .i64 b,.int .i64 c]) (.agg #[.int .i64 a,.int .i64 b,.int .i64 c])) = some true:=by
 show pv Tryz.prog (Op.equalIn (9999 + 1) 41 _ _) = _
 rw [Op.equalIn,pv_bind,pv_underlying u83,Option.bind_some]
 simp only [Std.Legacy.Range.forIn_eq_forIn_range',Std.Legacy.Range.size,pv_bind,pv_s3,Option.bind_some,List.range',List.forIn_cons,List.forIn_nil]
 have e:∀ c:Int,pv Tryz.prog (Op.equalIn 9999 3 (.int .i64 c) (.int .i64 c)) = some true:=fun c => by rw [pv_eq3 c c 9998]; simp
 simp [pv_bind,pv_q0,pv_q1,pv_q2,e,pv_pure]
def midV (a b c:Int):Int:=a + b + c - min (min a b) c - max (max a b) c
def voteR (m:Int):List Int → Int × Bool
 | [a,b] => (rnd (a + b) 2,decide (max (a - b) (b - a) ≤ m))
 | [a,b,c] => (midV a b c,decide (midV a b c - min (min a b) c ≤ m) || decide (max (max a b) c - midV a b c ≤ m))
 | _ => (0,false)
theorem ins2 (a b:Int):insL [a,b] 2 = if b < a then [b,a] else [a,b]:=by
 by_cases h:b < a <;> simp [insL,down,h]
theorem ins3 (a b c:Int):insL [a,b,c] 3 = if b < a then (if c < a then (if c < b then [c,b,a] else [b,c,a]) else [b,a,c]) else (if c < b then (if c < a then [c,a,b] else [a,c,b]) else [a,b,c]):=by
 by_cases h1:b < a <;> by_cases h2:c < a <;> by_cases h3:c < b <;> first | omega | simp [insL,down,h1,h2,h3]
theorem vote_join (m:Int):∀ l:List Int,l.length ≤ 3 → voteS m (insL l l.length) = cond (voteR m l).2 ((voteR m l).1,true) (0,false)
  | [],_ => rfl
  | [_],_ => rfl
  | [a,b],_ => by
    show voteS m (insL [a,b] 2) = _
    rw [ins2]
    unfold voteR
    by_cases h:b < a
    · rw [if_pos h]
      simp only [voteS]
      rw [Int.max_eq_left (by omega),Int.add_comm b a]
      by_cases h2:a - b ≤ m
      · rw [if_pos h2,decide_eq_true h2]; rfl
      · rw [if_neg h2,decide_eq_false h2]; rfl
    · rw [if_neg h]
      simp only [voteS]
      rw [Int.max_eq_right (by omega)]
      by_cases h2:b - a ≤ m
      · rw [if_pos h2,decide_eq_true h2]; rfl
      · rw [if_neg h2,decide_eq_false h2]; rfl
  | [a, b, c], _ => by
    show voteS m (insL [a,b,c] 3) = _
    rw [ins3]
    have key:∀ x y z:Int,x ≤ y → y ≤ z → min (min a b) c = x → max (max a b) c = z → a + b + c = x + y + z → voteS m [x,y,z] = cond (voteR m [a,b,c]).2 ((voteR m [a,b,c]).1,true) (0,false):=by
      intro x y z h1 h2 h3 h4 h5
      have hm:midV a b c = y:=by unfold midV; omega
      simp only [voteS,voteR]
      rw [hm,h3,h4]
      by_cases g1:y - x ≤ m
      · rw [decide_eq_true g1,if_pos (by omega)]; rfl
      · by_cases g2:z - y ≤ m
        · rw [decide_eq_false g1,decide_eq_true g2,if_pos (by omega)]; rfl
        · rw [decide_eq_false g1,decide_eq_false g2,if_neg (by omega)]; rfl
    split
    · split
      · split
        · exact key _ _ _ (by omega) (by omega) (by omega) (by omega) (by omega)
        · exact key _ _ _ (by omega) (by omega) (by omega) (by omega) (by omega)
      · exact key _ _ _ (by omega) (by omega) (by omega) (by omega) (by omega)
    · split
      · split
        · exact key _ _ _ (by omega) (by omega) (by omega) (by omega) (by omega)
        · exact key _ _ _ (by omega) (by omega) (by omega) (by omega) (by omega)
      · exact key _ _ _ (by omega) (by omega) (by omega) (by omega) (by omega)
  | _ :: _ :: _ :: _ :: _,h => by simp at h
end Go.Tidy
namespace Go.Tidy
open Go Go.Proofs Tab
variable {tp:TProg}
def cellD (C:Nat → List (Int × Bool)) (k i:Nat):Int × Bool:=(C k).getD i (0,false)
def voteA (m:Int) (C:Nat → List (Int × Bool)) (i:Nat):Int × Bool:=voteC m [cellD C 0 i,cellD C 1 i,cellD C 2 i]
def wrN (m:Int) (C:Nat → List (Int × Bool)):Nat → Nat → Int
 | 0,_ => 0
 | i + 1,k => wrN m C i k + cond (wrongB m (cellD C k i) (voteA m C i)) 1 0
def pwR (m:Int) (C:Nat → List (Int × Bool)) (i k j:Nat):Int:=if j < k then wrN m C (i + 1) j else wrN m C i j
def cel3 (w:Nat → Int):List Value:=[zi (w 0),zi (w 1),zi (w 2)]
section
variable {m:Int} {C:Nat → List (Int × Bool)}
theorem wrN_le:∀ i k,0 ≤ wrN m C i k ∧ wrN m C i k ≤ i
 | 0,_ => by unfold wrN; omega
 | i + 1,k => by
  have:=wrN_le i k
  unfold wrN
  cases wrongB m (cellD C k i) (voteA m C i) <;> simp <;> omega
theorem pw_same {i k:Nat} (h:wrongB m (cellD C k i) (voteA m C i) = false):pwR m C i (k + 1) = pwR m C i k:=by
 funext j
 unfold pwR
 by_cases h1:j < k
 ·rw [if_pos (by omega),if_pos h1]
 ·by_cases h2:j = k
  ·subst h2
   rw [if_pos (by omega),if_neg h1]
   show wrN m C i j + cond (wrongB m (cellD C j i) (voteA m C i)) 1 0 = _
   rw [h]; simp
  ·rw [if_neg (by omega),if_neg h1]
theorem pw_at (i k:Nat):pwR m C i k k = wrN m C i k:=by unfold pwR; rw [if_neg (by omega)]
theorem pw_next {i k:Nat} (h:wrongB m (cellD C k i) (voteA m C i) = true) (hk:k < 3):splice (cel3 (pwR m C i k)) k [zi (wrN m C i k + 1)] = cel3 (pwR m C i (k + 1)):=by
 have e:wrN m C (i + 1) k = wrN m C i k + 1:=by
  show wrN m C i k + cond (wrongB m (cellD C k i) (voteA m C i)) 1 0 = _
  rw [h]; rfl
 rw [← e]
 obtain rfl | rfl | rfl:k = 0 ∨ k = 1 ∨ k = 2:=by omega
 all_goals rfl
theorem cells3_get {w:Nat → Int} {k:Nat} (hk:k < 3):(cel3 w)[k]? = some (zi (w k)):=by
 obtain rfl | rfl | rfl:k = 0 ∨ k = 1 ∨ k = 2:=by omega
 all_goals rfl
theorem cellD_get {k i:Nat} (h:i < (C k).length):(C k)[i]? = some (cellD C k i):=by
 unfold cellD
 rw [List.getD_eq_getElem?_getD,List.getElem?_eq_getElem h]; rfl
theorem cellD_lim (lim:∀ k c,c ∈ C k → c.1.natAbs ≤ 16384) (k i:Nat):(cellD C k i).1.natAbs ≤ 16384:=by
 unfold cellD
 rw [List.getD_eq_getElem?_getD]
 cases hi:(C k)[i]? with
 | none => decide
 | some x => exact lim k x (List.mem_of_getElem? hi)
theorem voteS_lim:∀ {S:List Int},(∀ x,x ∈ S → x.natAbs ≤ 16384) → (voteS m S).1.natAbs ≤ 16384
 | [],_ => by show (0:Int).natAbs ≤ _; decide
 | [a],_ => by show (0:Int).natAbs ≤ _; decide
 | [a,b],h => by
  have h1:=h a (by simp)
  have h2:=h b (by simp)
  simp only [voteS]
  split
  ·show (rnd (a + b) 2).natAbs ≤ _
   unfold rnd
   omega
  ·decide
 | [a,b,c],h => by
  have h2:=h b (by simp)
  simp only [voteS]
  split
  ·exact h2
  ·decide
 | a :: b :: c :: d :: S,_ => by show (0:Int).natAbs ≤ _; decide
theorem voteC_lim {D:List (Int × Bool)} (h:∀ c,c ∈ D → c.1.natAbs ≤ 16384):(voteC m D).1.natAbs ≤ 16384:=by
 unfold voteC
 exact voteS_lim (insL_all (p:=fun x => x.natAbs ≤ 16384) (knownV_all (p:=fun x => x.natAbs ≤ 16384) h) _ (Nat.le_refl _))
theorem row_lim (lim:∀ k c,c ∈ C k → c.1.natAbs ≤ 16384) (i:Nat):∀ c,c ∈ [cellD C 0 i,cellD C 1 i,cellD C 2 i] → c.1.natAbs ≤ 16384:=by
 intro c hc
 simp at hc
 rcases hc with rfl | rfl | rfl <;> exact cellD_lim lim _ _
theorem voteA_lim (lim:∀ k c,c ∈ C k → c.1.natAbs ≤ 16384) (i:Nat):(voteA m C i).1.natAbs ≤ 16384:=voteC_lim (row_lim lim i)
end
theorem tp158:Tp Tryz.prog 68 3 [.slice none 0 0,.slice none 0 0,.slice none 0 0] true:=tp_of (by kernel_rfl) (by kernel_rfl) rfl
theorem tp83:Tp Tryz.prog 41 3 [.int .i64 0,.int .i64 0,.int .i64 0] true:=tp_of (by kernel_rfl) (by kernel_rfl) rfl
theorem ix158 {c k:Nat} (hk:k < 3):indexAddrT Tryz.prog 68 (.pointer (some ⟨c,0,none⟩)) (zi (k:Nat)) = some (.pointer (some ⟨c,k,none⟩)):=by
 have e0:indexAddrT Tryz.prog 68 (.pointer (some ⟨c,0,none⟩)) (zi 0) = some (.pointer (some ⟨c,0,none⟩)):=by kernel_rfl
 have e1:indexAddrT Tryz.prog 68 (.pointer (some ⟨c,0,none⟩)) (zi 1) = some (.pointer (some ⟨c,1,none⟩)):=by kernel_rfl
 have e2:indexAddrT Tryz.prog 68 (.pointer (some ⟨c,0,none⟩)) (zi 2) = some (.pointer (some ⟨c,2,none⟩)):=by kernel_rfl
 obtain rfl | rfl | rfl:k = 0 ∨ k = 1 ∨ k = 2:=by omega
 ·exact e0
 ·exact e1
 ·exact e2
theorem ix83 {c k:Nat} (hk:k < 3):indexAddrT Tryz.prog 41 (.pointer (some ⟨c,0,none⟩)) (zi (k:Nat)) = some (.pointer (some ⟨c,k,none⟩)):=by
 have e0:indexAddrT Tryz.prog 41 (.pointer (some ⟨c,0,none⟩)) (zi 0) = some (.pointer (some ⟨c,0,none⟩)):=by kernel_rfl
 have e1:indexAddrT Tryz.prog 41 (.pointer (some ⟨c,0,none⟩)) (zi 1) = some (.pointer (some ⟨c,1,none⟩)):=by kernel_rfl
 have e2:indexAddrT Tryz.prog 41 (.pointer (some ⟨c,0,none⟩)) (zi 2) = some (.pointer (some ⟨c,2,none⟩)):=by kernel_rfl
 obtain rfl | rfl | rfl:k = 0 ∨ k = 1 ∨ k = 2:=by omega
 ·exact e0
 ·exact e1
 ·exact e2
theorem rows_get {us:Nat → Value} {k:Nat} (hk:k < 3):[us 0,us 1,us 2][k]? = some (us k):=by
 obtain rfl | rfl | rfl:k = 0 ∨ k = 1 ∨ k = 2:=by omega
 all_goals rfl
theorem filled_cells3 (x y z:Int × Bool):filled 2 3 [zi 0,.bool false] [(0,.agg (encC x).toArray),(1,.agg (encC y).toArray),(2,.agg (encC z).toArray)] = some (cat encC [x,y,z]):=by
 simp [filled,zeros,Instr.fill,encC,cat,Value.cells]
 rfl
set_option maxHeartbeats 4000000 in
set_option maxRecDepth 10000 in
theorem k53loop (H:Has tp) {m:Int} {C:Nat → List (Int × Bool)} {us:Nat → Value} {N c2 c4 c5 c9 c11 bv:Nat} {h gb g0:TH} {rest:TCode} {Q:Exit → Regs → TH → Prop} (f:Free0 h.next h) (X:HX h gb) (X0:HX gb g0)
    (A9:At gb c9 (.cells [us 0,us 1,us 2] true true 68)) (sl:∀ k,k < 3 → SlL encC 2 gb (us k) (C k)) (hlen:∀ k,(C k).length = N) (hN:N ≤ 900000) (lim:∀ k c,c ∈ C k → c.1.natAbs ≤ 16384)
    (Av:At g0 bv (.cells (cat encC (List.replicate N (0,false))) true true 70)) (Aw:At g0 c11 (.cells (cel3 (wrN m C 0)) true true 41)) (hbv:gb.next ≤ bv) (hcw:gb.next ≤ c11) (hne:bv ≠ c11)
    (K:∀ g,HX gb g → At g bv (.cells (cat encC (setN (List.replicate N (0,false)) 0 (voteA m C) N)) true true 70) → At g c11 (.cells (cel3 (wrN m C N)) true true 41) → ∀ a,Kn [(2,ptr c2),(4,ptr c4),(5,ptr c5),(10,.slice (some ⟨bv,0,none⟩) N N),(11,ptr c11)] a → W Tryz.prog tp false rest a g Q) :
    ∀ a,Kn [(2,ptr c2),(4,ptr c4),(5,ptr c5),(8,zi m),(9,ptr c9),(10,.slice (some ⟨bv,0,none⟩) N N),(11,ptr c11)] a → W Tryz.prog tp false (.seq (.seq (.reg r53_8) (.block 0 (.loop (.seq (.reg r53_9) (.seq (.cond (.tmp 69) .skip (.exit 0)) (.seq (.block 1 (.seq (.reg r53_10) (.seq (.reg r53_11) (.seq (.reg r53_12) (.block 2 (.loop (.seq (.reg r53_13) (.seq (.cond (.tmp 93) .skip (.exit 2)) (.seq (.block 3 (.seq (.reg r53_14) (.seq (.reg r53_15) (.cond (.tmp 106) (.reg r53_16) .skip)))) (.reg r53_17)))))))))) (.reg r53_18))))))) rest) a g0 Q:=by
  have lv:∀ {i:Nat},(setN (List.replicate N ((0:Int),false)) 0 (voteA m C) i).length = N:=fun {i} => by rw [setN_len,List.length_replicate]
  have slv:∀ {g:TH} {i:Nat},At g bv (.cells (cat encC (setN (List.replicate N (0,false)) 0 (voteA m C) i)) true true 70) → SlL encC 2 g (.slice (some ⟨bv,0,none⟩) N N) (setN (List.replicate N (0,false)) 0 (voteA m C) i):=fun {g i} a => SlL.own eC a lv
  refine WL.seq <| WL.sr <| WOL.mv rfl ?_
  refine WOL.len rfl (slv (i:=0) Av) u135 ?_
  rw [lv]
  refine WOL.mv rfl <| WOL.nil <| keep [(2,_),(4,_),(5,_),(8,_),(9,_),(10,_),(11,_),(67,_),(68,_)] ⟨rfl,rfl,rfl,rfl,rfl,rfl,rfl,rfl,rfl,trivial⟩ ?_
  refine WL.block ?_
  refine WL.loop (fun q a g => ∃ i:Nat,i ≤ N ∧ q = N - i ∧ HX gb g ∧ At g bv (.cells (cat encC (setN (List.replicate N (0,false)) 0 (voteA m C) i)) true true 70) ∧ At g c11 (.cells (cel3 (wrN m C i)) true true 41) ∧ Kn [(2,ptr c2),(4,ptr c4),(5,ptr c5),(8,zi m),(9,ptr c9),(10,.slice (some ⟨bv,0,none⟩) N N),(11,ptr c11),(67,zi N),(68,zi (i:Nat))] a) N (fun a q => ⟨0,by omega,by omega,X0,Av,Aw,q.sub ⟨rfl,rfl,rfl,rfl,rfl,rfl,rfl,rfl,rfl,trivial⟩⟩) ?_
  rintro q a g ⟨i,hi,rfl,X1,Bv,Bw,q⟩
  refine q.go ?_
  refine WL.sr <| WOL.bi (v:=.bool (decide ((i:Int) < (N:Int)))) rfl rfl rfl <| WOL.nil <| keep [(2,_),(4,_),(5,_),(8,_),(9,_),(10,_),(11,_),(67,_),(68,_),(69,_)] ⟨rfl,rfl,rfl,rfl,rfl,rfl,rfl,rfl,rfl,rfl,trivial⟩ ?_
  refine WL.seq ?_
  by_cases hlt:i < N
  · rw [show decide ((i:Int) < (N:Int)) = true by simpa using hlt]
    refine WL.yes rfl <| WL.skip ?_
    refine WL.seq <| WL.block ?_
    refine WL.sr <| WOL.mv rfl <| WOL.as rfl <| WOL.nil <| keep [(2,_),(4,_),(5,_),(8,_),(9,_),(10,_),(11,_),(12,_),(67,_),(68,_)] ⟨rfl,rfl,rfl,rfl,rfl,rfl,rfl,rfl,rfl,rfl,trivial⟩ ?_
    have i158:∀ {c k:Nat},k < 3 → indexAddrT Tryz.prog 68 (.pointer (some ⟨c,0,none⟩)) (zi (k:Nat)) = some (.pointer (some ⟨c,k,none⟩)):=fun hk => ix158 hk
    have p0:=cellD_get (C:=C) (k:=0) (i:=i) (by rw [hlen]; exact hlt)
    have p1:=cellD_get (C:=C) (k:=1) (i:=i) (by rw [hlen]; exact hlt)
    have p2:=cellD_get (C:=C) (k:=2) (i:=i) (by rw [hlen]; exact hlt)
    obtain ⟨b0,o0,cc0,fix0,wr0,el0,d1,d2,d3,d4,d5⟩:=((sl 0 (by decide)).hx X1).at eC u135 tp134 p0 .i64
    obtain ⟨b1,o1,cc1,fix1,wr1,el1,e1,e2,e3,e4,e5⟩:=((sl 1 (by decide)).hx X1).at eC u135 tp134 p1 .i64
    obtain ⟨b2,o2,cc2,fix2,wr2,el2,k1,k2,k3,k4,k5⟩:=((sl 2 (by decide)).hx X1).at eC u135 tp134 p2 .i64
    have B9:=A9.hx X1
    refine WL.sr <| WOL.mv rfl <| WOL.mv rfl <| WOL.mv rfl <| WOL.ix rfl rfl (i158 (k:=0) (by decide)) ?_
    refine WOL.ld rfl (load_one tp135 B9 rfl) <| WOL.mv rfl <| WOL.ix rfl rfl d1 ?_
    refine WOL.ld rfl (load_row tp134 d2 d4 d3) <| WOL.ix rfl rfl (i158 (k:=1) (by decide)) ?_
    refine WOL.ld rfl (load_one tp135 B9 rfl) <| WOL.mv rfl <| WOL.ix rfl rfl e1 ?_
    refine WOL.ld rfl (load_row tp134 e2 e4 e3) <| WOL.ix rfl rfl (i158 (k:=2) (by decide)) ?_
    refine WOL.ld rfl (load_one tp135 B9 rfl) <| WOL.mv rfl <| WOL.ix rfl rfl k1 ?_
    refine WOL.ld rfl (load_row tp134 k2 k4 k3) ?_
    refine WOL.bsl rfl u135 tp134 (by decide) (by decide) (by decide) (filled_cells3 _ _ _) fun h3 N3 => ?_
    have Y3:=X1.trans N3.hx
    refine WOL.cl2 rfl rfl rfl ((k112 H (C:=[cellD C 0 i,cellD C 1 i,cellD C 2 i]) (SlL.own eC N3.at_ rfl) (by simp) (row_lim lim i) (f.on (X.trans Y3))).mono ?_)
    rintro w h4 ⟨rfl,X4⟩
    have Y4:=Y3.trans X4
    have Z4:=N3.hx.trans X4
    refine WOL.ix rfl rfl (indexAddr_tp u135 tp134 hlt) ?_
    refine WOL.sto rfl rfl tp134 (Bv.hx Z4) rfl rfl (by rw [eC.cat_len,lv]; omega) rfl (f.hx (X.trans Y4)) (by have:=X.next; omega) fun h5 P5 => ?_
    have B5:=P5.at_
    rw [show (0:Nat) + i * 2 = (0 + i) * 2 by omega,show (Value.agg #[zi (voteC m [cellD C 0 i,cellD C 1 i,cellD C 2 i]).1,.bool (voteC m [cellD C 0 i,cellD C 1 i,cellD C 2 i]).2]).cells.toList = encC (voteA m C i) from rfl,eC.set (by rw [lv]; omega)] at B5
    have Y5:=P5.hx _ Y4 hbv
    have W5:=P5.oth c11 _ (fun e => hne e.symm) (Bw.hx Z4)
    refine WOL.nil <| keep [(2,_),(4,_),(5,_),(8,_),(9,_),(10,_),(11,_),(12,_),(67,_),(68,_)] ⟨rfl,rfl,rfl,rfl,rfl,rfl,rfl,rfl,rfl,rfl,trivial⟩ ?_
    refine WL.sr <| WOL.mv rfl <| WOL.nil ?_
    refine WL.block ?_
    refine WL.loop (fun q a g => ∃ k:Nat,k ≤ 3 ∧ q = 3 - k ∧ HX gb g ∧ At g bv (.cells (cat encC (setN (List.replicate N (0,false)) 0 (voteA m C) (i + 1))) true true 70) ∧ At g c11 (.cells (cel3 (pwR m C i k)) true true 41) ∧ Kn [(2,ptr c2),(4,ptr c4),(5,ptr c5),(8,zi m),(9,ptr c9),(10,.slice (some ⟨bv,0,none⟩) N N),(11,ptr c11),(12,zi (i:Nat)),(67,zi N),(68,zi (i:Nat)),(92,zi (k:Nat))] a) 3 (fun a q => ⟨0,by omega,by omega,Y5,B5,W5,q.sub ⟨rfl,rfl,rfl,rfl,rfl,rfl,rfl,rfl,rfl,rfl,rfl,trivial⟩⟩) ?_
    clear B5 W5 Y5 P5 h5 Bv Bw q a Z4 Y4 X4 h4 Y3 N3 h3
    rintro q a g' ⟨k,hk,rfl,Y1,Cv,Cw,q⟩
    refine q.go ?_
    refine WL.sr <| WOL.bi (v:=.bool (decide ((k:Int) < 3))) rfl rfl rfl <| WOL.nil <| keep [(2,_),(4,_),(5,_),(8,_),(9,_),(10,_),(11,_),(12,_),(67,_),(68,_),(92,_),(93,_)] ⟨rfl,rfl,rfl,rfl,rfl,rfl,rfl,rfl,rfl,rfl,rfl,rfl,trivial⟩ ?_
    refine WL.seq ?_
    by_cases hk3:k < 3
    · rw [show decide ((k:Int) < 3) = true from decide_eq_true (by omega)]
      refine WL.yes rfl <| WL.skip ?_
      refine WL.seq <| WL.block ?_
      refine WL.sr <| WOL.mv rfl <| WOL.as rfl <| WOL.nil <| keep [(2,_),(4,_),(5,_),(8,_),(9,_),(10,_),(11,_),(12,_),(13,_),(67,_),(68,_),(92,_)] ⟨rfl,rfl,rfl,rfl,rfl,rfl,rfl,rfl,rfl,rfl,rfl,rfl,trivial⟩ ?_
      have pk:=cellD_get (C:=C) (k:=k) (i:=i) (by rw [hlen]; exact hlt)
      obtain ⟨b0,o0,cc0,fix0,wr0,el0,d1,d2,d3,d4,d5⟩:=((sl k hk3).hx Y1).at eC u135 tp134 pk .i64
      have pv:(setN (List.replicate N ((0:Int),false)) 0 (voteA m C) (i + 1))[i]? = some (voteA m C i):=by
        rw [setN_in (by omega) (by rw [List.length_replicate]; exact hlt) _ (by omega)]; rfl
      obtain ⟨b1,o1,cc1,fix1,wr1,el1,e1,e2,e3,e4,e5⟩:=(slv Cv).at eC u135 tp134 pv .i64
      refine WL.sr <| WOL.mv rfl <| WOL.ix rfl rfl (i158 hk3) ?_
      refine WOL.ld rfl (load_one tp135 (A9.hx Y1) (rows_get hk3)) <| WOL.mv rfl <| WOL.ix rfl rfl d1 ?_
      refine WOL.ld rfl (load_row tp134 d2 d4 d3) <| WOL.mv rfl <| WOL.mv rfl <| WOL.ix rfl rfl e1 ?_
      refine WOL.ld rfl (load_row tp134 e2 e4 e3) <| WOL.mv rfl ?_
      refine WOL.cl3 rfl rfl rfl rfl ((k113 H (m:=m) (x:=(cellD C k i).1) (p:=(cellD C k i).2) (n:=(voteA m C i).1) (q:=(voteA m C i).2) (cellD_lim lim k i) (voteA_lim lim i)).mono ?_)
      rintro w h4 ⟨rfl,X4⟩
      have Y4:=Y1.trans X4
      refine WOL.nil <| keep [(2,_),(4,_),(5,_),(8,_),(9,_),(10,_),(11,_),(12,_),(13,_),(67,_),(68,_),(92,_),(106,_)] ⟨rfl,rfl,rfl,rfl,rfl,rfl,rfl,rfl,rfl,rfl,rfl,rfl,rfl,trivial⟩ ?_
      have fin:∀ {Q:Exit → Regs → TH → Prop} g',HX gb g' → At g' bv (.cells (cat encC (setN (List.replicate N (0,false)) 0 (voteA m C) (i + 1))) true true 70) → At g' c11 (.cells (cel3 (pwR m C i (k + 1))) true true 41) → ∀ a,Kn [(2,ptr c2),(4,ptr c4),(5,ptr c5),(8,zi m),(9,ptr c9),(10,.slice (some ⟨bv,0,none⟩) N N),(11,ptr c11),(12,zi (i:Nat)),(67,zi N),(68,zi (i:Nat)),(92,zi (k:Nat))] a → W Tryz.prog tp false (.reg r53_17) a g' (andThen (fun a g => ∃ q',q' < 3 - k ∧ ∃ k:Nat,k ≤ 3 ∧ q' = 3 - k ∧ HX gb g ∧ At g bv (.cells (cat encC (setN (List.replicate N (0,false)) 0 (voteA m C) (i + 1))) true true 70) ∧ At g c11 (.cells (cel3 (pwR m C i k)) true true 41) ∧ Kn [(2,ptr c2),(4,ptr c4),(5,ptr c5),(8,zi m),(9,ptr c9),(10,.slice (some ⟨bv,0,none⟩) N N),(11,ptr c11),(12,zi (i:Nat)),(67,zi N),(68,zi (i:Nat)),(92,zi (k:Nat))] a) Q):=by
        intro Q g' Y' V' W'
        refine WL.reg ?_
        refine WOL.bi (v:=zi ((k + 1:Nat):Int)) rfl rfl (by show some (Value.int .i64 (fwrap .i64 ((k:Int) + 1))) = _; rw [fwrap_i64 (by omega) (by omega)]; rfl) ?_
        refine WOL.mv rfl <| WOL.nil ?_
        exact fun a q => ⟨3 - (k + 1),by omega,k + 1,by omega,rfl,Y',V',W',q.sub ⟨rfl,rfl,rfl,rfl,rfl,rfl,rfl,rfl,rfl,rfl,rfl,trivial⟩⟩
      cases hb:wrongB m (cellD C k i) (voteA m C i) with
      | false =>
        refine WL.no rfl <| WL.skip ?_
        exact fun a q => fin h4 Y4 (Cv.hx X4) (by rw [pw_same hb]; exact Cw.hx X4) a (q.sub ⟨rfl,rfl,rfl,rfl,rfl,rfl,rfl,rfl,rfl,rfl,rfl,trivial⟩)
      | true =>
        have hw:=wrN_le (m:=m) (C:=C) i k
        refine WL.yes rfl <| WL.reg ?_
        refine WOL.mv rfl <| WOL.ix rfl rfl (ix83 hk3) ?_
        refine WOL.ld rfl (load_one tp3 (Cw.hx X4) (cells3_get hk3)) ?_
        rw [pw_at]
        refine WOL.add rfl rfl (by omega) (by omega) <| WOL.ix rfl rfl (ix83 hk3) ?_
        refine WOL.sto rfl rfl tp3 (Cw.hx X4) rfl rfl (by show k + 1 ≤ 3; omega) rfl (f.hx (X.trans Y4)) (by have:=X.next; omega) fun h5 P5 => ?_
        have W5:=P5.at_
        rw [show (zi (wrN m C i k + 1)).cells.toList = [zi (wrN m C i k + 1)] from rfl,pw_next hb hk3] at W5
        refine WOL.nil ?_
        exact fun a q => fin h5 (P5.hx _ Y4 hcw) (P5.oth bv _ hne (Cv.hx X4)) W5 a (q.sub ⟨rfl,rfl,rfl,rfl,rfl,rfl,rfl,rfl,rfl,rfl,rfl,trivial⟩)
    · rw [show decide ((k:Int) < 3) = false from decide_eq_false (by omega)]
      obtain rfl:k = 3:=by omega
      refine WL.no rfl <| WL.exit ?_
      refine WL.reg ?_
      refine WOL.bi (v:=zi ((i + 1:Nat):Int)) rfl rfl (by show some (Value.int .i64 (fwrap .i64 ((i:Int) + 1))) = _; rw [fwrap_i64 (by omega) (by omega)]; rfl) ?_
      refine WOL.mv rfl <| WOL.nil ?_
      exact fun a q => ⟨N - (i + 1),by omega,i + 1,by omega,rfl,Y1,Cv,Cw,q.sub ⟨rfl,rfl,rfl,rfl,rfl,rfl,rfl,rfl,rfl,trivial⟩⟩
  · rw [show decide ((i:Int) < (N:Int)) = false by simpa using hlt]
    obtain rfl:i = N:=by omega
    refine WL.no rfl <| WL.exit ?_
    exact kto (K g X1 Bv Bw) ⟨rfl,rfl,rfl,rfl,rfl,trivial⟩
end Go.Tidy
namespace Go.Tidy
open Go Go.Proofs Tab
variable {tp:TProg}
section
variable {P:Program} {a:Regs} {h:TH} {K:Regs → TH → Prop} {rest:List TOper} {d:Option Tmp} {ty:TypeId} {i:Nat} {f x0 x1 x2 l0:Operand} {ls:List Operand} {fv v0 v1 v2:Value} {ts:Array TypeId}
theorem WO.lq3 (bs:List Nat) (hb:(l0 :: ls).map (fun x => (getO a x).bind blockOf) = bs.map some) (hf:getO a f = some fv) (h0:getO a x0 = some v0) (h1:getO a x1 = some v1) (h2:getO a x2 = some v2) (w:∀ L,(∀ l,l ∈ L → l ∈ bs ∨ l ∈ h.lock) → CallW P tp fv #[v0,v1,v2] (h.withLock L) fun v h1 => WO P tp rest (a.put d v) (h1.withLock h.lock) K):WO P tp (⟨d,.call ⟨.value f,#[x0,x1,x2],ts⟩,ty,none,l0 :: ls,i⟩ :: rest) a h K :=
 WO.cons_lock rfl rfl (StepW.call (by rw [getO_eval hf]; simpa [getO_eval h0,getO_eval h1,getO_eval h2] using w _ (lockOf_bs _ a bs h.lock hb)))
theorem WOL.lq3 {L:Rg} (bs:List Nat) (hb:(l0 :: ls).map (fun x => (getL L x).bind blockOf) = bs.map some) (hf:getL L f = some fv) (h0:getL L x0 = some v0) (h1:getL L x1 = some v1) (h2:getL L x2 = some v2) (w:∀ M,(∀ l,l ∈ M → l ∈ bs ∨ l ∈ h.lock) → CallW P tp fv #[v0,v1,v2] (h.withLock M) fun v h1 => ∀ a,Kn (putL L d v) a → WO P tp rest a (h1.withLock h.lock) K):∀ a,Kn L a → WO P tp (⟨d,.call ⟨.value f,#[x0,x1,x2],ts⟩,ty,none,l0 :: ls,i⟩ :: rest) a h K :=
 fun _ k => WO.lq3 bs (locks_o k hb) (k.o hf) (k.o h0) (k.o h1) (k.o h2) fun M hM => (w M hM).mono fun _ _ q => k.nx q
end
def RefS (B:Nat) (g:TH) (c:Nat) (s:ByteArray) (n:Int) (C:List (Int × Bool)) (e:Int):Prop :=
  ∃ sz nz w1 w2,At g c (.cells (runV sz nz w1 w2).cells.toList true true 25) ∧ (e ≠ 0 → w1 = .slice none 0 0 ∧ w2 = .slice none 0 0) ∧
    (e = 0 → (sz = s ∧ nz = n) ∧ RunO B g w1 w2 (C.map fun c => smp c.1) (holesOf (C.map fun c => c.2)) ∧ Lev (C.map fun c => smp c.1) (C.map fun c => c.1) ∧ C.length ≤ 4096)
section
variable {B c c':Nat} {g g':TH} {s:ByteArray} {n:Int} {C:List (Int × Bool)} {e:Int}
theorem RefS.hx (q:RefS B g c s n C e) (x:HX g g'):RefS B g' c s n C e:=by
 obtain ⟨sz,nz,w1,w2,a,q1,q2⟩:=q
 exact ⟨sz,nz,w1,w2,a.hx x,q1,fun h => ⟨(q2 h).1,(q2 h).2.1.hx x,(q2 h).2.2⟩⟩
theorem RefS.away {x:TB} (q:RefS B g c s n C e) (p:Put g g' c' x) (h1:c' ≠ c) (h2:c' < B):RefS B g' c s n C e:=by
 obtain ⟨sz,nz,w1,w2,a,q1,q2⟩:=q
 exact ⟨sz,nz,w1,w2,p.oth _ _ (Ne.symm h1) a,q1,fun h => ⟨(q2 h).1,(q2 h).2.1.away p h2,(q2 h).2.2⟩⟩
end
end Go.Tidy
namespace Go.Tidy
open Go Go.Proofs Tab
variable {tp:TProg}
section
variable {P:Program} {h:TH} {K:Regs → TH → Prop} {rest:List TOper} {d:Option Tmp} {ty:TypeId} {i:Nat} {x y l0:Operand} {ls:List Operand} {t u:TypeId} {L:Rg} {v:Value} {n:Nat} {zl:List Value} {row:Bool}
theorem WOL.stQ {b off m:Nat} {c vs:List Value} {fix:Bool} {el:TypeId} (bs:List Nat) (hb:(l0 :: ls).map (fun x => (getL L x).bind blockOf) = bs.map some) (hx:getL L x = some (.pointer (some ⟨b,off,none⟩))) (hy:getL L y = some v) (he:Tp P t n zl row) (hg:At h b (.cells c fix true el)) (hv:v.cells.toList = vs) (hn:vs.length = n) (ho:off + n ≤ c.length) (h1:vs.all oneCell = true) (f:Free0 m h) (hm:m ≤ b) (hnb:b ∉ bs)
  (w:∀ h',Put h h' b (.cells (splice c off vs) fix true el) → ∀ a,Kn (putL L d undef) a → WO P tp rest a h' K):∀ a,Kn L a → WO P tp (⟨d,.store t x y,ty,none,l0 :: ls,i⟩ :: rest) a h K:=by
 intro a k
 refine WO.cons_lock rfl rfl ?_
 have hM:=lockOf_bs (l0 :: ls) a bs h.lock (locks_o k hb)
 generalize lockOf (l0 :: ls) a.eval h.lock = M at *
 have hnM:b ∉ M:=fun hin => by
  rcases hM b hin with q | q
  ·exact hnb q
  ·have:=f.lock b q; omega
 have ex:=getO_eval (k.o hx)
 have ey:=getO_eval (k.o hy)
 obtain ⟨inf,q1,q2,_⟩:=he.i
 have e1:Nat.beq v.cells.size inf.size = true:=by
  rw [q2,← hn,← hv]; simp
 have e2:Nat.ble (off + vs.length) c.length = true:=by rw [Nat.ble_eq,hn]; exact ho
 have hp:(h.withLock M).put b (.cells (splice c off vs) fix true el) = some ((h.withLock M).upd b (.cells (splice c off vs) fix true el)):=TH.put_upd (Nat.le_trans f.floor hm) hg.lt hnM
 have hs:storeT P t (.pointer (some ⟨b,off,none⟩)) v (h.withLock M) = some ((h.withLock M).upd b (.cells (splice c off vs) fix true el)):=by
  simp only [storeT,q1,e1,Bool.cond_true,putCells,(hg.relock M).get,hv,e2,h1,Bool.and_self]
  exact hp
 refine StepW.of (v:=undef) (h1:=(h.withLock M).upd b (.cells (splice c off vs) fix true el)) (fun call => ?_) ?_
 ·have hpl:plainOp P ⟨d,.store t x y,ty,none,l0 :: ls,i⟩ a.eval = none:=rfl
  simp [stepOp,heapFirst,fastOp,valueOp,hpl,heapOp,ex,ey,hs]
 ·have:=w (h.upd b (.cells (splice c off vs) fix true el)) (Put.mk' hg _) _ (k.put d undef)
  exact this
def lt0 (b:Nat):Bool:=if nanB .f32 b = true then false else Ieee.single.order b 0 == some .lt
theorem WOL.flz {b:Nat} (hx:getL L x = some (.float .f32 b)) (hy:getL L y = some (.float .f32 0)) (w:∀ a,Kn (putL L d (.bool (lt0 b))) a → WO P tp rest a h K):∀ a,Kn L a → WO P tp (⟨d,.binOp .lss t x y u,ty,none,[],i⟩ :: rest) a h K:=by
 unfold lt0 at w
 cases hb:nanB .f32 b with
 | true =>
  rw [hb,if_pos rfl] at w
  exact WOL.bi hx hy (by show cond (fKindEq .f32 .f32 && (nanB .f32 b || nanB .f32 0)) (nanOut .lss) none = _; rw [hb]; rfl) w
 | false =>
  rw [hb,if_neg (by decide)] at w
  exact fun a k => WO.fcmp (k.o hx) (k.o hy) hb (by decide) rfl (w _ (k.put d _))
variable {V:Value → TH → Prop}
theorem WL.endCC1 {t s r:Nat} {p q w v1 v2:Value} {ty1 ty2:TypeId} (hx:lkR L t = some p) (hx2:lkR L s = some q) (hs:lkR L r = some w) (hv:loadT P ty1 p h = some v1) (hv2:loadT P ty2 q h = some v2) (qq:V (.tuple #[v1,v2,w]) h):∀ a,Kn L a → Fin P [.cell t ty1,.cell s ty2,.tmp r] V .ret a h :=
 fun a k => by
  unfold Fin
  refine ⟨.inr rfl,[v1,v2,w],?_,qq⟩
  have e1:a.at_ t = p:=by simp only [Regs.at_,k _ _ hx]
  have e2:a.at_ s = q:=by simp only [Regs.at_,k _ _ hx2]
  have e3:a.at_ r = w:=by simp only [Regs.at_,k _ _ hs]
  simp [resultsT,e1,e2,e3,hv,hv2]
end
theorem filled_ints6 (a b c d e f:Int):filled 1 6 [.int .i64 0] [(0,.int .i64 a),(1,.int .i64 b),(2,.int .i64 c),(3,.int .i64 d),(4,.int .i64 e),(5,.int .i64 f)] = some ([a,b,c,d,e,f].map (.int .i64)):=by
 simp [filled,zeros,Instr.fill,Value.cells]
theorem bd83z:buildT Tryz.prog 41 [] = some (.agg #[.int .i64 0,.int .i64 0,.int .i64 0]):=by kernel_rfl
theorem bd158 {b1 b2 b3:Option Addr} {l1 c1 l2 c2 l3 c3:Nat}:buildT Tryz.prog 68 [(0,.slice b1 l1 c1),(1,.slice b2 l2 c2),(2,.slice b3 l3 c3)] = some (.agg #[.slice b1 l1 c1,.slice b2 l2 c2,.slice b3 l3 c3]):=by kernel_rfl
theorem ix86_0 {c:Nat}:indexAddrT Tryz.prog 35 (.pointer (some ⟨c,0,none⟩)) (.int .i64 0) = some (.pointer (some ⟨c,0,none⟩)):=by kernel_rfl
theorem ix86_1 {c:Nat}:indexAddrT Tryz.prog 35 (.pointer (some ⟨c,0,none⟩)) (.int .i64 1) = some (.pointer (some ⟨c,4,none⟩)):=by kernel_rfl
theorem ix86_2 {c:Nat}:indexAddrT Tryz.prog 35 (.pointer (some ⟨c,0,none⟩)) (.int .i64 2) = some (.pointer (some ⟨c,8,none⟩)):=by kernel_rfl
def runs3 (s:Nat → ByteArray) (n:Nat → Int) (v1 v2:Nat → Value):Value:=.agg #[.string (s 0),zi (n 0),v1 0,v2 0,.string (s 1),zi (n 1),v1 1,v2 1,.string (s 2),zi (n 2),v1 2,v2 2]
def votesC (m:Int) (C:Nat → List (Int × Bool)) (N:Nat):List (Int × Bool):=setN (List.replicate N (0,false)) 0 (voteA m C) N
def voteE (e:Nat → Int) (n:Nat → Int) (l:Nat → Nat) (el:Int) (b:Nat):Int:=firstNZ [e 0,e 1,e 2,cond (!shapeB (n 0) (l 0) (n 1) (l 1) || !shapeB (n 0) (l 0) (n 2) (l 2)) 2 0,el,cond (lt0 b) 3 0]
theorem votesC_len {m:Int} {C:Nat → List (Int × Bool)} {N:Nat}:(votesC m C N).length = N:=by unfold votesC; rw [setN_len,List.length_replicate]
theorem votesC_get {m:Int} {C:Nat → List (Int × Bool)} {N i:Nat} (h:i < N):(votesC m C N)[i]? = some (voteA m C i):=by
 unfold votesC
 rw [setN_in (by omega) (by rw [List.length_replicate]; exact h) _ (by omega)]; rfl
theorem votesC_lim {m:Int} {C:Nat → List (Int × Bool)} {N:Nat} (lim:∀ k c,c ∈ C k → c.1.natAbs ≤ 16384):∀ c,c ∈ votesC m C N → c.1.natAbs ≤ 16384:=by
 intro c hc
 unfold votesC at hc
 rcases setN_mem N hc with hc | ⟨j,_,rfl⟩
 ·rw [(List.mem_replicate.1 hc).2]; decide
 ·exact voteA_lim lim j
def r53w:TCode:=(.seq (.reg r53_4) (.seq (.reg r53_5) (.seq (.reg r53_6) (.seq (.reg r53_7) (.seq (.seq (.reg r53_8) (.block 0 (.loop (.seq (.reg r53_9) (.seq (.cond (.tmp 69) .skip (.exit 0)) (.seq (.block 1 (.seq (.reg r53_10) (.seq (.reg r53_11) (.seq (.reg r53_12) (.block 2 (.loop (.seq (.reg r53_13) (.seq (.cond (.tmp 93) .skip (.exit 2)) (.seq (.block 3 (.seq (.reg r53_14) (.seq (.reg r53_15) (.cond (.tmp 106) (.reg r53_16) .skip)))) (.reg r53_17)))))))))) (.reg r53_18))))))) (.seq (.reg r53_19) .ret))))))
section
variable {s:Nat → ByteArray} {n:Nat → Int} {v1 v2:Nat → Value} {F:Nat → List Nat} {S:Nat → List (Int × Int)} {es L:Nat → List Int} {h:TH} {lb:Nat}
set_option maxHeartbeats 8000000 in
set_option maxRecDepth 10000 in
theorem k53w (H:Has tp) {m:Int} {N c2 c4 c5:Nat} {g:TH} {CC:Nat → List (Int × Bool)} (sm:Samp lb m) (r:∀ k,RunH h (v1 k) (v2 k) (F k) (S k)) (hL:∀ k,Lev (F k) (L k)) (hF:∀ k,(F k).length ≤ 4096) (hS:∀ k,(S k).length ≤ 900000) (hin:∀ k,In (F k).length (S k)) (hN:∀ k,(F k).length = N) (hC:CC = fun k => cellsL (L k) (S k)) (f:Free0 h.next h) (Y:HX h g)
    (A2:At g c2 (.cells [.string (s 0),zi (n 0),v1 0,v2 0,.string (s 1),zi (n 1),v1 1,v2 1,.string (s 2),zi (n 2),v1 2,v2 2] true true 35)) (A4:At g c4 (.cells [.string ⟨#[]⟩,.int .i64 0,.slice none 0 0,.slice none 0 0] true true 34)) (A5:At g c5 (.cells [.int .i64 0,.int .i64 0,.int .i64 0] true true 41)) (hc4:h.next ≤ c4) (hc5:h.next ≤ c5) (hc2:h.next ≤ c2) (h45:c4 ≠ c5) :
    ∀ a,Kn [(1,.float .f32 lb),(2,ptr c2),(4,ptr c4),(5,ptr c5)] a → W Tryz.prog tp false r53w a g (Fin Tryz.prog [.cell 4 34,.cell 5 41,.tmp 6] fun v h' => HX h h' ∧ ∃ w1 w2,v = .tuple #[runV (s 0) (n 0) w1 w2,.agg (cel3 (wrN m CC N)).toArray,zi 0] ∧
        RunO h.next h' w1 w2 ((votesC m CC N).map fun c => smp c.1) (holesOf ((votesC m CC N).map fun c => c.2))):=by
  have lt2:=A2.lt
  have lt4:=A4.lt
  have lt5:=A5.lt
  have hcl:∀ k,(cellsL (L k) (S k)).length = N:=fun k => by rw [cells_len (hL k) (hin k),hN k]
  have lim:∀ k c,c ∈ CC k → c.1.natAbs ≤ 16384:=fun k c hc => by subst hC; exact cells_lim (hL k) (S k) c hc
  have hCl:∀ k,(CC k).length = N:=fun k => by subst hC; exact hcl k
  have N4:N ≤ 4096:=by rw [← hN 0]; exact hF 0
  unfold r53w
  refine WL.sr <| WOL.mv rfl ?_
  refine WOL.cl1 rfl rfl ((k111 H sm g).mono ?_)
  rintro v g' ⟨rfl,rfl⟩
  refine WOL.as rfl <| WOL.nil <| keep [(2,_),(4,_),(5,_),(8,_)] ⟨rfl,rfl,rfl,rfl,trivial⟩ ?_
  refine WL.sr <| WOL.ix rfl rfl ix86_0 ?_
  refine WOL.ld rfl (load_row tp52 A2 rfl (Nat.le_of_ble_eq_true rfl)) <| WOL.ix rfl rfl ix86_1 ?_
  refine WOL.ld rfl (load_row tp52 A2 rfl (Nat.le_of_ble_eq_true rfl)) <| WOL.ix rfl rfl ix86_2 ?_
  refine WOL.ld rfl (load_row tp52 A2 rfl (Nat.le_of_ble_eq_true rfl)) ?_
  refine WOL.al tp158 fun h1 N1 => ?_
  have n1:=N1.next
  have Y1:=Y.trans N1.hx
  refine WOL.lq1 [g'.next,c2,c2] rfl rfl rfl fun M hM => ((k85 H (s:=s 0) (n:=n 0) (((r 0).hx Y1).relock' M) (hL 0) (by have:=hF 0; omega) (by have:=hS 0; omega) (hin 0) ((f.on Y1).held hM (fun b hb => by simp at hb; omega))).mono ?_)
  rintro v h2 ⟨b1,rfl,o1,B1,X2⟩
  replace B1:=B1.relock h1.lock
  replace X2:=X2.relock
  replace o1:h1.next ≤ b1:=o1
  generalize h2.withLock h1.lock = h2 at *
  have Y2:=Y1.trans X2
  have n2:=X2.next
  refine WOL.lq1 [g'.next,c2] rfl rfl rfl fun M hM => ((k85 H (s:=s 1) (n:=n 1) (((r 1).hx Y2).relock' M) (hL 1) (by have:=hF 1; omega) (by have:=hS 1; omega) (hin 1) ((f.on Y2).held hM (fun b hb => by simp at hb; omega))).mono ?_)
  rintro v h3 ⟨b2,rfl,o2,B2,X3⟩
  replace B2:=B2.relock h2.lock
  replace X3:=X3.relock
  replace o2:h2.next ≤ b2:=o2
  generalize h3.withLock h2.lock = h3 at *
  have Y3:=Y2.trans X3
  have n3:=X3.next
  refine WOL.lq1 [g'.next] rfl rfl rfl fun M hM => ((k85 H (s:=s 2) (n:=n 2) (((r 2).hx Y3).relock' M) (hL 2) (by have:=hF 2; omega) (by have:=hS 2; omega) (hin 2) ((f.on Y3).held hM (fun b hb => by simp at hb; omega))).mono ?_)
  rintro v h4 ⟨b3,rfl,o3,B3,X4⟩
  replace B3:=B3.relock h3.lock
  replace X4:=X4.relock
  replace o3:h3.next ≤ b3:=o3
  generalize h4.withLock h3.lock = h4 at *
  have Y4:=Y3.trans X4
  have n4:=X4.next
  have Z4:=(X2.trans X3).trans X4
  rw [hN 0,hN 1,hN 2]
  refine WOL.bd rfl bd158 ?_
  have z1:=N1.hx.next
  refine WOL.sto rfl rfl tp158 (N1.at_.hx Z4) rfl rfl (Nat.le_of_ble_eq_true rfl) rfl (f.hx Y4) (by have:=Y.next; omega) fun h5 P5 => ?_
  have Y5:=P5.hx _ Y4 (by have:=Y.next; omega)
  have A9:=P5.at_
  have X5:HX g' h5:=P5.hx _ (N1.hx.trans Z4) (Nat.le_refl _)
  have nx5:=P5.next
  have lb1:=B1.lt
  have lb2:=B2.lt
  have lb3:=B3.lt
  have C1:=P5.oth b1 _ (by omega) ((B1.hx X3).hx X4)
  have C2:=P5.oth b2 _ (by omega) (B2.hx X4)
  have C3:=P5.oth b3 _ (by omega) B3
  obtain ⟨us,u0,u1,u2⟩:∃ us:Nat → Value,us 0 = .slice (some ⟨b1,0,none⟩) N N ∧ us 1 = .slice (some ⟨b2,0,none⟩) N N ∧ us 2 = .slice (some ⟨b3,0,none⟩) N N:=⟨fun k => match k with | 0 => Value.slice (some ⟨b1,0,none⟩) N N | 1 => .slice (some ⟨b2,0,none⟩) N N | _ => .slice (some ⟨b3,0,none⟩) N N,rfl,rfl,rfl⟩
  have A9:At h5 g'.next (.cells [us 0,us 1,us 2] true true 68):=by rw [u0,u1,u2]; exact A9
  have slk:∀ k,k < 3 → SlL encC 2 h5 (us k) (CC k):=by
    intro k hk
    subst hC
    obtain rfl | rfl | rfl:k = 0 ∨ k = 1 ∨ k = 2:=by omega
    · rw [u0]; exact SlL.own eC C1 (hcl 0)
    · rw [u1]; exact SlL.own eC C2 (hcl 1)
    · rw [u2]; exact SlL.own eC C3 (hcl 2)
  clear C1 C2 C3 u0 u1 u2
  refine WOL.nil <| keep [(2,_),(4,_),(5,_),(8,_),(9,_)] ⟨rfl,rfl,rfl,rfl,rfl,trivial⟩ ?_
  refine WL.sr <| WOL.ix rfl rfl (ix158 (k:=0) (by decide)) ?_
  refine WOL.ld rfl (load_one tp135 A9 rfl) ?_
  refine WOL.len rfl (slk 0 (by decide)) u135 ?_
  rw [hCl 0]
  refine WOL.ms rfl rfl u135 tp134 (by decide) (by omega) fun h6 N6 => ?_
  refine WOL.as rfl <| WOL.nil <| keep [(2,_),(4,_),(5,_),(8,_),(9,_),(10,_)] ⟨rfl,rfl,rfl,rfl,rfl,rfl,trivial⟩ ?_
  refine WL.sr <| WOL.al tp83 fun h7 N7 => WOL.nil <| keep [(2,_),(4,_),(5,_),(8,_),(9,_),(10,_),(11,_)] ⟨rfl,rfl,rfl,rfl,rfl,rfl,rfl,trivial⟩ ?_
  have Av:At h7 h5.next (.cells (cat encC (List.replicate N ((0:Int),false))) true true 70):=by rw [← cellsL_flat]; exact N6.at_.hx N7.hx
  have nx6:=N6.next
  have gx5:=X5.next
  refine kto (k53loop H (m:=m) (C:=CC) (us:=us) f Y5 (N6.hx.trans N7.hx) A9 slk hCl (by omega) lim Av N7.at_ (Nat.le_refl _) (by omega) (by omega) ?_) ⟨rfl,rfl,rfl,rfl,rfl,rfl,rfl,trivial⟩
  intro g9 X9 Bv Bw
  have Y9:=Y5.trans X9
  have W9:=X5.trans X9
  have A2':=A2.hx W9
  have A4':=A4.hx W9
  have A5':=A5.hx W9
  have lw:=Bw.lt
  refine WL.sr <| WOL.ix rfl rfl ix86_0 <| WOL.fa rfl (fa_of fo52_0) ?_
  refine WOL.ld rfl (load_one tp9 A2' rfl) <| WOL.ix rfl rfl ix86_0 <| WOL.fa rfl (fa_of fo52_1) ?_
  refine WOL.ld rfl (load_one tp3 A2' rfl) <| WOL.mv rfl ?_
  refine WOL.ld rfl (load_row tp83 Bw rfl (Nat.le_of_ble_eq_true rfl)) ?_
  refine WOL.lq3 [h6.next] rfl rfl rfl rfl rfl fun M hM => ((k89 H (s:=s 0) (n:=n 0) (C:=votesC m CC N) ((SlL.own eC Bv (votesC_len (m:=m) (C:=CC))).relock M) (votesC_lim lim) (by rw [votesC_len]; omega) ((f.on Y9).held hM (fun b hb => by simp at hb; omega))).mono ?_)
  rintro v h10 ⟨w1,w2,rfl,X10,O10⟩
  replace X10:=X10.relock
  replace O10:=O10.relock' g9.lock
  replace O10:RunO g9.next (h10.withLock g9.lock) w1 w2 ((votesC m CC N).map fun c => smp c.1) (holesOf ((votesC m CC N).map fun c => c.2)):=O10
  generalize h10.withLock g9.lock = h10 at *
  have Y10:=Y9.trans X10
  have n9:=Y9.next
  have gw:=W9.next
  obtain ⟨bo1,k1,rfl⟩:=O10.r.f.form
  obtain ⟨bo2,k2,rfl⟩:=O10.r.s.form
  refine WOL.stQ [h6.next] rfl rfl rfl tp52 (A4'.hx X10) rfl rfl (Nat.le_of_ble_eq_true rfl) rfl (f.hx Y10) hc4 (by simp; omega) fun h11 P11 => ?_
  refine WOL.sto rfl rfl tp83 (P11.oth c5 _ (fun e => h45 e.symm) (A5'.hx X10)) rfl rfl (Nat.le_of_ble_eq_true rfl) rfl (f.hx (P11.hx _ Y10 hc4)) hc5 fun h12 P12 => ?_
  refine WOL.as rfl <| WOL.nil ?_
  refine WL.ret (WL.endCC1 (t:=4) (s:=5) (r:=6) rfl rfl rfl (load_row tp52 (P12.oth c4 _ h45 P11.at_) rfl (Nat.le_of_ble_eq_true rfl)) (load_row tp83 P12.at_ rfl (Nat.le_of_ble_eq_true rfl)) ⟨P12.hx _ (P11.hx _ Y10 hc4) hc5,_,_,rfl,((O10.away P11 (by omega)).away P12 (by omega)).le (by omega)⟩)
end
set_option maxHeartbeats 8000000 in
set_option maxRecDepth 10000 in
theorem k53 (H:Has tp) (X:HasX tp) {s:Nat → ByteArray} {n:Nat → Int} {v1 v2:Nat → Value} {F:Nat → List Nat} {S:Nat → List (Int × Int)} {es L:Nat → List Int} {h:TH} {lb:Nat} {el:Int} (r:∀ k,RunH h (v1 k) (v2 k) (F k) (S k)) (hE:∀ k,SErr (F k) (es k)) (hL:∀ k,firstNZ (es k) = 0 → Lev (F k) (L k)) (hF:∀ k,(F k).length ≤ 900000) (hS:∀ k,(S k).length ≤ 900000) (eL:SampleE lb el) (f:Free0 h.next h)
    (h3:∀ k,∃ j,j < 3 ∧ s k = s j ∧ n k = n j ∧ F k = F j ∧ S k = S j ∧ es k = es j ∧ L k = L j) {E:Int} (hEE:voteE (fun k => runE (s k) (n k) (F k).length (S k) (es k) (L k)) n (fun k => (F k).length) el lb = E) :
    CallW Tryz.prog tp (.func (.func 11) #[] #[]) #[runs3 s n v1 v2,.float .f32 lb] h fun v h' => HX h h' ∧ ((E ≠ 0 ∧ v = .tuple #[run0,.agg #[zi 0,zi 0,zi 0],zi E]) ∨
      (E = 0 ∧ ∃ m w1 w2,Samp lb m ∧ v = .tuple #[runV (s 0) (n 0) w1 w2,.agg (cel3 (wrN m (fun k => cellsL (L k) (S k)) (F 0).length)).toArray,zi 0] ∧
        RunO h.next h' w1 w2 ((votesC m (fun k => cellsL (L k) (S k)) (F 0).length).map fun c => smp c.1) (holesOf ((votesC m (fun k => cellsL (L k) (S k)) (F 0).length).map fun c => c.2)))):=by
  refine CallW.fnL (H.fn 11 f53 rfl rfl) ?_
  refine WL.sr <| WOL.box rfl fun h1 N1 => ?_
  refine WOL.al tp52 fun h2 N2 => ?_
  refine WOL.al tp83 fun h3' N3 => ?_
  have n1:=N1.next
  have n2:=N2.next
  have n3:=N3.next
  have X3:HX h h3':=(N1.hx.trans N2.hx).trans N3.hx
  have A2:At h3' h.next (.cells [.string (s 0),zi (n 0),v1 0,v2 0,.string (s 1),zi (n 1),v1 1,v2 1,.string (s 2),zi (n 2),v1 2,v2 2] true true 35):=(N1.at_.hx N2.hx).hx N3.hx
  have A4:=N2.at_.hx N3.hx
  have A5:=N3.at_
  refine WOL.as rfl <| WOL.nil <| keep [(1,_),(2,_),(4,_),(5,_),(6,_)] ⟨rfl,rfl,rfl,rfl,rfl,trivial⟩ ?_
  refine WL.sr <| WOL.ix rfl rfl ix86_0 ?_
  refine WOL.ld rfl (load_row tp52 A2 rfl (Nat.le_of_ble_eq_true rfl)) <| WOL.ix rfl rfl ix86_1 ?_
  refine WOL.ld rfl (load_row tp52 A2 rfl (Nat.le_of_ble_eq_true rfl)) <| WOL.ix rfl rfl ix86_2 ?_
  refine WOL.ld rfl (load_row tp52 A2 rfl (Nat.le_of_ble_eq_true rfl)) <| WOL.ix rfl rfl ix86_0 ?_
  refine WOL.ld rfl (load_row tp52 A2 rfl (Nat.le_of_ble_eq_true rfl)) <| WOL.ix rfl rfl ix86_1 ?_
  refine WOL.ld rfl (load_row tp52 A2 rfl (Nat.le_of_ble_eq_true rfl)) <| WOL.mv rfl <| WOL.mv rfl <| WOL.flz rfl rfl ?_
  refine WOL.lq1 [h.next,h.next,h.next,h.next] rfl rfl rfl fun M hM => ((k41 H X (s:=s 0) (n:=n 0) (((r 0).hx X3).relock' M) (hE 0) (hL 0) (by have:=hF 0; omega) (by have:=hS 0; omega) ((f.on X3).held hM (fun b hb => by simp at hb; omega))).mono ?_)
  rintro v h4 ⟨rfl,X4⟩
  replace X4:=X4.relock
  generalize h4.withLock h3'.lock = h4 at *
  have Y4:=X3.trans X4
  have y4:=X4.next
  refine WOL.lq1 [h.next,h.next,h.next] rfl rfl rfl fun M hM => ((k41 H X (s:=s 1) (n:=n 1) (((r 1).hx Y4).relock' M) (hE 1) (hL 1) (by have:=hF 1; omega) (by have:=hS 1; omega) ((f.on Y4).held hM (fun b hb => by simp at hb; omega))).mono ?_)
  rintro v h5 ⟨rfl,X5⟩
  replace X5:=X5.relock
  generalize h5.withLock h4.lock = h5 at *
  have Y5:=Y4.trans X5
  have y5:=X5.next
  refine WOL.lq1 [h.next,h.next] rfl rfl rfl fun M hM => ((k41 H X (s:=s 2) (n:=n 2) (((r 2).hx Y5).relock' M) (hE 2) (hL 2) (by have:=hF 2; omega) (by have:=hS 2; omega) ((f.on Y5).held hM (fun b hb => by simp at hb; omega))).mono ?_)
  rintro v h6 ⟨rfl,X6⟩
  replace X6:=X6.relock
  generalize h6.withLock h5.lock = h6 at *
  have Y6:=Y5.trans X6
  refine WOL.cl2 rfl rfl rfl ((k109 H (s:=s 0) (s':=s 1) (n:=n 0) (n':=n 1) ((r 0).f.hx Y6) ((r 1).f.hx Y6)).mono ?_)
  rintro v h7 ⟨rfl,X7⟩
  have Y7:=Y6.trans X7
  have Z7:=((X4.trans X5).trans X6).trans X7
  refine WOL.nt rfl <| WOL.mv rfl ?_
  have go:∀ g,HX h3' g → ∀ a,Kn [(1,.float .f32 lb),(2,ptr h.next),(4,ptr h1.next),(5,ptr h2.next),(16,zi (runE (s 0) (n 0) (F 0).length (S 0) (es 0) (L 0))),(19,zi (runE (s 1) (n 1) (F 1).length (S 1) (es 1) (L 1))),(22,zi (runE (s 2) (n 2) (F 2).length (S 2) (es 2) (L 2))),(36,.bool (!shapeB (n 0) (F 0).length (n 1) (F 1).length || !shapeB (n 0) (F 0).length (n 2) (F 2).length)),(38,.float .f32 lb),(41,.bool (lt0 lb))] a → WO Tryz.prog tp (r53_1.drop 26) a g (fun a g => ∃ g',HX h3' g' ∧ g' = g ∧ Kn [(1,.float .f32 lb),(2,ptr h.next),(4,ptr h1.next),(5,ptr h2.next),(7,zi E)] a):=by
    intro g Xg
    refine WOL.cl2 rfl rfl rfl ((k77 H _ _ _).mono ?_)
    rintro v g1 ⟨rfl,rfl⟩
    refine WOL.cl1 rfl rfl ((k21 H X eL _).mono ?_)
    rintro v g2 ⟨rfl,rfl⟩
    refine WOL.cl2 rfl rfl rfl ((k77 H _ _ _).mono ?_)
    rintro v g3 ⟨rfl,rfl⟩
    refine WOL.bsl rfl u166 tp30 (by decide) (by decide) (by decide) (filled_ints6 _ _ _ _ _ _) fun h8 N8 => ?_
    refine WOL.cl1 rfl rfl ((k71 H (l:=[_,_,_,_,_,_]) N8.at_.get (by simp)).mono ?_)
    rintro v h8 ⟨rfl,rfl⟩
    refine WOL.as rfl <| WOL.nil ?_
    exact fun a q => ⟨_,Xg.trans N8.hx,rfl,by rw [← hEE]; exact q.sub ⟨rfl,rfl,rfl,rfl,rfl,trivial⟩⟩
  have rest:∀ g,HX h3' g → ∀ a,Kn [(1,.float .f32 lb),(2,ptr h.next),(4,ptr h1.next),(5,ptr h2.next),(7,zi E)] a → W Tryz.prog tp false (.seq (.seq (.reg r53_2) (.cond (.tmp 46) (.seq (.reg r53_3) .ret) .skip)) r53w) a g (Fin Tryz.prog [.cell 4 34,.cell 5 41,.tmp 6] fun v h' => HX h h' ∧ ((E ≠ 0 ∧ v = .tuple #[run0,.agg #[zi 0,zi 0,zi 0],zi E]) ∨
      (E = 0 ∧ ∃ m w1 w2,Samp lb m ∧ v = .tuple #[runV (s 0) (n 0) w1 w2,.agg (cel3 (wrN m (fun k => cellsL (L k) (S k)) (F 0).length)).toArray,zi 0] ∧
        RunO h.next h' w1 w2 ((votesC m (fun k => cellsL (L k) (S k)) (F 0).length).map fun c => smp c.1) (holesOf ((votesC m (fun k => cellsL (L k) (S k)) (F 0).length).map fun c => c.2))))):=by
    intro g Xg
    have Yg:=X3.trans Xg
    have A2':=A2.hx Xg
    have A4':=A4.hx Xg
    have A5':=A5.hx Xg
    refine WL.seq <| WL.sr <| WOL.mv rfl <| WOL.bi rfl rfl nzero <| WOL.nil <| keep [(1,_),(2,_),(4,_),(5,_),(7,_),(46,_)] ⟨rfl,rfl,rfl,rfl,rfl,rfl,trivial⟩ ?_
    rcases nz_cases E with h0 | h0
    · subst h0
      have z:=firstNZ_zero hEE
      have e0:=z _ (List.mem_cons_self ..)
      have e1:=z _ (List.mem_cons_of_mem _ (List.mem_cons_self ..))
      have e2:=z _ (List.mem_cons_of_mem _ (List.mem_cons_of_mem _ (List.mem_cons_self ..)))
      have e3:=z _ (List.mem_cons_of_mem _ (List.mem_cons_of_mem _ (List.mem_cons_of_mem _ (List.mem_cons_self ..))))
      have e4:=z _ (List.mem_cons_of_mem _ (List.mem_cons_of_mem _ (List.mem_cons_of_mem _ (List.mem_cons_of_mem _ (List.mem_cons_self ..)))))
      subst e4
      obtain ⟨m,sm⟩:=samp_of eL
      have ek:∀ k,runE (s k) (n k) (F k).length (S k) (es k) (L k) = 0:=by
        intro k
        obtain ⟨j,hj,q1,q2,q3,q4,q5,q6⟩:=h3 k
        rw [q1,q2,q3,q4,q5,q6]
        obtain rfl | rfl | rfl:j = 0 ∨ j = 1 ∨ j = 2:=by omega
        · exact e0
        · exact e1
        · exact e2
      have V:∀ k,Valid (s k) (n k) (F k) (S k) (L k):=fun k => valid_of (hL k) (ek k)
      have sh:(F 1).length = (F 0).length ∧ (F 2).length = (F 0).length:=by
        have e3:cond (!shapeB (n 0) (F 0).length (n 1) (F 1).length || !shapeB (n 0) (F 0).length (n 2) (F 2).length) (2:Int) 0 = 0:=e3
        cases g1:shapeB (n 0) (F 0).length (n 1) (F 1).length with
        | false => rw [g1] at e3; cases e3
        | true =>
          cases g2:shapeB (n 0) (F 0).length (n 2) (F 2).length with
          | false => rw [g1,g2] at e3; cases e3
          | true =>
            unfold shapeB at g1 g2
            simp at g1 g2
            omega
      have hN:∀ k,(F k).length = (F 0).length:=by
        intro k
        obtain ⟨j,hj,q1,q2,q3,q4,q5,q6⟩:=h3 k
        rw [q3]
        obtain rfl | rfl | rfl:j = 0 ∨ j = 1 ∨ j = 2:=by omega
        · rfl
        · exact sh.1
        · exact sh.2
      refine WL.no rfl <| WL.skip ?_
      refine kto (WL.mono (k53w H sm r (fun k => (V k).lev) (fun k => (V k).m) hS (fun k => (V k).in_) hN rfl f Yg A2' A4' A5' (by omega) (by omega) (Nat.le_refl _) (by omega)) ?_) ⟨rfl,rfl,rfl,rfl,trivial⟩
      intro x a g' q
      unfold Fin at q ⊢
      obtain ⟨q1,vs,q2,q3,w1,w2,q4,q5⟩:=q
      exact ⟨q1,vs,q2,q3,.inr ⟨rfl,m,w1,w2,sm,q4,q5⟩⟩
    · rw [h0]
      refine WL.yes rfl <| WL.sr <| WOL.bd rfl bd52z <| WOL.bd rfl bd83z <| WOL.mv rfl ?_
      refine WOL.sto rfl rfl tp52 A4' rfl rfl (Nat.le_of_ble_eq_true rfl) rfl (f.hx Yg) (by omega) fun g5 P5 => ?_
      refine WOL.sto rfl rfl tp83 (P5.oth h2.next _ (by omega) A5') rfl rfl (Nat.le_of_ble_eq_true rfl) rfl (f.hx (P5.hx _ Yg (by omega))) (by omega) fun g6 P6 => ?_
      refine WOL.as rfl <| WOL.nil ?_
      exact WL.ret (WL.endCC1 (t:=4) (s:=5) (r:=6) rfl rfl rfl (load_row tp52 (P6.oth h1.next _ (by omega) P5.at_) rfl (Nat.le_of_ble_eq_true rfl)) (load_row tp83 P6.at_ rfl (Nat.le_of_ble_eq_true rfl)) ⟨P6.hx _ (P5.hx _ Yg (by omega)) (by omega),.inl ⟨by simpa using h0,rfl⟩⟩)
  cases hsh:shapeB (n 0) (F 0).length (n 1) (F 1).length with
  | false =>
    rw [hsh] at go
    refine WOL.skp (b:=true) rfl rfl <| WOL.skp (b:=true) rfl rfl <| WOL.skp (b:=true) rfl rfl <| WOL.skp (b:=true) rfl rfl <| WOL.skp (b:=true) rfl rfl <| WOL.skp (b:=true) rfl rfl <| WOL.pkt rfl rfl ?_
    refine WOL.mono (kto (go h7 Z7) ⟨rfl,rfl,rfl,rfl,rfl,rfl,rfl,rfl,rfl,rfl,trivial⟩) ?_
    rintro a g ⟨g',Xg,rfl,q⟩
    exact rest g' Xg a q
  | true =>
    rw [hsh] at go
    refine WOL.now (b:=false) rfl rfl <| WOL.ix rfl rfl ix86_0 <| WOL.now (b:=false) rfl rfl ?_
    refine WOL.ld rfl (load_row tp52 (A2.hx Z7) rfl (Nat.le_of_ble_eq_true rfl)) <| WOL.now (b:=false) rfl rfl <| WOL.ix rfl rfl ix86_2 <| WOL.now (b:=false) rfl rfl ?_
    refine WOL.ld rfl (load_row tp52 (A2.hx Z7) rfl (Nat.le_of_ble_eq_true rfl)) <| WOL.now (b:=false) rfl rfl ?_
    refine WOL.cl2 rfl rfl rfl ((k109 H (s:=s 0) (s':=s 2) (n:=n 0) (n':=n 2) ((r 0).f.hx Y7) ((r 2).f.hx Y7)).mono ?_)
    rintro v h8 ⟨rfl,X8⟩
    refine WOL.now (b:=false) rfl rfl <| WOL.nt rfl <| WOL.pkf rfl rfl ?_
    refine WOL.mono (kto (go h8 (Z7.trans X8)) ⟨rfl,rfl,rfl,rfl,rfl,rfl,rfl,rfl,rfl,rfl,trivial⟩) ?_
    rintro a g ⟨g',Xg,rfl,q⟩
    exact rest g' Xg a q
end Go.Tidy
namespace Go.Tidy
open Go Go.Proofs Tab
variable {tp:TProg}
section
variable {P:Program} {a:Regs} {h:TH} {K:Regs → TH → Prop} {rest:List TOper} {d:Option Tmp} {ty:TypeId} {i:Nat} {f x0 x1 x2 x3 l0:Operand} {ls:List Operand} {fv v0 v1 v2 v3:Value} {ts:Array TypeId}
variable {V:Value → TH → Prop}
end
section
variable {m:Int} {C:Nat → List (Int × Bool)}
end
theorem ix82 {c k:Nat} (hk:k < 3):indexAddrT Tryz.prog 26 (.pointer (some ⟨c,0,none⟩)) (zi (k:Nat)) = some (.pointer (some ⟨c,4 * k,none⟩)):=by
 have e0:indexAddrT Tryz.prog 26 (.pointer (some ⟨c,0,none⟩)) (zi 0) = some (.pointer (some ⟨c,0,none⟩)):=by kernel_rfl
 have e1:indexAddrT Tryz.prog 26 (.pointer (some ⟨c,0,none⟩)) (zi 1) = some (.pointer (some ⟨c,4,none⟩)):=by kernel_rfl
 have e2:indexAddrT Tryz.prog 26 (.pointer (some ⟨c,0,none⟩)) (zi 2) = some (.pointer (some ⟨c,8,none⟩)):=by kernel_rfl
 obtain rfl | rfl | rfl:k = 0 ∨ k = 1 ∨ k = 2:=by omega
 ·exact e0
 ·exact e1
 ·exact e2
def cells12 (s:Nat → ByteArray) (n:Nat → Int) (v1 v2:Nat → Value):List Value:=[.string (s 0),zi (n 0),v1 0,v2 0,.string (s 1),zi (n 1),v1 1,v2 1,.string (s 2),zi (n 2),v1 2,v2 2]
end Go.Tidy
namespace Go.Tidy
open Go Go.Proofs Tab
variable {tp:TProg}
theorem cond_self (y:Int):cond (y != 0) y 0 = y:=by
 by_cases h:y = 0
 ·subst h; rfl
 ·rw [show (y != 0) = true by simpa using h]; rfl
theorem firstNZ_join:∀ l l':List Int,firstNZ [firstNZ l,firstNZ l'] = firstNZ (l ++ l')
 | [],l' => by
  show cond (firstNZ l' != 0) (firstNZ l') 0 = _
  rw [cond_self]; rfl
 | x :: r,l' => by
  have ih:=firstNZ_join r l'
  show cond (cond (x != 0) x (firstNZ r) != 0) (cond (x != 0) x (firstNZ r)) (cond (firstNZ l' != 0) (firstNZ l') 0) = cond (x != 0) x (firstNZ (r ++ l'))
  cases hx:(x != 0) with
  | true => rw [cond_true,cond_true,hx]; rfl
  | false => rw [cond_false,cond_false,← ih]; rfl
theorem load_wide {P:Program} {h:TH} {t:TypeId} {b off n:Nat} {c l:List Value} {fix wr:Bool} {el:TypeId} (hi:(P.info? t).map (fun i => i.size) = some n) (hd:(P.underlying t).map isRow = some true) (hg:At h b (.cells c fix wr el)) (hl:(c.drop off).take n = l) (hn:off + n ≤ c.length):loadT P t (.pointer (some ⟨b,off,none⟩)) h = some (.agg l.toArray):=by
 rw [Option.map_eq_some_iff] at hi hd
 obtain ⟨inf,q1,q2⟩:=hi
 obtain ⟨d,q3,q4⟩:=hd
 have hb:Nat.ble (off + n) c.length = true:=by rw [Nat.ble_eq]; exact hn
 simp only [loadT,q3,q1,q4,Bool.cond_true,cellsAt,hg.get,q2,hb,hl,Option.map_some]
theorem w82:(Tryz.prog.info? 26).map (fun i => i.size) = some 12:=by kernel_rfl
theorem d82:(Tryz.prog.underlying 26).map isRow = some true:=by kernel_rfl
section
variable {s:Nat → ByteArray} {n:Nat → Int} {v1 v2:Nat → Value} {F:Nat → List Nat} {S:Nat → List (Int × Int)} {es L:Nat → List Int} {h:TH}
set_option maxHeartbeats 4000000 in
set_option maxRecDepth 10000 in
theorem k54 (H:Has tp) (r:∀ k,RunH h (v1 k) (v2 k) (F k) (S k)) (hE:∀ k,SErr (F k) (es k)) (hL:∀ k,firstNZ (es k) = 0 → Lev (F k) (L k)) (hF:∀ k,(F k).length ≤ 900000) (hS:∀ k,(S k).length ≤ 900000) :
  CallW Tryz.prog tp (.func (.func 6) #[] #[]) #[runs3 s n v1 v2] h fun v h' => v = zi (firstNZ [runE (s 0) (n 0) (F 0).length (S 0) (es 0) (L 0),runE (s 1) (n 1) (F 1).length (S 1) (es 1) (L 1),runE (s 2) (n 2) (F 2).length (S 2) (es 2) (L 2),cond (!shapeB (n 0) (F 0).length (n 1) (F 1).length || !shapeB (n 0) (F 0).length (n 2) (F 2).length) 2 0]) ∧ HX h h':=by
 refine CallW.fnL (H.fn 6 f54 rfl rfl) ?_
 refine WL.sr <| WOL.box rfl fun h1 N1 => WOL.as rfl <| WOL.nil <| keep [(1,_)] ⟨rfl,trivial⟩ ?_
 have A2:At h1 h.next (.cells (cells12 s n v1 v2) true true 26):=N1.at_
 have X1:=N1.hx
 refine WL.sr <| WOL.ix rfl rfl (ix82 (k:=0) (by decide)) ?_
 refine WOL.ld rfl (load_row tp46 A2 rfl (Nat.le_of_ble_eq_true rfl)) <| WOL.ix rfl rfl (ix82 (k:=1) (by decide)) ?_
 refine WOL.ld rfl (load_row tp46 A2 rfl (Nat.le_of_ble_eq_true rfl)) <| WOL.ix rfl rfl (ix82 (k:=2) (by decide)) ?_
 refine WOL.ld rfl (load_row tp46 A2 rfl (Nat.le_of_ble_eq_true rfl)) <| WOL.ix rfl rfl (ix82 (k:=0) (by decide)) ?_
 refine WOL.ld rfl (load_row tp46 A2 rfl (Nat.le_of_ble_eq_true rfl)) <| WOL.ix rfl rfl (ix82 (k:=1) (by decide)) ?_
 refine WOL.ld rfl (load_row tp46 A2 rfl (Nat.le_of_ble_eq_true rfl)) ?_
 refine WOL.lk1 rfl rfl fun M => ((k31 H (s:=s 0) (n:=n 0) (((r 0).hx X1).relock' M) (hE 0) (hL 0) (by have:=hF 0; omega) (by have:=hS 0; omega)).mono ?_)
 rintro v h4 ⟨rfl,X4⟩
 replace X4:=X4.relock
 generalize h4.withLock h1.lock = h4 at *
 have Y4:=X1.trans X4
 refine WOL.lk1 rfl rfl fun M => ((k31 H (s:=s 1) (n:=n 1) (((r 1).hx Y4).relock' M) (hE 1) (hL 1) (by have:=hF 1; omega) (by have:=hS 1; omega)).mono ?_)
 rintro v h5 ⟨rfl,X5⟩
 replace X5:=X5.relock
 generalize h5.withLock h4.lock = h5 at *
 have Y5:=Y4.trans X5
 refine WOL.lk1 rfl rfl fun M => ((k31 H (s:=s 2) (n:=n 2) (((r 2).hx Y5).relock' M) (hE 2) (hL 2) (by have:=hF 2; omega) (by have:=hS 2; omega)).mono ?_)
 rintro v h6 ⟨rfl,X6⟩
 replace X6:=X6.relock
 generalize h6.withLock h5.lock = h6 at *
 have Y6:=Y5.trans X6
 refine WOL.cl2 rfl rfl rfl ((k110 H (s:=s 0) (s':=s 1) (n:=n 0) (n':=n 1) ((r 0).f.hx Y6) ((r 1).f.hx Y6)).mono ?_)
 rintro v h7 ⟨rfl,X7⟩
 have Y7:=Y6.trans X7
 have Z7:=((X4.trans X5).trans X6).trans X7
 refine WOL.nt rfl <| WOL.mv rfl ?_
 have go:∀ g,HX h g → ∀ a,Kn [(5,zi (runE (s 0) (n 0) (F 0).length (S 0) (es 0) (L 0))),(8,zi (runE (s 1) (n 1) (F 1).length (S 1) (es 1) (L 1))),(11,zi (runE (s 2) (n 2) (F 2).length (S 2) (es 2) (L 2))),(25,.bool (!shapeB (n 0) (F 0).length (n 1) (F 1).length || !shapeB (n 0) (F 0).length (n 2) (F 2).length))] a → WO Tryz.prog tp (r54_1.drop 23) a g (fun a g => W Tryz.prog tp false .ret a g (Fin Tryz.prog [.tmp 2] fun v h' => v = zi (firstNZ [runE (s 0) (n 0) (F 0).length (S 0) (es 0) (L 0),runE (s 1) (n 1) (F 1).length (S 1) (es 1) (L 1),runE (s 2) (n 2) (F 2).length (S 2) (es 2) (L 2),cond (!shapeB (n 0) (F 0).length (n 1) (F 1).length || !shapeB (n 0) (F 0).length (n 2) (F 2).length) 2 0]) ∧ HX h h')):=by
  intro g Xg
  refine WOL.cl2 rfl rfl rfl ((k32 H _ _ _).mono ?_)
  rintro v g1 ⟨rfl,rfl⟩
  refine WOL.bsl rfl u29 tp3 (by decide) (by decide) (by decide) (filled_ints4 _ _ _ _) fun h8 N8 => ?_
  refine WOL.cl1 rfl rfl ((k13 H (l:=[_,_,_,_]) N8.at_.get (by simp)).mono ?_)
  rintro v h8 ⟨rfl,rfl⟩
  refine WOL.as rfl <| WOL.nil ?_
  exact WL.done rfl ⟨rfl,Xg.trans N8.hx⟩
 cases hsh:shapeB (n 0) (F 0).length (n 1) (F 1).length with
 | false =>
  rw [hsh] at go
  refine WOL.skp (b:=true) rfl rfl <| WOL.skp (b:=true) rfl rfl <| WOL.skp (b:=true) rfl rfl <| WOL.skp (b:=true) rfl rfl <| WOL.skp (b:=true) rfl rfl <| WOL.skp (b:=true) rfl rfl <| WOL.pkt rfl rfl ?_
  exact kto (go h7 Y7) ⟨rfl,rfl,rfl,rfl,trivial⟩
 | true =>
  rw [hsh] at go
  refine WOL.now (b:=false) rfl rfl <| WOL.ix rfl rfl (ix82 (k:=0) (by decide)) <| WOL.now (b:=false) rfl rfl ?_
  refine WOL.ld rfl (load_row tp46 (A2.hx Z7) rfl (Nat.le_of_ble_eq_true rfl)) <| WOL.now (b:=false) rfl rfl <| WOL.ix rfl rfl (ix82 (k:=2) (by decide)) <| WOL.now (b:=false) rfl rfl ?_
  refine WOL.ld rfl (load_row tp46 (A2.hx Z7) rfl (Nat.le_of_ble_eq_true rfl)) <| WOL.now (b:=false) rfl rfl ?_
  refine WOL.cl2 rfl rfl rfl ((k110 H (s:=s 0) (s':=s 2) (n:=n 0) (n':=n 2) ((r 0).f.hx Y7) ((r 2).f.hx Y7)).mono ?_)
  rintro v h8 ⟨rfl,X8⟩
  refine WOL.now (b:=false) rfl rfl <| WOL.nt rfl <| WOL.pkf rfl rfl ?_
  exact kto (go h8 (Y7.trans X8)) ⟨rfl,rfl,rfl,rfl,trivial⟩
end
theorem k55 (H:Has tp) {b:Nat} {e:Int} {h:TH} (eL:SampleE b e):CallW Tryz.prog tp (.func (.func 7) #[] #[]) #[.float .f32 b] h fun v h' => v = zi (firstNZ [e,cond (lt0 b) 3 0]) ∧ HX h h':=by
 refine CallW.fnL (H.fn 7 f55 rfl rfl) ?_
 refine WL.sr <| WOL.as rfl <| WOL.nil <| keep [(0,_)] ⟨rfl,trivial⟩ ?_
 refine WL.sr <| WOL.mv rfl ?_
 refine WOL.cl1 rfl rfl ((k22 H eL h).mono ?_)
 rintro v g ⟨rfl,rfl⟩
 refine WOL.mv rfl <| WOL.flz rfl rfl ?_
 refine WOL.cl2 rfl rfl rfl ((k32 H _ _ _).mono ?_)
 rintro v g1 ⟨rfl,rfl⟩
 refine WOL.bsl rfl u29 tp3 (by decide) (by decide) (by decide) (filled_ints _ _) fun h8 N8 => ?_
 refine WOL.cl1 rfl rfl ((k13 H (l:=[_,_]) N8.at_.get (by simp)).mono ?_)
 rintro v h8 ⟨rfl,rfl⟩
 refine WOL.as rfl <| WOL.nil ?_
 exact WL.done rfl ⟨rfl,N8.hx⟩
end Go.Tidy
namespace Go.Tidy
open Go Go.Proofs Tab
variable {tp:TProg}
section
variable {s:ByteArray} {n:Int} {g:TH} {v1 v2:Value} {C:List (Int × Bool)} {c2 c3:Nat}
end
attribute [local irreducible] Ty valOf
theorem u8_in {z:Int} (h:(Lit.int .u8 z).wf = true):0 ≤ z ∧ z ≤ 255:=by
 have h:(decide (IntKind.u8.min ≤ z) && decide (z ≤ IntKind.u8.max)) = true:=h
 have e1:IntKind.u8.min = 0:=by decide
 have e2:IntKind.u8.max = 255:=by decide
 rw [e1,e2] at h
 simpa using h
theorem ty_threeU {h:TH} {n:Nat} {ps:List Value} (y:Ty Tryz.prog h (n + 2) 28 ps):∃ a b c:Int,ps = [.int .u8 a,.int .u8 b,.int .u8 c] ∧ (0 ≤ a ∧ a ≤ 255) ∧ (0 ≤ b ∧ b ≤ 255) ∧ (0 ≤ c ∧ c ≤ 255):=by
 obtain ⟨p,q,rfl,_,y1,p',q',rfl,_,y2,p3,q3,rfl,_,y3,rfl⟩:=tyg_array u94 y
 obtain ⟨a,rfl,ha⟩:=tyg_int u5 y1
 obtain ⟨b,rfl,hb⟩:=tyg_int u5 y2
 obtain ⟨c,rfl,hc⟩:=tyg_int u5 y3
 exact ⟨a,b,c,rfl,u8_in ha,u8_in hb,u8_in hc⟩
end Go.Tidy
namespace Go.Tidy
open Go Go.Proofs Tab
variable {tp:TProg}
theorem WOL.idx {P:Program} {h:TH} {K:Regs → TH → Prop} {rest:List TOper} {d:Option Tmp} {ty:TypeId} {i:Nat} {x y:Operand} {t:TypeId} {L:Rg} {cs:Array Value} {k:IntKind} {z:Int} {v:Value} (hx:getL L x = some (.agg cs)) (hy:getL L y = some (.int k z)) (hv:indexT P t (.agg cs) (.int k z) = some v) (w:∀ a,Kn (putL L d v) a → WO P tp rest a h K):∀ a,Kn L a → WO P tp (⟨d,.index t x y,ty,none,[],i⟩ :: rest) a h K:=fun a q => by
 have ex:=getO_eval (q.o hx)
 have ey:=getO_eval (q.o hy)
 exact WO.op (h1:=h) rfl rfl (fun call => by simp [stepOp,heapFirst,fastOp,valueOp,ex,ey,hv]) (w _ (q.put d _))
theorem idx82 {s:Nat → ByteArray} {n:Nat → Int} {v1 v2:Nat → Value} {k:Nat} (hk:k < 3):indexT Tryz.prog 26 (.agg (cells12 s n v1 v2).toArray) (zi (k:Nat)) = some (runV (s k) (n k) (v1 k) (v2 k)):=by
 have e0:indexT Tryz.prog 26 (.agg (cells12 s n v1 v2).toArray) (zi 0) = some (runV (s 0) (n 0) (v1 0) (v2 0)):=by kernel_rfl
 have e1:indexT Tryz.prog 26 (.agg (cells12 s n v1 v2).toArray) (zi 1) = some (runV (s 1) (n 1) (v1 1) (v2 1)):=by kernel_rfl
 have e2:indexT Tryz.prog 26 (.agg (cells12 s n v1 v2).toArray) (zi 2) = some (runV (s 2) (n 2) (v1 2) (v2 2)):=by kernel_rfl
 obtain rfl | rfl | rfl:k = 0 ∨ k = 1 ∨ k = 2:=by omega
 ·exact e0
 ·exact e1
 ·exact e2
def Tail3 (s:Nat → ByteArray) (n:Nat → Int) (F:Nat → List Nat) (S:Nat → List (Int × Int)) (es L:Nat → List Int):Prop:=∀ k,2 ≤ k → s k = s 2 ∧ n k = n 2 ∧ F k = F 2 ∧ S k = S 2 ∧ es k = es 2 ∧ L k = L 2
section
variable {s:Nat → ByteArray} {n:Nat → Int} {v1 v2:Nat → Value} {F:Nat → List Nat} {S:Nat → List (Int × Int)} {es L:Nat → List Int} {h:TH} {lb:Nat} {el:Int}
theorem Tail3.some (t:Tail3 s n F S es L):∀ k,∃ j,j < 3 ∧ s k = s j ∧ n k = n j ∧ F k = F j ∧ S k = S j ∧ es k = es j ∧ L k = L j:=by
 intro k
 by_cases h0:k = 0
 ·subst h0; exact ⟨0,by decide,rfl,rfl,rfl,rfl,rfl,rfl⟩
 ·by_cases h1:k = 1
  ·subst h1; exact ⟨1,by decide,rfl,rfl,rfl,rfl,rfl,rfl⟩
  ·exact ⟨2,by decide,t k (by omega)⟩
theorem three_valid (t:Tail3 s n F S es L) (hL:∀ k,firstNZ (es k) = 0 → Lev (F k) (L k)) (hEE:voteE (fun k => runE (s k) (n k) (F k).length (S k) (es k) (L k)) n (fun k => (F k).length) el lb = 0):(∀ k,Valid (s k) (n k) (F k) (S k) (L k)) ∧ ∀ k,(F k).length = (F 0).length:=by
  have z:=firstNZ_zero hEE
  have e0:=z _ (List.mem_cons_self ..)
  have e1:=z _ (List.mem_cons_of_mem _ (List.mem_cons_self ..))
  have e2:=z _ (List.mem_cons_of_mem _ (List.mem_cons_of_mem _ (List.mem_cons_self ..)))
  have e3:=z _ (List.mem_cons_of_mem _ (List.mem_cons_of_mem _ (List.mem_cons_of_mem _ (List.mem_cons_self ..))))
  have ek:∀ k,runE (s k) (n k) (F k).length (S k) (es k) (L k) = 0:=by
    intro k
    obtain ⟨j,hj,q1,q2,q3,q4,q5,q6⟩:=t.some k
    rw [q1,q2,q3,q4,q5,q6]
    obtain rfl | rfl | rfl:j = 0 ∨ j = 1 ∨ j = 2:=by omega
    · exact e0
    · exact e1
    · exact e2
  have sh:(F 1).length = (F 0).length ∧ (F 2).length = (F 0).length:=by
    have e3:cond (!shapeB (n 0) (F 0).length (n 1) (F 1).length || !shapeB (n 0) (F 0).length (n 2) (F 2).length) (2:Int) 0 = 0:=e3
    cases g1:shapeB (n 0) (F 0).length (n 1) (F 1).length with
    | false => rw [g1] at e3; cases e3
    | true =>
      cases g2:shapeB (n 0) (F 0).length (n 2) (F 2).length with
      | false => rw [g1,g2] at e3; cases e3
      | true =>
        unfold shapeB at g1 g2
        simp at g1 g2
        omega
  refine ⟨fun k => valid_of (hL k) (ek k),fun k => ?_⟩
  obtain ⟨j,hj,q1,q2,q3,q4,q5,q6⟩:=t.some k
  rw [q3]
  obtain rfl | rfl | rfl:j = 0 ∨ j = 1 ∨ j = 2:=by omega
  · rfl
  · exact sh.1
  · exact sh.2
end
end Go.Tidy
namespace Go.Tidy
open Go Go.Proofs Tab
variable {tp:TProg}
def three {α:Type} (a b c:α) (k:Nat):α:=match k with | 0 => a | 1 => b | _ => c
theorem three_two {α:Type} {a b c:α}:∀ k,2 ≤ k → three a b c k = c
 | 0,h => by omega
 | 1,h => by omega
 | _ + 2,_ => rfl
theorem three_all {p:Nat → Prop} (h0:p 0) (h1:p 1) (h2:∀ k,p (k + 2)):∀ k,p k
 | 0 => h0
 | 1 => h1
 | k + 2 => h2 k
section
variable {s:Nat → ByteArray} {n:Nat → Int} {v1 v2:Nat → Value} {F:Nat → List Nat} {S:Nat → List (Int × Int)} {es L:Nat → List Int} {h:TH} {lb:Nat} {el:Int}
end
attribute [local irreducible] Ty valOf
theorem u82:Tryz.prog.underlying 26 = some (.array 3 25):=by kernel_rfl
theorem ty_runs3 {h:TH} {n:Nat} {ps:List Value} (y:Ty Tryz.prog h (n + 5) 26 ps):∃ (s:Nat → ByteArray) (z:Nat → Int) (v1 v2:Nat → Value) (F:Nat → List Nat) (S:Nat → List (Int × Int)) (es L:Nat → List Int),ps = cells12 s z v1 v2 ∧ Tail3 s z F S es L ∧ (∀ k,RunH h (v1 k) (v2 k) (F k) (S k)) ∧ (∀ k,SErr (F k) (es k)) ∧ ∀ k,firstNZ (es k) = 0 → Lev (F k) (L k):=by
 obtain ⟨p,q,rfl,_,y1,p',q',rfl,_,y2,p3,q3,rfl,_,y3,rfl⟩:=tyg_array u82 y
 obtain ⟨s0,z0,a0,b0,F0,S0,rfl,r0⟩:=ty_run y1
 obtain ⟨s1,z1,a1,b1,F1,S1,rfl,r1⟩:=ty_run y2
 obtain ⟨s2,z2,a2,b2,F2,S2,rfl,r2⟩:=ty_run y3
 obtain ⟨e0,L0,g0,l0⟩:=lev_some F0
 obtain ⟨e1,L1,g1,l1⟩:=lev_some F1
 obtain ⟨e2,L2,g2,l2⟩:=lev_some F2
 exact ⟨three s0 s1 s2,three z0 z1 z2,three a0 a1 a2,three b0 b1 b2,three F0 F1 F2,three S0 S1 S2,three e0 e1 e2,three L0 L1 L2,rfl,
  fun k hk => ⟨three_two k hk,three_two k hk,three_two k hk,three_two k hk,three_two k hk,three_two k hk⟩,
  three_all r0 r1 fun _ => r2,three_all g0 g1 fun _ => g2,three_all l0 l1 fun _ => l2⟩
end Go.Tidy
namespace Go.Tidy
open Go Go.Proofs Tab
variable {tp:TProg}
structure Sx (b:Nat) (n:Int):Prop where
 ok:∃ neg q,V32 b neg q ∧ (∀ D,2 ^ 149 = D → q * 16 = n.natAbs * D) ∧ sg neg n.natAbs = n
theorem Samp.x {b:Nat} {n:Int} (s:Samp b n):Sx b n:=⟨s.ok⟩
theorem Sx.nan {b:Nat} {n:Int} (s:Sx b n):nanB .f32 b = false:=by
 obtain ⟨neg,q,h,_⟩:=s.ok
 exact h.nan
theorem Sx.order {b c:Nat} {n m:Int} (s:Sx b n) (t:Sx c m):Ieee.single.order b c = some (compare n m):=by
 obtain ⟨neg,q,h1,h2,h3⟩:=s.ok
 obtain ⟨neg',q',g1,g2,g3⟩:=t.ok
 obtain ⟨D,hD⟩:∃ D:Nat,2 ^ 149 = D:=⟨_,rfl⟩
 have hDp:0 < D:=by rw [← hD]; exact two_pow_pos 149
 have e1:=h2 D hD
 have e2:=g2 D hD
 have a1:sg neg q * (16:Nat) = n * (D:Nat):=by rw [← sg_mul,e1,sg_mul,h3]
 have a2:sg neg' q' * (16:Nat) = m * (D:Nat):=by rw [← sg_mul,e2,sg_mul,g3]
 rw [h1.order g1]
 generalize sg neg q = x at *
 generalize sg neg' q' = y at *
 have hDi:(0:Int) < (D:Int):=by omega
 have hlt:x < y ↔ n < m:=by
  constructor
  ·intro hq
   have:n * (D:Int) < m * (D:Int):=by rw [← a1,← a2]; omega
   exact Int.lt_of_mul_lt_mul_right this (by omega)
  ·intro hq
   have:n * (D:Int) < m * (D:Int):=Int.mul_lt_mul_of_pos_right hq hDi
   rw [← a1,← a2] at this
   omega
 have heq:x = y ↔ n = m:=by
  constructor
  ·intro hq
   rw [hq,a2] at a1
   exact (Int.eq_of_mul_eq_mul_right (by omega) a1).symm
  ·intro hq
   rw [hq,← a2] at a1
   omega
 congr 1
 show compareOfLessAndEq _ _ = compareOfLessAndEq _ _
 unfold compareOfLessAndEq
 simp only [hlt,heq]
theorem sg_not (s:Bool) (q:Nat):sg (!s) q = -sg s q:=by
 unfold sg
 cases s <;> simp
theorem sg_sign {z:Int} {P:Nat} {w:Int} {s t:Bool} (hP:0 < P) (h:w = z * (P:Int) ∨ z = w * (P:Int)):sg (if z = 0 then s && t else decide (z < 0)) w.natAbs = w:=by
  by_cases hz:z = 0
  · have hw:w = 0:=by
      rcases h with h | h
      · rw [h,hz,Int.zero_mul]
      · rw [hz] at h
        rcases Int.mul_eq_zero.1 h.symm with h | h
        · exact h
        · omega
    rw [if_pos hz,hw]
    cases s && t <;> rfl
  · rw [if_neg hz]
    have hPi:(0:Int) < (P:Int):=by omega
    have key:z < 0 ↔ w < 0:=by
      rcases h with h | h
      · rw [h]
        constructor
        · intro hl
          have:=Int.mul_lt_mul_of_pos_right hl hPi
          omega
        · intro hl
          have:z * (P:Int) < 0 * (P:Int):=by omega
          exact Int.lt_of_mul_lt_mul_right this (by omega)
      · rw [h]
        constructor
        · intro hl
          have:w * (P:Int) < 0 * (P:Int):=by omega
          exact Int.lt_of_mul_lt_mul_right this (by omega)
        · intro hl
          have:=Int.mul_lt_mul_of_pos_right hl hPi
          omega
    unfold sg
    by_cases hl:w < 0
    · rw [decide_eq_true (key.2 hl),if_pos rfl]; omega
    · rw [decide_eq_false (fun q => hl (key.1 q)),if_neg (by decide)]; omega
theorem arr1 {z w:Int} {P Q D:Nat} (hP:0 < P) (h:z * (P:Int) * 16 = w * (D:Int)) (hq:Q * P * 16 = D):z = w * (Q:Int):=by
 subst hq
 refine Int.eq_of_mul_eq_mul_right (a:=(P:Int) * 16) (by omega) ?_
 rw [← Int.mul_assoc,h,Int.natCast_mul,Int.natCast_mul,Int.mul_assoc,Int.mul_assoc]
 rfl
theorem arr2 {z w:Int} {P Q D:Nat} (hD:0 < D) (h:z * (P:Int) * 16 = w * (D:Int)) (hq:D * Q = P * 16):w = z * (Q:Int):=by
 refine Int.eq_of_mul_eq_mul_right (a:=(D:Int)) (by omega) ?_
 rw [← h,Int.mul_assoc,Int.mul_assoc]
 have e:(P:Int) * 16 = ((P * 16:Nat):Int):=by rw [Int.natCast_mul]; rfl
 rw [e,← hq,Int.natCast_mul,Int.mul_comm (D:Int)]
theorem arr3 {Z P Q D:Nat} (hq:D * Q = P * 16):Z * P * 16 = Z * Q * D:=by
 rw [Nat.mul_assoc,← hq,Nat.mul_assoc,Nat.mul_comm D]
theorem Sx.sub {b c:Nat} {n m:Int} (s:Sx b n) (t:Sx c m) (hn:n.natAbs ≤ 100000) (hm:m.natAbs ≤ 100000):∃ r,Ieee.single.sub b c = some r ∧ Sx r (n - m):=by
 obtain ⟨s1,q1,⟨m1,k1,r1,p1,l1⟩,h2,h3⟩:=s.ok
 obtain ⟨s2,q2,⟨m2,k2,r2,p2,l2⟩,g2,g3⟩:=t.ok
 obtain ⟨D,hD⟩:∃ D:Nat,2 ^ 149 = D:=⟨_,rfl⟩
 have hDp:0 < D:=by rw [← hD]; exact two_pow_pos 149
 have e1:=h2 D hD
 have e2:=g2 D hD
 have a1:sg s1 q1 * (16:Nat) = n * (D:Nat):=by rw [← sg_mul,e1,sg_mul,h3]
 have a2:sg s2 q2 * (16:Nat) = m * (D:Nat):=by rw [← sg_mul,e2,sg_mul,g3]
 obtain ⟨K,hK⟩:∃ K,min k1 k2 = K:=⟨_,rfl⟩
 have hmin:min ((-149:Int) + (k1:Int)) (-149 + (k2:Int)) = -149 + (K:Int):=by omega
 obtain ⟨z,hz⟩:∃ z:Int,sg s1 (m1 * 2 ^ (k1 - K)) + sg (!s2) (m2 * 2 ^ (k2 - K)) = z:=⟨_,rfl⟩
 have hsub:Ieee.single.sub b c = some (Ieee.single.nearest (if z = 0 then s1 && !s2 else decide (z < 0)) z.natAbs (-149 + (K:Int))):=by
  unfold Ieee.Format.sub
  rw [r1,r2]
  show (Ieee.Datum.sum (.number s1 m1 (-149 + (k1:Int))) (.number (!s2) m2 (-149 + (k2:Int)))).map _ = _
  unfold Ieee.Datum.sum
  simp only [hmin,signed_sg]
  rw [show ((-149:Int) + (k1:Int) - (-149 + (K:Int))).toNat = k1 - K by omega,show ((-149:Int) + (k2:Int) - (-149 + (K:Int))).toNat = k2 - K by omega,hz]
  rfl
 have pk1:m1 * 2 ^ (k1 - K) * 2 ^ K = q1:=by rw [Nat.mul_assoc,← Nat.pow_add,show k1 - K + K = k1 by omega,p1]
 have pk2:m2 * 2 ^ (k2 - K) * 2 ^ K = q2:=by rw [Nat.mul_assoc,← Nat.pow_add,show k2 - K + K = k2 by omega,p2]
 have hzP:z * ((2 ^ K:Nat):Int) * 16 = (n - m) * (D:Int):=by
  rw [← hz,Int.add_mul,← sg_mul,← sg_mul,pk1,pk2,sg_not,Int.sub_mul,← a1,← a2]
  omega
 by_cases hK2:K ≤ 145
 ·have hpw:2 ^ (145 - K) * 2 ^ K * 16 = D:=by
   rw [← Nat.pow_add,show 145 - K + K = 145 by omega,← hD]
  have hzz:z = (n - m) * ((2 ^ (145 - K):Nat):Int):=arr1 (two_pow_pos K) hzP hpw
  have hab:z.natAbs = (n - m).natAbs * 2 ^ (145 - K):=by rw [hzz,Int.natAbs_mul,Int.natAbs_natCast]
  refine ⟨_,hsub,⟨⟨(if z = 0 then s1 && !s2 else decide (z < 0)),(n - m).natAbs * 2 ^ 145,?_,?_,sg_sign (s:=s1) (t:=!s2) (P:=2 ^ (145 - K)) (two_pow_pos _) (.inr hzz)⟩⟩⟩
  ·rw [hab,nearest_shift Ieee.single _ (n - m).natAbs (145 - K) _ (by show _ < 2 ^ 24; omega) (by rw [lp32]; omega)]
   exact near32 (by omega) _ (by omega) (by decide)
  ·intro D' hD'
   rw [Nat.mul_assoc,← hD']
 ·have hpw:D * 2 ^ (K - 145) = 2 ^ K * 16:=by
   rw [← hD]
   exact (Nat.pow_add 2 149 (K - 145)).symm.trans ((congrArg (fun x => 2 ^ x) (show 149 + (K - 145) = K + 4 by omega)).trans (Nat.pow_add 2 K 4))
  have hzz:n - m = z * ((2 ^ (K - 145):Nat):Int):=arr2 hDp hzP hpw
  have hab:(n - m).natAbs = z.natAbs * 2 ^ (K - 145):=by rw [hzz,Int.natAbs_mul,Int.natAbs_natCast]
  have hle:z.natAbs ≤ (n - m).natAbs:=by rw [hab]; exact Nat.le_mul_of_pos_right _ (two_pow_pos _)
  refine ⟨_,hsub,⟨⟨(if z = 0 then s1 && !s2 else decide (z < 0)),_,near32 (m:=z.natAbs) (k:=K) (by omega) _ rfl (by omega),?_,sg_sign (s:=s1) (t:=!s2) (P:=2 ^ (K - 145)) (two_pow_pos _) (.inl hzz)⟩⟩⟩
  intro D' hD'
  rw [hab,← hD',hD]
  exact arr3 hpw
end Go.Tidy
namespace Go.Tidy
open Go Go.Proofs Tab
variable {tp:TProg}
section
variable {P:Program} {h:TH} {K:Regs → TH → Prop} {rest:List TOper} {d:Option Tmp} {ty:TypeId} {i:Nat} {x y:Operand} {t u:TypeId} {L:Rg}
theorem WO.fsub {a:Regs} {k:FloatKind} {b c r:Nat} (hx:getO a x = some (.float k b)) (hy:getO a y = some (.float k c)) (hb:nanB k b = false) (hc:nanB k c = false) (hr:k.format.sub b c = some r) (hn:nanB k r = false)
  (w:WO P tp rest (a.put d (.float k r)) h K):WO P tp (⟨d,.binOp .sub t x y u,ty,none,[],i⟩ :: rest) a h K:=by
 have ex:=getO_eval hx
 have ey:=getO_eval hy
 refine WO.plainly rfl rfl rfl (by simp [fastOp,fastBin,ex,ey,hb,hc]) rfl (plainOp_of (by rfl) (fun q hq => ?_) ?_ (plain_float hn)) w
 ·simp only [Op.operands] at hq
  simp at hq
  rcases hq with rfl | rfl
  ·rw [ex]; exact plain_float hb
  ·rw [ey]; exact plain_float hc
 ·simp [toOper,execOp,pv_bind,pv_map,pv_pure,ex,ey,eqGuard,binOp,Op.floatArith,hr]
theorem WOL.fsub {b c:Nat} {m n:Int} (s:Sx b m) (s':Sx c n) (hm:m.natAbs ≤ 100000) (hn:n.natAbs ≤ 100000) (hx:getL L x = some (.float .f32 b)) (hy:getL L y = some (.float .f32 c)) (w:∀ r,Sx r (m - n) → ∀ a,Kn (putL L d (.float .f32 r)) a → WO P tp rest a h K):∀ a,Kn L a → WO P tp (⟨d,.binOp .sub t x y u,ty,none,[],i⟩ :: rest) a h K:=by
 obtain ⟨r,hr,q⟩:=s.sub s' hm hn
 exact fun a k => WO.fsub (k.o hx) (k.o hy) s.nan s'.nan hr q.nan (w r q _ (k.put d _))
theorem WOL.fgx {b c:Nat} {m n:Int} (s:Sx b m) (s':Sx c n) (hx:getL L x = some (.float .f32 b)) (hy:getL L y = some (.float .f32 c)) (w:∀ a,Kn (putL L d (.bool (decide (n < m)))) a → WO P tp rest a h K):∀ a,Kn L a → WO P tp (⟨d,.binOp .gtr t x y u,ty,none,[],i⟩ :: rest) a h K:=fun a k => WO.fcmp (k.o hx) (k.o hy) s.nan s'.nan (by show some (Ieee.single.order b c == some .gt) = some (decide (n < m)); rw [s.order s',cmp_gt]) (w _ (k.put d _))
end
theorem WOL.ne83 {h:TH} {K:Regs → TH → Prop} {rest:List TOper} {d:Option Tmp} {ty:TypeId} {i:Nat} {x y:Operand} {u:TypeId} {L:Rg} {a b c:Int} (hx:getL L x = some (.agg #[zi a,zi b,zi c])) (hy:getL L y = some (.agg #[zi a,zi b,zi c]))
    (w:∀ r,Kn (putL L d (.bool false)) r → WO Tryz.prog tp rest r h K):∀ r,Kn L r → WO Tryz.prog tp (⟨d,.binOp .neq 41 x y u,ty,none,[],i⟩ :: rest) r h K:=by
  intro r k
  have ex:=getO_eval (k.o hx)
  have ey:=getO_eval (k.o hy)
  refine WO.plainly rfl rfl rfl (by simp [fastOp,fastBin,ex,ey]) (by simp [valueOp,ex,ey,eqT_agg]) (plainOp_of (by rfl) (fun q hq => ?_) ?_ rfl) (w _ (k.put d _))
  · simp only [Op.operands] at hq
    simp at hq
    rcases hq with rfl | rfl
    · rw [ex]; rfl
    · rw [ey]; rfl
  · show pv Tryz.prog (execOp r.eval ⟨d, .binOp .neq 41 x y u, ty, "", #[], none⟩) = _
    have hg:Tryz.prog.eqGuardType Tryz.prog.depth 41 = false:=by kernel_rfl
    simp [execOp,pv_bind,pv_map,pv_pure,pv_program,ex,ey,eqGuard,binOp,pv_eq83,hg]
section
variable {m:Int}
theorem voteC_R (D:List (Int × Bool)) (h:D.length ≤ 3):voteC m D = cond (voteR m (knownV D)).2 ((voteR m (knownV D)).1,true) (0,false):=vote_join m _ (by have:=knownV_le D; omega)
theorem voteC_dark (D:List (Int × Bool)) (h:D.length ≤ 3) (hk:(voteC m D).2 = false):(voteC m D).1 = 0:=by
 rw [voteC_R D h] at hk ⊢
 cases hv:(voteR m (knownV D)).2 with
 | true => rw [hv] at hk; cases hk
 | false => rfl
theorem votes_dark {C:Nat → List (Int × Bool)} {N:Nat}:DarkC (votesC m C N):=by
 intro c hc hk
 obtain ⟨i,hi⟩:=List.getElem?_of_mem hc
 have hlt:i < N:=by
  have:=(List.getElem?_eq_some_iff.1 hi).1
  rwa [votesC_len] at this
 rw [votesC_get hlt] at hi
 cases hi
 exact voteC_dark _ (by simp) hk
end
end Go.Tidy
namespace Go.Tidy
open Go Go.Proofs Tab
variable {tp:TProg}
theorem headC_of {s:ByteArray} {n:Int} {h:TH} {v1 v2:Value} {C:List (Int × Bool)} (r:RunC s n h v1 v2 C):headE s n C.length = 0:=by
 obtain ⟨F,es,_,c⟩:=r
 exact c.head
theorem RunC.forms {s:ByteArray} {n:Int} {h:TH} {v1 v2:Value} {C:List (Int × Bool)} (r:RunC s n h v1 v2 C):∃ b1 l1 k1 b2 l2 k2,v1 = .slice b1 l1 k1 ∧ v2 = .slice b2 l2 k2:=by
 obtain ⟨F,es,r,_⟩:=r
 obtain ⟨b1,k1,e1⟩:=r.f.form
 obtain ⟨b2,k2,e2⟩:=r.s.form
 exact ⟨_,_,_,_,_,_,e1,e2⟩
theorem shapeB_same (n:Int) (m:Nat):shapeB n m n m = true:=by unfold shapeB; simp
set_option maxHeartbeats 2000000 in
set_option maxRecDepth 10000 in
theorem c53 (H:Has tp) (X:HasX tp) {s0 s1 s2:ByteArray} {n:Int} {a0 b0 a1 b1 a2 b2:Value} {C0 C1 C2:List (Int × Bool)} {N lb:Nat} {m:Int} {h:TH} (r0:RunC s0 n h a0 b0 C0) (r1:RunC s1 n h a1 b1 C1) (r2:RunC s2 n h a2 b2 C2) (l0:C0.length = N) (l1:C1.length = N) (l2:C2.length = N) (sm:Samp lb m) (h0:lt0 lb = false) (f:Free0 h.next h) :
    CallW Tryz.prog tp (.func (.func 11) #[] #[]) #[.agg #[.string s0,zi n,a0,b0,.string s1,zi n,a1,b1,.string s2,zi n,a2,b2],.float .f32 lb] h fun v h' => HX h h' ∧ ∃ w1 w2,v = .tuple #[runV s0 n w1 w2,.agg (cel3 (wrN m (three C0 C1 C2) N)).toArray,zi 0] ∧ RunC s0 n h' w1 w2 (votesC m (three C0 C1 C2) N) ∧ Above h.next w1 ∧ Above h.next w2:=by
  have hd:=headC_of r0
  obtain ⟨q1,q2,q3,_,_⟩:=r0.small
  obtain ⟨F0,e0,g0,c0⟩:=r0
  obtain ⟨F1,e1,g1,c1⟩:=r1
  obtain ⟨F2,e2,g2,c2⟩:=r2
  have hh0:=c0.holes
  have hh1:=c1.holes
  have hh2:=c2.holes
  have f0:=c0.len
  have f1:=c1.len
  have f2:=c2.len
  have hC:(fun k => cellsL ((three (C0.map fun c:Int × Bool => c.1) (C1.map fun c:Int × Bool => c.1) (C2.map fun c:Int × Bool => c.1)) k) ((three (holesOf (C0.map fun c:Int × Bool => c.2)) (holesOf (C1.map fun c:Int × Bool => c.2)) (holesOf (C2.map fun c:Int × Bool => c.2))) k)) = three C0 C1 C2:=by
    funext k
    exact three_all (p:=fun k => cellsL ((three (C0.map fun c:Int × Bool => c.1) (C1.map fun c:Int × Bool => c.1) (C2.map fun c:Int × Bool => c.1)) k) ((three (holesOf (C0.map fun c:Int × Bool => c.2)) (holesOf (C1.map fun c:Int × Bool => c.2)) (holesOf (C2.map fun c:Int × Bool => c.2))) k) = three C0 C1 C2 k) c0.c c1.c (fun _ => c2.c) k
  have lim:∀ k c,c ∈ three C0 C1 C2 k → c.1.natAbs ≤ 16384:=fun k => three_all (p:=fun k => ∀ c,c ∈ three C0 C1 C2 k → c.1.natAbs ≤ 16384) c0.lim c1.lim (fun _ => c2.lim) k
  have hF0:((three F0 F1 F2) 0).length = N:=by show F0.length = N; omega
  refine (k53 H X (s:=three s0 s1 s2) (n:=three n n n) (v1:=three a0 a1 a2) (v2:=three b0 b1 b2) (F:=three F0 F1 F2) (S:=three (holesOf (C0.map fun c:Int × Bool => c.2)) (holesOf (C1.map fun c:Int × Bool => c.2)) (holesOf (C2.map fun c:Int × Bool => c.2))) (es:=three e0 e1 e2) (L:=three (C0.map fun c:Int × Bool => c.1) (C1.map fun c:Int × Bool => c.1) (C2.map fun c:Int × Bool => c.1))
    (three_all g0 g1 fun _ => g2) (three_all c0.e c1.e fun _ => c2.e) (three_all (fun _ => c0.lev) (fun _ => c1.lev) fun _ _ => c2.lev)
    (three_all (p:=fun k => (three F0 F1 F2 k).length ≤ 900000) (by show F0.length ≤ _; omega) (by show F1.length ≤ _; omega) fun _ => by show F2.length ≤ _; omega)
    (three_all (p:=fun k => (three (holesOf (C0.map fun c:Int × Bool => c.2)) (holesOf (C1.map fun c:Int × Bool => c.2)) (holesOf (C2.map fun c:Int × Bool => c.2)) k).length ≤ 900000) (by show (holesOf (C0.map fun c:Int × Bool => c.2)).length ≤ _; omega) (by show (holesOf (C1.map fun c:Int × Bool => c.2)).length ≤ _; omega) fun _ => by show (holesOf (C2.map fun c:Int × Bool => c.2)).length ≤ _; omega)
    sm.e0 f (fun k => by
      by_cases h0:k = 0
      · subst h0; exact ⟨0,by decide,rfl,rfl,rfl,rfl,rfl,rfl⟩
      · by_cases h1:k = 1
        · subst h1; exact ⟨1,by decide,rfl,rfl,rfl,rfl,rfl,rfl⟩
        · exact ⟨2,by decide,three_two k (by omega),three_two k (by omega),three_two k (by omega),three_two k (by omega),three_two k (by omega),three_two k (by omega)⟩)
    (E:=0) ?_).mono ?_
  · show firstNZ [runE s0 n F0.length (holesOf (C0.map fun c:Int × Bool => c.2)) e0 (C0.map fun c:Int × Bool => c.1),runE s1 n F1.length (holesOf (C1.map fun c:Int × Bool => c.2)) e1 (C1.map fun c:Int × Bool => c.1),runE s2 n F2.length (holesOf (C2.map fun c:Int × Bool => c.2)) e2 (C2.map fun c:Int × Bool => c.1),cond (!shapeB n F0.length n F1.length || !shapeB n F0.length n F2.length) 2 0,0,cond (lt0 lb) 3 0] = 0
    rw [c0.r,c1.r,c2.r,h0,f0,f1,f2,l0,l1,l2,shapeB_same]
    rfl
  · rintro v h' ⟨X',R⟩
    rcases R with ⟨e,_⟩ | ⟨_,m',w1,w2,sm',rfl,O⟩
    · exact absurd rfl e
    · obtain rfl:m' = m:=by
        have:=(sm'.cmp sm).1
        have h2:=(sm.cmp sm).1
        have:(some (decide (m' = m))) = some (decide (m = m)):=this.symm.trans h2
        simpa using this
      rw [hC,hF0] at O ⊢
      refine ⟨X',w1,w2,rfl,O.cel ?_ ?_ (votesC_lim lim) votes_dark,O.o1,O.o2⟩
      · rw [votesC_len,← l0]; exact hd
      · rw [votesC_len,← l0]; exact q3
section
variable {s0 s1 s2:ByteArray} {n:Int} {x0 y0 x1 y1 x2 y2:Value} {C0 C1 C2:List (Int × Bool)} {N lb c2:Nat} {m:Int} {h g:TH} {rest:TCode} {Q:Exit → Regs → TH → Prop}
end
end Go.Tidy
namespace Go.Tidy
open Go Go.Proofs Tab
variable {tp:TProg}
theorem wrN_eq {m:Int} {C D:Nat → List (Int × Bool)} {k j:Nat} (hv:voteA m C = voteA m D) (hc:∀ i,cellD C k i = cellD D j i):∀ N,wrN m C N k = wrN m D N j
 | 0 => rfl
 | N + 1 => by
  show wrN m C N k + cond (wrongB m (cellD C k N) (voteA m C N)) 1 0 = wrN m D N j + cond (wrongB m (cellD D j N) (voteA m D N)) 1 0
  rw [wrN_eq hv hc N,hc,hv]
section
variable {s0 s1 s2:ByteArray} {n:Int} {x0 y0 x1 y1 x2 y2:Value} {C0 C1 C2:List (Int × Bool)} {N lb c2:Nat} {m:Int} {h g:TH} {rest:TCode} {Q:Exit → Regs → TH → Prop}
end
end Go.Tidy
namespace Go.Tidy
open Go Go.Proofs Tab
variable {tp:TProg}
def lane (s:Nat → ByteArray) (n:Int) (h:TH) (v1 v2:Nat → Value) (C:Nat → List (Int × Bool)) (N:Nat):Prop:=∀ k,RunC (s k) n h (v1 k) (v2 k) (C k) ∧ (C k).length = N
theorem lane.hx {s:Nat → ByteArray} {n:Int} {h h':TH} {v1 v2:Nat → Value} {C:Nat → List (Int × Bool)} {N:Nat} (l:lane s n h v1 v2 C N) (x:HX h h'):lane s n h' v1 v2 C N:=fun k => ⟨(l k).1.hx x,(l k).2⟩
section
variable {s:Nat → ByteArray} {n:Int} {v1 v2:Nat → Value} {C:Nat → List (Int × Bool)} {N lb c2 c7:Nat} {m:Int} {hb g:TH} {Q:Exit → Regs → TH → Prop} {gx:Nat} {p126 p127 p128:Value}
end
end Go.Tidy
namespace Go.Tidy
open Go Go.Proofs Tab
variable {tp:TProg}
theorem elemF {h:TH} {w:Value} {l:List Nat} (s:SlL encF 1 h w l) {j:Nat} {b:Nat} (hj:l[j]? = some b):∃ p,indexAddrT Tryz.prog 22 w (zi (j:Nat)) = some p ∧ loadT Tryz.prog 27 p h = some (.float .f32 b):=by
 obtain ⟨b',o',cc,fix,wr,el,g1,g2,g3,g4,g5⟩:=s.at eF u43 tp25 hj .i64
 exact ⟨_,g1,load_one tp25 g2 (g5 0 (by decide))⟩
section
variable {P:Program} {h:TH} {K:Regs → TH → Prop} {rest:List TOper} {d:Option Tmp} {ty:TypeId} {i:Nat} {x y:Operand} {t u:TypeId} {L:Rg}
end
theorem lt0_pos {b:Nat} {m:Int} (s:Samp b m) (h:lt0 b = false):0 ≤ m:=by
 have z:Samp 0 0:=by have:=(smp_ok (n:=0) (by decide)).2.2; rwa [smp_zero] at this
 unfold lt0 at h
 rw [s.nan,s.order z] at h
 rw [if_neg (by decide)] at h
 have:(some (compare m 0) == some Ordering.lt) = decide (m < 0):=by
  show (some (compareOfLessAndEq m 0) == some Ordering.lt) = _
  unfold compareOfLessAndEq
  by_cases h:m < 0
  ·simp [h]
  ·by_cases h2:m = 0
   ·subst h2; rfl
   ·simp [h,h2]
 rw [this] at h
 simpa using h
section
variable {s:Nat → ByteArray} {n:Int} {v1 v2:Nat → Value} {C:Nat → List (Int × Bool)} {N lb c2 c7:Nat} {m:Int} {hb g:TH} {Q:Exit → Regs → TH → Prop} {gx:Nat} {p126 p127 p128:Value}
end
end Go.Tidy
namespace Go.Tidy
open Go Go.Proofs Tab
variable {tp:TProg}
theorem shapeB_n {n n':Int} {m m':Nat} (h:shapeB n m n' m' = true):n = n' ∧ m = m':=by
 unfold shapeB at h
 simp at h
 omega
section
variable {s:Nat → ByteArray} {n:Nat → Int} {v1 v2:Nat → Value} {F:Nat → List Nat} {S:Nat → List (Int × Int)} {es L:Nat → List Int} {h:TH} {lb:Nat} {el:Int}
end
attribute [local irreducible] Ty valOf
end Go.Tidy
namespace Go.Tidy
open Go Go.Proofs Tab
variable {tp:TProg}
section
variable {m:Int} {C D:Nat → List (Int × Bool)} {N:Nat}
theorem votes_range:votesC m C N = (List.range N).map (voteA m C):=by
 apply List.ext_getElem?
 intro i
 by_cases hi:i < N
 ·rw [votesC_get hi,List.getElem?_map,List.getElem?_range hi]; rfl
 ·rw [List.getElem?_eq_none (by rw [votesC_len]; omega),List.getElem?_eq_none (by simp; omega)]
theorem cells_range {k:Nat} (h:(C k).length = N):C k = (List.range N).map (cellD C k):=by
 apply List.ext_getElem?
 intro i
 by_cases hi:i < N
 ·rw [List.getElem?_map,List.getElem?_range hi,cellD_get (by omega)]; rfl
 ·rw [List.getElem?_eq_none (by omega),List.getElem?_eq_none (by simp; omega)]
theorem cellD_pick {I:List Nat} {k i:Nat} (hD:D k = I.map (cellD C k)) (hi:i < I.length):cellD D k i = cellD C k I[i]:=by
 unfold cellD
 rw [hD,List.getD_eq_getElem?_getD,List.getElem?_map,List.getElem?_eq_getElem hi]
 rfl
theorem voteA_pick {I:List Nat} {i:Nat} (hD:∀ k,k < 3 → D k = I.map (cellD C k)) (hi:i < I.length):voteA m D i = voteA m C I[i]:=by
 unfold voteA
 rw [cellD_pick (hD 0 (by decide)) hi,cellD_pick (hD 1 (by decide)) hi,cellD_pick (hD 2 (by decide)) hi]
theorem votes_pick {I:List Nat} (hD:∀ k,k < 3 → D k = I.map (cellD C k)):votesC m D I.length = I.map (voteA m C):=by
 apply List.ext_getElem?
 intro i
 by_cases hi:i < I.length
 ·rw [votesC_get hi,voteA_pick hD hi,List.getElem?_map,List.getElem?_eq_getElem hi]; rfl
 ·rw [List.getElem?_eq_none (by rw [votesC_len]; omega),List.getElem?_eq_none (by simp; omega)]
def wrI (m:Int) (C:Nat → List (Int × Bool)) (k j:Nat):Int:=cond (wrongB m (cellD C k j) (voteA m C j)) 1 0
theorem wr_pick {I:List Nat} {k:Nat} (hk:k < 3) (hD:∀ k,k < 3 → D k = I.map (cellD C k)):∀ i,i ≤ I.length → wrN m D i k = sumL ((I.take i).map (wrI m C k))
 | 0,_ => rfl
 | i + 1,hi => by
  have h:=wr_pick hk hD i (by omega)
  show wrN m D i k + cond (wrongB m (cellD D k i) (voteA m D i)) 1 0 = _
  rw [h,voteA_pick hD (by omega),cellD_pick (hD k hk) (by omega),List.take_succ_eq_append_getElem (by omega),List.map_append,sumL_append]
  show _ = _ + (wrI m C k I[i] + 0)
  unfold wrI
  omega
theorem wr_rev {k:Nat} (hk:k < 3) (hN:∀ k,k < 3 → (C k).length = N) (hD:∀ k,k < 3 → D k = (C k).reverse):wrN m D N k = wrN m C N k:=by
 have e1:=wr_pick (m:=m) (C:=C) (D:=D) (I:=(List.range N).reverse) hk (fun k hk => by rw [hD k hk,List.map_reverse,← cells_range (hN k hk)]) N (by simp)
 have e2:=wr_pick (m:=m) (C:=C) (D:=C) (I:=List.range N) hk (fun k hk => cells_range (hN k hk)) N (by simp)
 rw [e1,e2,List.take_of_length_le (by simp),List.take_of_length_le (by simp),List.map_reverse,sumL_rev]
theorem votes_rev (hN:∀ k,k < 3 → (C k).length = N) (hD:∀ k,k < 3 → D k = (C k).reverse):votesC m D N = (votesC m C N).reverse:=by
 have e:=votes_pick (m:=m) (C:=C) (D:=D) (I:=(List.range N).reverse) (fun k hk => by rw [hD k hk,List.map_reverse,← cells_range (hN k hk)])
 rw [show (List.range N).reverse.length = N by simp] at e
 rw [e,votes_range,List.map_reverse]
theorem thinTo_range {α:Type} {g:Nat → α} {z:Nat}:∀ i,i ≤ N → thinTo z ((List.range N).map g) i = ((List.range i).filter fun j => j % z == 0).map g
  | 0,_ => rfl
  | i + 1,hi => by
    show _ ++ (if i % z = 0 then ((List.range N).map g)[i]?.toList else []) = _
    rw [thinTo_range i (by omega),List.range_succ,List.filter_append,List.map_append]
    congr 1
    by_cases h:i % z = 0
    · rw [if_pos h,List.getElem?_map,List.getElem?_range (by omega)]
      simp [h]
    · rw [if_neg h]
      simp [h]
def thinI (z N:Nat):List Nat:=(List.range N).filter fun j => j % z == 0
theorem thin_range {α:Type} {g:Nat → α} {z:Nat}:thin z ((List.range N).map g) = (thinI z N).map g:=by
 unfold thin
 rw [thinTo_range _ (by simp)]
 simp [thinI]
theorem votes_thin {z:Nat} (hN:∀ k,k < 3 → (C k).length = N) (hD:∀ k,k < 3 → D k = thin z (C k)):votesC m D (thinI z N).length = thin z (votesC m C N):=by
 rw [votes_pick (m:=m) (C:=C) (I:=thinI z N) (fun k hk => by rw [hD k hk]; exact (congrArg (thin z) (cells_range (hN k hk))).trans thin_range),votes_range,thin_range]
def partI (N lo hi:Nat):List Nat:=((List.range N).drop lo).take (hi - lo)
theorem part_range {g:Nat → Int × Bool} {lo hi:Nat}:partC ((List.range N).map g) lo hi = (partI N lo hi).map g:=by
 unfold partC partI
 rw [← List.map_drop,← List.map_take]
theorem votes_part {lo hi:Nat} (hN:∀ k,k < 3 → (C k).length = N) (hD:∀ k,k < 3 → D k = partC (C k) lo hi):votesC m D (partI N lo hi).length = partC (votesC m C N) lo hi:=by
 rw [votes_pick (m:=m) (C:=C) (I:=partI N lo hi) (fun k hk => by rw [hD k hk]; exact (congrArg (fun l => partC l lo hi) (cells_range (hN k hk))).trans part_range),votes_range,part_range]
end
section
variable {s:ByteArray} {n:Int} {h:TH} {v1 v2 w1 w2:Value} {C D:List (Int × Bool)}
theorem c87 (H:Has tp) (r:RunC s n h v1 v2 C) (f:Free0 h.next h):CallW Tryz.prog tp (.func (.func 9) #[] #[]) #[runV s n v1 v2] h fun v h' => ∃ w1 w2,v = runV s n w1 w2 ∧ HX h h' ∧ RunC s n h' w1 w2 C ∧ Above h.next w1 ∧ Above h.next w2:=by
 obtain ⟨F,es,r,c⟩:=r
 have m:=c.m
 have l:=c.len
 have q:=c.holes
 refine (k87 H r (by omega) (by omega) f).mono ?_
 rintro v h' ⟨w1,w2,rfl,x,o⟩
 exact ⟨w1,w2,rfl,x,⟨F,es,o.r,c⟩,o.o1,o.o2⟩
theorem c44 (H:Has tp) (X:HasX tp) {z:Nat} (hz:1 ≤ z) (hz2:z ≤ 64) (hd:n % (z:Int) = 0) (r:RunC s n h v1 v2 C) (f:Free0 h.next h):CallW Tryz.prog tp (.func (.func 16) #[] #[]) #[runV s n v1 v2,zi (z:Nat)] h fun v h' => NewC s (n / (z:Int)) (thin z C) h v h':=by
 obtain ⟨F,es,r,c⟩:=r
 have m:=c.m
 have l:=c.len
 have q:=c.holes
 have tl:(thin z C).length ≤ C.length:=thin_len _
 obtain ⟨e1,e2,e3,_⟩:=headE_zero c.head
 have ct:=c.top
 have d1:n / (z:Int) ≤ n:=Int.ediv_le_self _ e2
 have d0:0 ≤ n / (z:Int):=Int.ediv_nonneg e2 (by omega)
 refine (k44 H X r c.e (fun _ => c.lev) (by omega) (by omega) f).mono ?_
 intro v h' R
 have ho:outB (z:Int) 1 64 = 0:=by unfold outB; rw [decide_eq_false (by omega),decide_eq_false (by omega)]; rfl
 have he:thErr (firstNZ [0,0]) n (z:Int) = 0:=by unfold thErr; rw [hd]; rfl
 rw [c.r,c.c,ho,he,Int.toNat_natCast] at R
 exact R.new (headE_of e1 d0 (by omega) (by omega)) (by omega) (fun x hx => c.lim x (thin_mem hx)) (fun x hx => c.dk x (thin_mem hx))
theorem sumC_dark:DarkC (sumC C D):=by
 intro c hc hk
 unfold sumC at hc
 obtain ⟨i,hi⟩:=List.getElem?_of_mem hc
 rw [List.getElem?_zipWith] at hi
 split at hi
 ·rename_i a b _ _
  cases hi
  unfold sumCell at *
  cases h:(a.2 && b.2) with
  | true => rw [h] at hk; cases hk
  | false => rfl
 ·cases hi
theorem c50 (H:Has tp) (X:HasX tp) {s':ByteArray} (r:RunC s n h v1 v2 C) (r':RunC s' n h w1 w2 D) (hl:D.length = C.length) (ok:allOk (sumC C D) = true) (f:Free0 h.next h):CallW Tryz.prog tp (.func (.func 20) #[] #[]) #[runV s n v1 v2,runV s' n w1 w2] h fun v h' => NewC s n (sumC C D) h v h':=by
 obtain ⟨F,es,r,c⟩:=r
 obtain ⟨F',es',r',c'⟩:=r'
 have m:=c.m
 have l:=c.len
 have q:=c.holes
 have l':=c'.len
 have q':=c'.holes
 have hs:(sumC C D).length = C.length:=by unfold sumC; rw [List.length_zipWith]; omega
 refine (k50 H X r r' c.e (fun _ => c.lev) c'.e (fun _ => c'.lev) (by omega) (by omega) (by omega) (by omega) f).mono ?_
 intro v h' R
 have he:sumErr (twoE 0 0 n F.length n F'.length) C D = 0:=by
  unfold sumErr twoE
  rw [show F'.length = F.length by omega,shapeB_same,ok]
  rfl
 rw [c.r,c'.r,c.c,c'.c,he] at R
 exact R.new (by rw [hs]; exact c.head) (by rw [hs]; exact c.top) (allOk_iff.1 ok) sumC_dark
theorem scC_neg:scC (-1) 1 C = C.map fun c => (-c.1,c.2):=by
 unfold scC
 apply List.map_congr_left
 intro c _
 show (rnd (c.1 * -1) 1,c.2) = _
 have:rnd (c.1 * -1) 1 = -c.1:=by unfold rnd; omega
 rw [this]
theorem sum_neg:∀ C:List (Int × Bool),sumC C (scC (-1) 1 C) = C.map fun c => (0,c.2):=by
 intro C
 rw [scC_neg]
 unfold sumC
 induction C with
 | nil => rfl
 | cons c C ih =>
  show sumCell c (-c.1,c.2) :: List.zipWith sumCell C _ = (0,c.2) :: _
  rw [ih]
  congr 1
  obtain ⟨x,k⟩:=c
  cases k
  ·rfl
  ·show (x + -x,true) = (0,true)
   rw [Int.add_right_neg]
theorem neg_ok (lim:∀ c,c ∈ C → c.1.natAbs ≤ 16384):allOk (scC (-1) 1 C) = true:=by
 rw [allOk_iff,scC_neg]
 intro c hc
 obtain ⟨x,hx,rfl⟩:=List.mem_map.1 hc
 have:=lim x hx
 show (-x.1).natAbs ≤ _
 omega
theorem zero_ok:allOk (C.map fun c => ((0:Int),c.2)) = true:=by
 rw [allOk_iff]
 intro c hc
 obtain ⟨x,hx,rfl⟩:=List.mem_map.1 hc
 exact Nat.zero_le _
theorem zero_sq:∀ C:List (Int × Bool),sqL (knownV (C.map fun c => ((0:Int),c.2))) = 0
 | [] => rfl
 | (x,k) :: C => by
  have ih:=zero_sq C
  cases k
  ·exact ih
  ·show (0:Int) * 0 + sqL (knownV (C.map fun c => ((0:Int),c.2))) = 0
   rw [ih]; rfl
end
end Go.Tidy
