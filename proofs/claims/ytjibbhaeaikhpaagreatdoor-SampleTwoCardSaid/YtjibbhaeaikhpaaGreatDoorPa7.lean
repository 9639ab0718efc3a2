/- A part of the proof. -/
import Derived.Test.YtjibbhaeaikhpaaGreatDoorPa6
import Derived.Test.YtjibbhaeaikhpaaGreatDoorPa2
import Derived.Test.YtjibbhaeaikhpaaGreatDoorPa5
set_option linter.all false
namespace Go.Tidy
open Go Go.Proofs Tab
variable {tp:TProg}
theorem mix_len {α:Type} {A B:List α} (h:A.length = B.length) (j:Nat):(A.take j ++ B.drop j).length = B.length:=by simp; omega
theorem mix_get {α:Type} {A B:List α} (h:A.length = B.length) {j:Nat} (hj:j < B.length):(A.take j ++ B.drop j)[j]? = B[j]?:=by
 rw [List.getElem?_append_right (by simp; omega),List.length_take,List.getElem?_drop]
 congr 1; omega
theorem mix_set {α:Type} {A B:List α} (h:A.length = B.length) {j:Nat} {x:α} (hx:A[j]? = some x):(A.take j ++ B.drop j).set j x = A.take (j + 1) ++ B.drop (j + 1):=by
 have hj:j < A.length:=(List.getElem?_eq_some_iff.1 hx).1
 rw [List.set_append_right _ _ (by simp; omega),List.length_take,Nat.min_eq_left (by omega),Nat.sub_self,take_succ_get hx,List.append_assoc]
 congr 1
 rw [List.drop_eq_getElem_cons (by omega:j < B.length)]
 rfl
def sumCell (c d:Int × Bool):Int × Bool:=cond (c.2 && d.2) (c.1 + d.1,true) (0,false)
def sumC (C D:List (Int × Bool)):List (Int × Bool):=List.zipWith sumCell C D
theorem sumC_get {C D:List (Int × Bool)} {j:Nat} {c d:Int × Bool} (hc:C[j]? = some c) (hd:D[j]? = some d):(sumC C D)[j]? = some (sumCell c d):=by
 unfold sumC; rw [List.getElem?_zipWith,hc,hd]
def sumErr (e:Int) (C D:List (Int × Bool)):Int:=cond (e != 0) e (cond (allOk (sumC C D)) 0 4)
theorem bd134z:buildT Tryz.prog 161 [] = some (.agg #[.int .i64 0,.bool false]):=by kernel_rfl
theorem sumBody {h hb g:TH} {b7 b8 c2 c4 j:Nat} {M C D:List (Int × Bool)} {c d:Int × Bool} {R:Exit → Regs → TH → Prop} (f:Free0 h.next h) (hC:C.length ≤ 1000000) (lc:c.1.natAbs ≤ 16384) (ld:d.1.natAbs ≤ 16384)
    (hm:M[j]? = some c) (hd:D[j]? = some d) (ml:M.length = C.length) (hlt:j < C.length)
    (X:HX h hb) (Y:HX hb g) (h7:At g b7 (.cells (cat encC M) true true 161)) (h8:At g b8 (.cells (cat encC D) true true 161)) (hn:b7 ≠ b8) (ho:hb.next ≤ b7)
    (K:∀ g',HX hb g' → At g' b7 (.cells (cat encC (M.set j (sumCell c d))) true true 161) → At g' b8 (.cells (cat encC D) true true 161) → ∀ a,Kn [(2,ptr c2),(4,ptr c4),(7,.slice (some ⟨b7,0,none⟩) C.length C.length),(30,.slice (some ⟨b8,0,none⟩) D.length D.length),(31,zi C.length),(32,zi (j:Nat))] a → R .normal a g') :
    ∀ a,Kn [(2,ptr c2),(4,ptr c4),(7,.slice (some ⟨b7,0,none⟩) C.length C.length),(30,.slice (some ⟨b8,0,none⟩) D.length D.length),(31,zi C.length),(32,zi (j:Nat)),(33,.bool true)] a →
      W Tryz.prog tp false (.block 1 (.seq (.reg r50_7) (.seq (.seq (.reg r50_8) (.cond (.tmp 47) (.seq (.reg r50_9) (.exit 1)) .skip)) (.reg r50_10)))) a g R:=by
  have sl8:SlL encC 2 g (.slice (some ⟨b8,0,none⟩) D.length D.length) D:=SlL.own eC h8 rfl
  obtain ⟨b,o,cc,fix,wr,el,e1,e2,e3,e4,e5⟩:=sl8.at eC u135 tp134 hd .i64
  have ix7:indexAddrT Tryz.prog 162 (.slice (some ⟨b7,0,none⟩) C.length C.length) (.int .i64 (j:Nat)) = some (.pointer (some ⟨b7,0 + j * 2,none⟩)):=indexAddr_tp u135 tp134 hlt
  have g0:(cat encC M)[0 + j * 2 + 0]? = some (.int .i64 c.1):=by rw [show 0 + j * 2 + 0 = j * 2 + 0 by omega]; exact eC.get hm (q:=0) (by omega)
  have g1:(cat encC M)[0 + j * 2 + 1]? = some (.bool c.2):=by rw [show 0 + j * 2 + 1 = j * 2 + 1 by omega]; exact eC.get hm (q:=1) (by omega)
  have lt7:=h7.lt
  have lt8:=h8.lt
  have xh:HX h g:=X.trans Y
  have xn:=X.next
  refine WL.block ?_
  refine WL.sr <| WOL.mv rfl <| WOL.ix rfl rfl e1 <| WOL.ld rfl (load_row tp134 e2 e4 e3) ?_
  refine WOL.al tp134 fun h3 N3 => WOL.as rfl <| WOL.sto rfl rfl tp134 N3.at_ rfl rfl (Nat.le_of_ble_eq_true rfl) rfl (f.hx (xh.trans N3.hx)) xh.next fun h4 P4 => WOL.nil <| keep [(2,_),(4,_),(7,_),(9,_),(10,_),(30,_),(31,_),(32,_)] ⟨rfl,rfl,rfl,rfl,rfl,rfl,rfl,rfl,trivial⟩ ?_
  have X4:HX hb h4:=P4.hx _ (Y.trans N3.hx) Y.next
  have xh4:HX h h4:=X.trans X4
  have B7:=P4.oth _ _ (by omega) (h7.hx N3.hx)
  have B8:=P4.oth _ _ (by omega) (h8.hx N3.hx)
  have B10:At h4 g.next (.cells [.int .i64 d.1,.bool d.2] true true 161):=P4.at_
  have no:sumCell c d = (0,false) → ∀ a,Kn [(2,ptr c2),(4,ptr c4),(7,.slice (some ⟨b7,0,none⟩) C.length C.length),(9,zi (j:Nat)),(30,.slice (some ⟨b8,0,none⟩) D.length D.length),(31,zi C.length),(32,zi (j:Nat)),(47,.bool true)] a →
      W Tryz.prog tp false (.cond (.tmp 47) (.seq (.reg r50_9) (.exit 1)) .skip) a h4 (andThen (fun a h => W Tryz.prog tp false (.reg r50_10) a h (leaves 1 R)) (leaves 1 R)):=by
    intro hx
    refine WL.yes rfl <| WL.sr <| WOL.mv rfl <| WOL.mv rfl <| WOL.bd rfl bd134z <| WOL.ix rfl rfl ix7 ?_
    refine WOL.sto rfl rfl tp134 B7 rfl rfl (by rw [eC.cat_len,ml]; omega) rfl (f.hx xh4) (by omega) fun h5 P5 => WOL.nil ?_
    have C7:=P5.at_
    rw [show 0 + j * 2 = j * 2 by omega,show (Value.agg #[.int .i64 0,.bool false]).cells.toList = encC (0,false) from rfl,eC.set (by omega),← hx] at C7
    exact WL.exit (kto (K h5 (P5.hx _ X4 ho) C7 (P5.oth _ _ (Ne.symm hn) B8)) ⟨rfl,rfl,rfl,rfl,rfl,rfl,trivial⟩)
  refine WL.seq <| WL.sr <| WOL.mv rfl <| WOL.mv rfl <| WOL.ix rfl rfl ix7 <| WOL.fa rfl (fa_of fo134_1) <| WOL.ld rfl (load_one tp4 B7 g1) <| WOL.nt rfl ?_
  cases hk:c.2 with
  | false =>
    refine WOL.mv rfl <| WOL.skp (b:=true) rfl rfl <| WOL.skp (b:=true) rfl rfl <| WOL.skp (b:=true) rfl rfl <| WOL.pkt rfl rfl <| WOL.nil ?_
    exact kto (no (by simp [sumCell,hk])) ⟨rfl,rfl,rfl,rfl,rfl,rfl,rfl,rfl,trivial⟩
  | true =>
    refine WOL.mv rfl <| WOL.now (b:=false) rfl rfl <| WOL.fa rfl (fa_of fo134_1) <| WOL.now (b:=false) rfl rfl <| WOL.ld rfl (load_one tp4 B10 rfl) <| WOL.now (b:=false) rfl rfl <| WOL.nt rfl <| WOL.pkf rfl rfl <| WOL.nil ?_
    cases hk2:d.2 with
    | false => exact kto (no (by simp [sumCell,hk2])) ⟨rfl,rfl,rfl,rfl,rfl,rfl,rfl,rfl,trivial⟩
    | true =>
      refine WL.no rfl <| WL.skip ?_
      refine WL.reg <| WOL.mv rfl <| WOL.mv rfl <| WOL.ix rfl rfl ix7 <| WOL.fa rfl (fa_of fo134_0) <| WOL.ld rfl (load_one tp3 B7 g0) <| WOL.fa rfl (fa_of fo134_0) <| WOL.ld rfl (load_one tp3 B10 rfl) ?_
      refine WOL.bi (v:=zi (c.1 + d.1)) rfl rfl (by show some (Value.int .i64 (fwrap .i64 (c.1 + d.1))) = _; rw [fwrap_i64 (by omega) (by omega)]) ?_
      refine WOL.ix rfl rfl ix7 <| WOL.fa rfl (fa_of fo134_0) ?_
      refine WOL.sto rfl rfl tp3 B7 rfl rfl (by rw [eC.cat_len,ml]; omega) rfl (f.hx xh4) (by omega) fun h5 P5 => WOL.nil ?_
      have C7:=P5.at_
      have hset:splice (cat encC M) (0 + j * 2 + 0) [Value.int .i64 (c.1 + d.1)] = cat encC (M.set j (sumCell c d)):=by
        rw [← eC.set (by omega),show sumCell c d = (c.1 + d.1,true) by simp [sumCell,hk,hk2]]
        apply List.ext_getElem?
        intro q
        rw [hk] at g1
        rw [splice_at _ _ _ (by rw [eC.cat_len,ml]; simp; omega),splice_at _ _ _ (by rw [eC.cat_len,ml]; show _ + 2 ≤ _; omega)]
        show (if 0 + j * 2 + 0 ≤ q ∧ q < 0 + j * 2 + 0 + 1 then _ else _) = if j * 2 ≤ q ∧ q < j * 2 + 2 then _ else _
        by_cases q0:q = j * 2
        · subst q0; rw [if_pos (by omega),if_pos (by omega),show j * 2 - (0 + j * 2 + 0) = 0 by omega,show j * 2 - j * 2 = 0 by omega]; rfl
        · by_cases q1:q = j * 2 + 1
          · subst q1; rw [if_neg (by omega),if_pos (by omega),show j * 2 + 1 - j * 2 = 1 by omega,show j * 2 + 1 = 0 + j * 2 + 1 by omega,g1]; rfl
          · rw [if_neg (by omega),if_neg (by omega)]
      rw [show (zi (c.1 + d.1)).cells.toList = [Value.int .i64 (c.1 + d.1)] from rfl,hset] at C7
      exact kto (K h5 (P5.hx _ X4 ho) C7 (P5.oth _ _ (Ne.symm hn) B8)) ⟨rfl,rfl,rfl,rfl,rfl,rfl,trivial⟩
theorem sumLoop {h hb g:TH} {b7 b8 c2 c4:Nat} {C D:List (Int × Bool)} {Q:Exit → Regs → TH → Prop} (f:Free0 h.next h) (hl:D.length = C.length) (hC:C.length ≤ 1000000) (limC:∀ c,c ∈ C → c.1.natAbs ≤ 16384) (limD:∀ c,c ∈ D → c.1.natAbs ≤ 16384)
    (X:HX h hb) (Y:HX hb g) (h7:At g b7 (.cells (cat encC C) true true 161)) (h8:At g b8 (.cells (cat encC D) true true 161)) (hn:b7 ≠ b8) (ho:hb.next ≤ b7)
    (K:∀ g',HX hb g' → At g' b7 (.cells (cat encC (sumC C D)) true true 161) → ∀ a,Kn [(2,ptr c2),(4,ptr c4),(7,.slice (some ⟨b7,0,none⟩) C.length C.length)] a → Q (.exit 0) a g') :
    ∀ a,Kn [(2,ptr c2),(4,ptr c4),(7,.slice (some ⟨b7,0,none⟩) C.length C.length),(30,.slice (some ⟨b8,0,none⟩) D.length D.length),(31,zi C.length),(32,zi 0)] a →
      W Tryz.prog tp false (.loop (.seq (.reg r50_6) (.seq (.cond (.tmp 33) .skip (.exit 0)) (.seq (.block 1 (.seq (.reg r50_7) (.seq (.seq (.reg r50_8) (.cond (.tmp 47) (.seq (.reg r50_9) (.exit 1)) .skip)) (.reg r50_10)))) (.reg r50_11))))) a g Q:=by
  have hsl:(sumC C D).length = C.length:=by simp [sumC,hl]
  refine WL.loop (fun k a h2 => ∃ j:Nat,j ≤ C.length ∧ k = C.length - j ∧ HX hb h2 ∧ At h2 b7 (.cells (cat encC ((sumC C D).take j ++ C.drop j)) true true 161) ∧ At h2 b8 (.cells (cat encC D) true true 161) ∧
    Kn [(2,ptr c2),(4,ptr c4),(7,.slice (some ⟨b7,0,none⟩) C.length C.length),(30,.slice (some ⟨b8,0,none⟩) D.length D.length),(31,zi C.length),(32,zi (j:Nat))] a) C.length (fun a q => ⟨0,by omega,by omega,Y,by simpa using h7,h8,q.sub ⟨rfl,rfl,rfl,rfl,rfl,rfl,trivial⟩⟩) ?_
  rintro k a h2 ⟨j,hj,rfl,X2,A7,A8,q⟩
  refine q.go ?_
  refine WL.sr <| WOL.bi (v:=.bool (decide ((j:Int) < C.length))) rfl rfl rfl ?_
  refine WOL.nil <| keep [(2,_),(4,_),(7,_),(30,_),(31,_),(32,_),(33,_)] ⟨rfl,rfl,rfl,rfl,rfl,rfl,rfl,trivial⟩ ?_
  by_cases hlt:j < C.length
  · rw [show decide ((j:Int) < (C.length:Int)) = true by simpa using hlt]
    have hc:C[j]? = some C[j]:=List.getElem?_eq_getElem hlt
    have hd:D[j]? = some D[j]:=List.getElem?_eq_getElem (by omega)
    have hs:=sumC_get hc hd
    have hm:((sumC C D).take j ++ C.drop j)[j]? = some C[j]:=by rw [mix_get hsl hlt,hc]
    refine WL.seq <| WL.yes rfl <| WL.skip <| WL.seq ?_
    refine sumBody f hC (limC _ (List.mem_of_getElem? hc)) (limD _ (List.mem_of_getElem? hd)) hm hd (mix_len hsl j) hlt X X2 A7 A8 hn ho ?_
    intro h5 X5 D7 D8
    rw [mix_set hsl hs] at D7
    refine WL.reg <| WOL.bi (v:=zi ((j + 1:Nat):Int)) rfl rfl (by show some (Value.int .i64 (fwrap .i64 ((j:Int) + 1))) = _; rw [fwrap_i64 (by omega) (by omega)]; rfl) ?_
    refine WOL.mv rfl <| WOL.nil ?_
    exact fun a q => ⟨C.length - (j + 1),by omega,j + 1,by omega,rfl,X5,D7,D8,q.sub ⟨rfl,rfl,rfl,rfl,rfl,rfl,trivial⟩⟩
  · rw [show decide ((j:Int) < (C.length:Int)) = false by simpa using hlt]
    refine WL.seq <| WL.no rfl <| WL.exit ?_
    obtain rfl:j = C.length:=by omega
    rw [List.drop_length,List.append_nil,List.take_of_length_le (by omega)] at A7
    exact kto (K h2 X2 A7) ⟨rfl,rfl,rfl,trivial⟩
end Go.Tidy
namespace Go.Tidy
open Go Go.Proofs Tab
variable {tp:TProg}
theorem nzero {z:Int}:fastBin .neq (.int .i64 z) (.int .i64 0) = some (.bool (z != 0)):=rfl
def twoE (E1 E2:Int) (n:Int) (m:Nat) (n':Int) (m':Nat):Int:=firstNZ [E1,E2,cond (!shapeB n m n' m') 2 0]
theorem twoE_zero {E1 E2 n n':Int} {m m':Nat} (h:twoE E1 E2 n m n' m' = 0):E1 = 0 ∧ E2 = 0 ∧ n' = n ∧ m' = m:=by
 have z:=firstNZ_zero h
 have h1:=z E1 (by simp)
 have h2:=z E2 (by simp)
 have h3:=z (cond (!shapeB n m n' m') 2 0) (by simp)
 cases hb:shapeB n m n' m' with
 | false => rw [hb] at h3; cases h3
 | true => simp [shapeB] at hb; omega
set_option maxHeartbeats 1000000 in
set_option maxRecDepth 10000 in
theorem k50 (H:Has tp) (X:HasX tp) {s s':ByteArray} {n n':Int} {v1 v2 w1 w2:Value} {F G:List Nat} {S T:List (Int × Int)} {es L es' L':List Int} {h:TH} (r:RunH h v1 v2 F S) (r':RunH h w1 w2 G T) (hE:SErr F es) (hL:firstNZ es = 0 → Lev F L) (hE':SErr G es') (hL':firstNZ es' = 0 → Lev G L')
  (hF:F.length ≤ 900000) (hS:S.length ≤ 900000) (hG:G.length ≤ 900000) (hT:T.length ≤ 900000) (f:Free0 h.next h) :
  CallW Tryz.prog tp (.func (.func 52) #[] #[]) #[runV s n v1 v2,runV s' n' w1 w2] h fun v h' => RunR h h' v s n (sumC (cellsL L S) (cellsL L' T)) (sumErr (twoE (runE s n F.length S es L) (runE s' n' G.length T es' L') n F.length n' G.length) (cellsL L S) (cellsL L' T)):=by
 refine CallW.fnL (H.fn 52 f50 rfl rfl) ?_
 obtain ⟨bv1,kv1,rfl⟩:=r.f.form
 obtain ⟨bv2,kv2,rfl⟩:=r.s.form
 obtain ⟨bw1,kw1,rfl⟩:=r'.f.form
 obtain ⟨bw2,kw2,rfl⟩:=r'.s.form
 refine WL.sr <| WOL.box rfl fun h1 N1 => ?_
 refine WOL.box rfl fun h2 N2 => ?_
 refine WOL.al tp52 fun h3 N3 => ?_
 have n1:=N1.next
 have n2:=N2.next
 have n3:=N3.next
 have X3:HX h h3:=(N1.hx.trans N2.hx).trans N3.hx
 have A2:=(N1.at_.hx N2.hx).hx N3.hx
 have A3:=N2.at_.hx N3.hx
 have A4:=N3.at_
 refine WOL.as rfl <| WOL.nil <| keep [(2,_),(3,_),(4,_)] ⟨rfl,rfl,rfl,trivial⟩ ?_
 refine WL.seq <| WL.sr <| WOL.ld rfl (load_row tp52 A2 rfl (Nat.le_of_ble_eq_true rfl)) <| WOL.ld rfl (load_row tp52 A3 rfl (Nat.le_of_ble_eq_true rfl)) <| WOL.ld rfl (load_row tp52 A2 rfl (Nat.le_of_ble_eq_true rfl)) <| WOL.ld rfl (load_row tp52 A3 rfl (Nat.le_of_ble_eq_true rfl)) ?_
 refine WOL.lq1 [h1.next,h.next,h1.next] rfl rfl rfl fun M hM => ((k41 H X (s:=s) (n:=n) ((r.hx X3).relock' M) hE hL (by omega) (by omega) ((f.on X3).held hM (fun b hb => by simp at hb; omega))).mono ?_)
 rintro v h4 ⟨rfl,X4⟩
 replace X4:=X4.relock
 generalize h4.withLock h3.lock = h4 at *
 have Y4:=X3.trans X4
 have y4:=X4.next
 refine WOL.lq1 [h1.next,h.next] rfl rfl rfl fun M hM => ((k41 H X (s:=s') (n:=n') ((r'.hx Y4).relock' M) hE' hL' (by omega) (by omega) ((f.on Y4).held hM (fun b hb => by simp at hb; omega))).mono ?_)
 rintro v h5 ⟨rfl,X5⟩
 replace X5:=X5.relock
 generalize h5.withLock h4.lock = h5 at *
 have Y5:=Y4.trans X5
 refine WOL.cl2 rfl rfl rfl ((k109 H (s:=s) (s':=s') (n:=n) (n':=n') (r.f.hx Y5) (r'.f.hx Y5)).mono ?_)
 rintro v h6 ⟨rfl,X6⟩
 have Y6:=Y5.trans X6
 refine WOL.nt rfl <| WOL.cl2 rfl rfl rfl ((k77 H _ _ _).mono ?_)
 rintro v h6 ⟨rfl,rfl⟩
 refine WOL.bsl rfl u166 tp30 (by decide) (by decide) (by decide) (filled_ints3 _ _ _) fun h8 N8 => ?_
 refine WOL.cl1 rfl rfl ((k71 H (l:=[_,_,_]) N8.at_.get (by simp)).mono ?_)
 rintro v h8 ⟨rfl,rfl⟩
 have Y8:=Y6.trans N8.hx
 have Z8:=((X4.trans X5).trans X6).trans N8.hx
 replace A2:=A2.hx Z8
 replace A3:=A3.hx Z8
 replace A4:=A4.hx Z8
 have lt4:=A4.lt
 have z8:=Z8.next
 generalize hEE:firstNZ [runE s n F.length S es L,runE s' n' G.length T es' L',cond (!shapeB n F.length n' G.length) 2 0] = E
 have hE0:twoE (runE s n F.length S es L) (runE s' n' G.length T es' L') n F.length n' G.length = E:=hEE
 rw [hE0]
 refine WOL.as rfl <| WOL.nil <| keep [(2,_),(3,_),(4,_),(6,_)] ⟨rfl,rfl,rfl,rfl,trivial⟩ ?_
 refine WL.sr <| WOL.mv rfl <| WOL.bi rfl rfl nzero <| WOL.nil <| keep [(2,_),(3,_),(4,_),(6,_),(23,_)] ⟨rfl,rfl,rfl,rfl,rfl,trivial⟩ ?_
 rcases nz_cases E with h0 | h0
 ·rw [h0]
  obtain ⟨z1,z2,z3,z4⟩:=twoE_zero (hE0.trans h0)
  have V:=valid_of hL z1
  have V':=valid_of hL' z2
  have Vm:=V.m
  have hcl:(cellsL L S).length = F.length:=cells_len V.lev V.in_
  have hcl':(cellsL L' T).length = G.length:=cells_len V'.lev V'.in_
  have lim:=cells_lim V.lev S
  have lim':=cells_lim V'.lev T
  refine WL.no rfl <| WL.skip ?_
  refine WL.sr <| WOL.ld rfl (load_row tp52 A2 rfl (Nat.le_of_ble_eq_true rfl)) <| WOL.ld rfl (load_row tp52 A3 rfl (Nat.le_of_ble_eq_true rfl)) ?_
  refine WOL.lq1 [h1.next] rfl rfl rfl fun M hM => ((k85 H (s:=s) (n:=n) ((r.hx Y8).relock' M) V.lev (by omega) (by omega) V.in_ ((f.on Y8).held hM (fun b hb => by simp at hb; omega))).mono ?_)
  rintro v g1 ⟨b7,rfl,o7,A7,X7⟩
  replace A7:=A7.relock h8.lock
  replace X7:=X7.relock
  replace o7:h8.next ≤ b7:=o7
  generalize g1.withLock h8.lock = g1 at *
  have Y9:=Y8.trans X7
  refine WOL.cl1 rfl rfl ((k85 H (s:=s') (n:=n') (r'.hx Y9) V'.lev (by omega) (by omega) V'.in_ (f.on Y9)).mono ?_)
  rintro v g2 ⟨b8,rfl,o8,A8,X8⟩
  have lt7:=A7.lt
  have Z2:=X7.trans X8
  refine WOL.as rfl <| WOL.as rfl <| WOL.nil <| keep [(2,_),(4,_),(7,_),(8,_)] ⟨rfl,rfl,rfl,rfl,trivial⟩ ?_
  rw [← hcl,← hcl']
  refine WL.seq <| WL.sr <| WOL.mv rfl <| WOL.len rfl (SlL.own eC A8 rfl) u135 <| WOL.mv rfl <| WOL.nil ?_
  refine WL.block ?_
  have hDC:(cellsL L' T).length = (cellsL L S).length:=by omega
  rw [hDC]
  refine kto (sumLoop (c2:=h.next) (c4:=h2.next) (f:=f) (hl:=hDC) (hC:=by omega) lim lim' Y8 Z2 (A7.hx X8) A8 (by omega) o7 ?_) ⟨rfl,rfl,rfl,by rw [hDC]; rfl,rfl,rfl,trivial⟩
  intro g3 X9 B7
  have Y10:=Y8.trans X9
  have C2:=A2.hx X9
  have C4:=A4.hx X9
  have hsl:(sumC (cellsL L S) (cellsL L' T)).length = (cellsL L S).length:=by simp [sumC]; omega
  have sl7:SlL encC 2 g3 (.slice (some ⟨b7,0,none⟩) (cellsL L S).length (cellsL L S).length) (sumC (cellsL L S) (cellsL L' T)):=SlL.own eC B7 hsl
  refine WL.seq <| WL.sr <| WOL.mv rfl <| WOL.cl1 rfl rfl ((k104 H sl7 (by omega)).mono ?_)
  rintro v g4 ⟨rfl,X10⟩
  have Y11:=Y10.trans X10
  refine WOL.nt rfl <| WOL.nil <| keep [(2,_),(4,_),(7,_),(65,_)] ⟨rfl,rfl,rfl,rfl,trivial⟩ ?_
  cases hok:allOk (sumC (cellsL L S) (cellsL L' T)) with
  | false =>
   refine WL.yes rfl <| WL.sr <| WOL.bd rfl bd52z ?_
   refine WOL.sto rfl rfl tp52 (C4.hx X10) rfl rfl (Nat.le_of_ble_eq_true rfl) rfl (f.hx Y11) (by omega) fun g5 P5 => ?_
   refine WOL.as rfl <| WOL.nil ?_
   refine WL.ret (WL.endC1 (t:=4) (s:=5) rfl rfl (load_row tp52 P5.at_ rfl (Nat.le_of_ble_eq_true rfl)) ⟨P5.hx _ Y11 (by omega),.inl ⟨?_,?_⟩⟩)
   ·unfold sumErr; rw [hok]; decide
   ·unfold sumErr; rw [hok]; rfl
  | true =>
   refine WL.no rfl <| WL.skip ?_
   refine WL.sr <| WOL.fa rfl (fa_of fo52_0) <| WOL.ld rfl (load_one tp9 (C2.hx X10) rfl) <| WOL.fa rfl (fa_of fo52_1) <| WOL.ld rfl (load_one tp3 (C2.hx X10) rfl) <| WOL.mv rfl ?_
   refine WOL.cl3 rfl rfl rfl rfl ((k89 H (s:=s) (n:=n) (sl7.hx X10) (allOk_iff.1 hok) (by omega) (f.on Y11)).mono ?_)
   rintro v g5 ⟨q1,q2,rfl,X11,O5⟩
   have Y12:=Y11.trans X11
   have y11:=Y11.next
   have z9:=X9.next
   have z10:=X10.next
   obtain ⟨bo1,k1,rfl⟩:=O5.r.f.form
   obtain ⟨bo2,k2,rfl⟩:=O5.r.s.form
   refine WOL.sto rfl rfl tp52 ((C4.hx X10).hx X11) rfl rfl (Nat.le_of_ble_eq_true rfl) rfl (f.hx Y12) (by omega) fun g6 P6 => ?_
   refine WOL.as rfl <| WOL.nil ?_
   refine WL.ret (WL.endC1 (t:=4) (s:=5) rfl rfl (load_row tp52 P6.at_ rfl (Nat.le_of_ble_eq_true rfl)) ⟨P6.hx _ Y12 (by omega),.inr ⟨?_,_,_,rfl,(O5.away P6 (by omega)).le (by omega)⟩⟩)
   unfold sumErr; rw [hok]; rfl
 ·rw [h0]
  refine WL.yes rfl <| WL.sr <| WOL.bd rfl bd52z <| WOL.mv rfl ?_
  refine WOL.sto rfl rfl tp52 A4 rfl rfl (Nat.le_of_ble_eq_true rfl) rfl (f.hx Y8) (by omega) fun g5 P5 => ?_
  refine WOL.as rfl <| WOL.nil ?_
  have hse:sumErr E (cellsL L S) (cellsL L' T) = E:=by unfold sumErr; rw [h0]; rfl
  rw [hse]
  exact WL.ret (WL.endC1 (t:=4) (s:=5) rfl rfl (load_row tp52 P5.at_ rfl (Nat.le_of_ble_eq_true rfl)) ⟨P5.hx _ Y8 (by omega),.inl ⟨by simpa using h0,rfl⟩⟩)
end Go.Tidy
namespace Go.Tidy
open Go Go.Proofs Tab
variable {tp:TProg}
section
variable {α:Type} {enc:α → List Value} {n0:Nat} {h h':TH} {v:Value} {e:TypeId} {l:List α}
theorem own_block (o:OwnL enc n0 h v e l) (hl:0 < l.length):∃ b,v = .slice (some ⟨b,0,none⟩) l.length l.length ∧ n0 ≤ b ∧ At h b (.cells (cat enc l) false true e):=by
 rcases o with ⟨_,rfl⟩ | ⟨_,h⟩
 ·simp at hl
 ·exact h
theorem own_of {b m:Nat} (hm:l.length = m) (hn:n0 ≤ b) (a:At h b (.cells (cat enc l) false true e)) (hl:0 < m):OwnL enc n0 h (.slice (some ⟨b,0,none⟩) m m) e l:=by
 subst hm
 exact .inr ⟨fun h => by rw [h] at hl; simp at hl,b,rfl,hn,a⟩
theorem own_put {c:Nat} {x:TB} (o:OwnL enc n0 h v e l) (p:Put h h' c x) (hc:bl v ≠ some c):OwnL enc n0 h' v e l:=o.keep fun d y hd ha => p.oth _ _ (fun q => hc (by rw [hd,q])) ha
theorem own_up {n1:Nat} (o:OwnL enc n0 h v e l) (hn:n1 ≤ n0):OwnL enc n1 h v e l:=o.imp id fun ⟨h0,b,h1,h2,h3⟩ => ⟨h0,b,h1,by omega,h3⟩
end
theorem own_ne {α β:Type} {enc:α → List Value} {enc':β → List Value} {n0 n1:Nat} {h:TH} {v w:Value} {e e':TypeId} {l:List α} {m:List β} (o:OwnL enc n0 h v e l) (p:OwnL enc' n1 h w e' m) (he:e ≠ e'):∀ c,bl v = some c → bl w ≠ some c:=by
 intro c h1 h2
 rcases o with ⟨rfl,_⟩ | ⟨_,b,rfl,_,a⟩
 ·cases h1
 ·rcases p with ⟨rfl,_⟩ | ⟨_,b',rfl,_,a'⟩
  ·cases h2
  ·cases h1; cases h2
   have:=a'.get.symm.trans a.get
   obtain ⟨_,_,_,q⟩:=TB.cells.inj (Option.some.inj this)
   exact he q.symm
def addL (L M:List Int):List Int:=List.zipWith (· + ·) L M
def bothL (K J:List Bool):List Bool:=List.zipWith (· && ·) K J
theorem zip_get {α β γ:Type} {f:α → β → γ} {A:List α} {B:List β} {j:Nat} {a:α} {b:β} (ha:A[j]? = some a) (hb:B[j]? = some b):(List.zipWith f A B)[j]? = some (f a b):=by
 rw [List.getElem?_zipWith,ha,hb]
def okTo (Z:List Int) (Y:List Bool) (j:Nat):Prop:=∀ (i:Nat) (z:Int),i < j → Z[i]? = some z → Y[i]? = some true → okI z = true
theorem splice1 {α:Type} {enc:α → List Value} (E:Enc enc 1) {l:List α} {i:Nat} (h:i < l.length) (a:α):splice (cat enc l) (0 + i * 1) (enc a) = cat enc (l.set i a):=by
 rw [Nat.zero_add]; exact E.set h a
set_option maxHeartbeats 1000000 in
theorem body52 (H:Has tp) {h hb g:TH} {n0 c2 c4 j:Nat} {w6 w7 w8 w9:Value} {A M:List Int} {B J:List Bool} {x y:Int} {p r:Bool} {R:Exit → Regs → TH → Prop} (f:Free0 h.next h) (X:HX h hb) (G:HX hb g) (hn0:hb.next ≤ n0)
    (hx:A[j]? = some x) (hp:B[j]? = some p) (hy:M[j]? = some y) (hr:J[j]? = some r) (lx:x.natAbs ≤ 16384) (ly:y.natAbs ≤ 16384)
    (o6:OwnL encI n0 g w6 3 A) (o7:OwnL encB n0 g w7 4 B) (o8:OwnL encI n0 g w8 3 M) (o9:OwnL encB n0 g w9 4 J) (d68:∀ c,bl w6 = some c → bl w8 ≠ some c) (d79:∀ c,bl w7 = some c → bl w9 ≠ some c) (A4:At g c4 (.cells [.string ⟨#[]⟩,.int .i64 0,.slice none 0 0,.slice none 0 0] true true 46)) (hc4:h.next ≤ c4) (hc4':c4 < hb.next)
    (K:∀ g',HX hb g' → ((p && r) = true → okI (x + y) = true) → OwnL encI n0 g' w6 3 (A.set j (x + y)) → OwnL encB n0 g' w7 4 (B.set j (p && r)) → OwnL encI n0 g' w8 3 M → OwnL encB n0 g' w9 4 J → At g' c4 (.cells [.string ⟨#[]⟩,.int .i64 0,.slice none 0 0,.slice none 0 0] true true 46) → ∀ a,Kn [(2,ptr c2),(4,ptr c4),(6,w6),(7,w7),(8,w8),(9,w9),(10,zi (j:Nat))] a → R .normal a g')
    (Kl:∀ g',HX h g' → (p && r) = true → okI (x + y) = false → At g' c4 (.cells [.string ⟨#[]⟩,.int .i64 0,.slice none 0 0,.slice none 0 0] true true 46) → ∀ a,Kn [(4,ptr c4),(5,zi 4)] a → R .ret a g') :
    ∀ a,Kn [(2,ptr c2),(4,ptr c4),(6,w6),(7,w7),(8,w8),(9,w9),(10,zi (j:Nat))] a →
      W Tryz.prog tp false (.block 1 (.seq (.reg r52_7) (.seq (.reg r52_8) (.seq (.reg r52_9) (.cond (.tmp 67) (.seq (.reg r52_10) .ret) .skip))))) a g R:=by
  have jA:j < A.length:=(List.getElem?_eq_some_iff.1 hx).1
  have jB:j < B.length:=(List.getElem?_eq_some_iff.1 hp).1
  obtain ⟨b6,rfl,q6,a6⟩:=own_block o6 (by omega)
  obtain ⟨b7,rfl,q7,a7⟩:=own_block o7 (by omega)
  have n67:b6 ≠ b7:=fun e => own_ne o6 o7 (by decide) b6 rfl (by rw [e]; rfl)
  have lt6:=a6.lt
  have lt7:=a7.lt
  have xh:=X.trans G
  have xn:=X.next
  have gn:=G.next
  obtain ⟨bb,o,cc,fix,wr,el,e1,e2,e3,e4,e5⟩:=(o7.sl eB).at eB u145 tp4 hp .i64
  have ix7:indexAddrT Tryz.prog 172 (.slice (some ⟨b7,0,none⟩) B.length B.length) (.int .i64 (j:Nat)) = some (.pointer (some ⟨b7,0 + j * 1,none⟩)):=indexAddr_tp u145 tp4 jB
  have ix6:indexAddrT Tryz.prog 29 (.slice (some ⟨b6,0,none⟩) A.length A.length) (.int .i64 (j:Nat)) = some (.pointer (some ⟨b6,0 + j * 1,none⟩)):=indexAddr_tp u29 tp3 jA
  refine WL.block ?_
  refine WL.sr <| WOL.mv rfl <| WOL.mv rfl <| WOL.mv rfl <| WOL.mv rfl <| WOL.ix rfl rfl e1 <| WOL.ld rfl (load_one tp4 e2 (e5 0 (by decide))) <| WOL.mv rfl ?_
  -- the store,and the rest
  have rest:∀ a,Kn [(2,ptr c2),(4,ptr c4),(6,.slice (some ⟨b6,0,none⟩) A.length A.length),(7,.slice (some ⟨b7,0,none⟩) B.length B.length),(8,w8),(9,w9),(10,zi (j:Nat)),(32,.slice (some ⟨b7,0,none⟩) B.length B.length),(33,zi (j:Nat)),(43,.bool (p && r))] a →
      WO Tryz.prog tp (r52_7.drop 12) a g (fun a h => W Tryz.prog tp false (.seq (.reg r52_8) (.seq (.reg r52_9) (.cond (.tmp 67) (.seq (.reg r52_10) .ret) .skip))) a h (leaves 1 R)):=by
    refine WOL.ix rfl rfl ix7 ?_
    refine WOL.sto rfl rfl tp4 a7 rfl rfl (by rw [eB.cat_len]; omega) rfl (f.hx xh) (by omega) fun g1 P1 => ?_
    refine WOL.nil <| keep [(2,_),(4,_),(6,_),(7,_),(8,_),(9,_),(10,_)] ⟨rfl,rfl,rfl,rfl,rfl,rfl,rfl,trivial⟩ ?_
    have X1:HX hb g1:=P1.hx _ G (by omega)
    have xh1:=X.trans X1
    have b7':=P1.at_
    rw [show (Value.bool (p && r)).cells.toList = encB (p && r) from rfl,splice1 eB jB] at b7'
    have o6':=own_put o6 P1 (fun e => n67 (by cases e; rfl))
    have o7':OwnL encB n0 g1 (.slice (some ⟨b7,0,none⟩) B.length B.length) 4 (B.set j (p && r)):=own_of (by simp) q7 b7' (by omega)
    have o8':=own_put o8 P1 (own_ne o7 o8 (by decide) b7 rfl)
    have o9':=own_put o9 P1 (d79 b7 rfl)
    have A4':=P1.oth _ _ (by omega) A4
    have a6':=P1.oth _ _ n67 a6
    obtain ⟨c0,p0,cc0,fx0,wr0,el0,f1,f2,f3,f4,f5⟩:=(o6'.sl eI).at eI u29 tp3 hx .i64
    obtain ⟨c1,p1,cc1,fx1,wr1,el1,g1',g2',g3',g4',g5'⟩:=(o8'.sl eI).at eI u29 tp3 hy .i64
    refine WL.sr <| WOL.mv rfl <| WOL.mv rfl <| WOL.mv rfl <| WOL.mv rfl <| WOL.ix rfl rfl f1 <| WOL.ld rfl (load_one tp3 f2 (f5 0 (by decide))) ?_
    refine WOL.mv rfl <| WOL.mv rfl <| WOL.ix rfl rfl g1' <| WOL.ld rfl (load_one tp3 g2' (g5' 0 (by decide))) ?_
    refine WOL.bi (v:=zi (x + y)) rfl rfl (by show some (Value.int .i64 (fwrap .i64 (x + y))) = _; rw [fwrap_i64 (by omega) (by omega)]) ?_
    refine WOL.ix rfl rfl ix6 ?_
    refine WOL.sto rfl rfl tp3 a6' rfl rfl (by rw [eI.cat_len]; omega) rfl (f.hx xh1) (by omega) fun g2 P2 => ?_
    refine WOL.nil <| keep [(2,_),(4,_),(6,_),(7,_),(8,_),(9,_),(10,_)] ⟨rfl,rfl,rfl,rfl,rfl,rfl,rfl,trivial⟩ ?_
    have X2:HX hb g2:=P2.hx _ X1 (by omega)
    have xh2:=X.trans X2
    have b6':=P2.at_
    rw [show (zi (x + y)).cells.toList = encI (x + y) from rfl,splice1 eI jA] at b6'
    have o6'':OwnL encI n0 g2 (.slice (some ⟨b6,0,none⟩) A.length A.length) 3 (A.set j (x + y)):=own_of (by simp) q6 b6' (by omega)
    have o7'':=own_put o7' P2 (fun e => n67 (by cases e; rfl))
    have o8'':=own_put o8' P2 (d68 b6 rfl)
    have o9'':=own_put o9' P2 (own_ne o6' o9' (by decide) b6 rfl)
    have A4'':=P2.oth _ _ (by omega) A4'
    obtain ⟨c2',p2,cc2,fx2,wr2,el2,k1,k2,k3,k4,k5⟩:=(o7''.sl eB).at eB u145 tp4 (j:=j) (a:=p && r) (by rw [List.getElem?_set_self (by omega)]) .i64
    refine WL.sr <| WOL.mv rfl <| WOL.mv rfl <| WOL.ix rfl rfl k1 <| WOL.ld rfl (load_one tp4 k2 (k5 0 (by decide))) ?_
    cases hk:p && r with
    | false =>
      rw [hk] at o7'' 
      refine WOL.mv rfl <| WOL.skp (b:=false) rfl rfl <| WOL.skp (b:=false) rfl rfl <| WOL.skp (b:=false) rfl rfl <| WOL.skp (b:=false) rfl rfl <| WOL.skp (b:=false) rfl rfl <| WOL.pkf rfl rfl <| WOL.nil ?_
      refine WL.no rfl <| WL.skip ?_
      exact kto (K g2 X2 (fun e => by rw [hk] at e; cases e) o6'' (by rw [hk]; exact o7'') o8'' o9'' A4'') ⟨rfl,rfl,rfl,rfl,rfl,rfl,rfl,trivial⟩
    | true =>
      rw [hk] at o7''
      obtain ⟨c3',p3,cc3,fx3,wr3,el3,l1,l2,l3,l4,l5⟩:=(o6''.sl eI).at eI u29 tp3 (j:=j) (a:=x + y) (by rw [List.getElem?_set_self (by omega)]) .i64
      refine WOL.mv rfl <| WOL.now (b:=true) rfl rfl <| WOL.mv rfl <| WOL.now (b:=true) rfl rfl <| WOL.mv rfl <| WOL.now (b:=true) rfl rfl <| WOL.ix rfl rfl l1 <| WOL.now (b:=true) rfl rfl <| WOL.ld rfl (load_one tp3 l2 (l5 0 (by decide))) <| WOL.now (b:=true) rfl rfl ?_
      refine WOL.cl1 rfl rfl ((k107 H _ _).mono ?_)
      rintro v g3 ⟨rfl,rfl⟩
      refine WOL.pkt rfl rfl <| WOL.nil ?_
      cases ho:okI (x + y) with
      | true =>
        refine WL.no rfl <| WL.skip ?_
        exact kto (K _ X2 (fun _ => ho) o6'' (by rw [hk]; exact o7'') o8'' o9'' A4'') ⟨rfl,rfl,rfl,rfl,rfl,rfl,rfl,trivial⟩
      | false =>
        refine WL.yes rfl <| WL.sr <| WOL.bd rfl bd46z ?_
        refine WOL.sto rfl rfl tp46 A4'' rfl rfl (Nat.le_of_ble_eq_true rfl) rfl (f.hx xh2) (by omega) fun g4 P4 => ?_
        refine WOL.as rfl <| WOL.nil ?_
        exact WL.ret (kto (Kl g4 (P4.hx _ xh2 (by omega)) hk ho P4.at_) ⟨rfl,rfl,trivial⟩)
  cases p with
  | false =>
    refine WOL.skp (b:=false) rfl rfl <| WOL.skp (b:=false) rfl rfl <| WOL.skp (b:=false) rfl rfl <| WOL.skp (b:=false) rfl rfl <| WOL.pkf rfl rfl ?_
    exact kto rest ⟨rfl,rfl,rfl,rfl,rfl,rfl,rfl,rfl,rfl,rfl,trivial⟩
  | true =>
    obtain ⟨bb',o',cc',fix',wr',el',f1,f2,f3,f4,f5⟩:=(o9.sl eB).at eB u145 tp4 hr .i64
    refine WOL.now (b:=true) rfl rfl <| WOL.mv rfl <| WOL.now (b:=true) rfl rfl <| WOL.mv rfl <| WOL.now (b:=true) rfl rfl <| WOL.ix rfl rfl f1 <| WOL.now (b:=true) rfl rfl <| WOL.ld rfl (load_one tp4 f2 (f5 0 (by decide))) <| WOL.pkt rfl rfl ?_
    exact kto rest ⟨rfl,rfl,rfl,rfl,rfl,rfl,rfl,rfl,rfl,rfl,trivial⟩
theorem sum52 (H:Has tp) {h hb g:TH} {n0 c2 c4:Nat} {w6 w7 w8 w9:Value} {L M:List Int} {Y J:List Bool} {R:Exit → Regs → TH → Prop} (f:Free0 h.next h) (hM:M.length = L.length) (hY:Y.length = L.length) (hJ:J.length = L.length) (hLm:L.length ≤ 1000000)
    (limL:∀ x,x ∈ L → x.natAbs ≤ 16384) (limM:∀ x,x ∈ M → x.natAbs ≤ 16384) (X:HX h hb) (G:HX hb g) (hn0:hb.next ≤ n0)
    (o6:OwnL encI n0 g w6 3 L) (o7:OwnL encB n0 g w7 4 Y) (o8:OwnL encI n0 g w8 3 M) (o9:OwnL encB n0 g w9 4 J) (d68:∀ c,bl w6 = some c → bl w8 ≠ some c) (d79:∀ c,bl w7 = some c → bl w9 ≠ some c) (A4:At g c4 (.cells [.string ⟨#[]⟩,.int .i64 0,.slice none 0 0,.slice none 0 0] true true 46)) (hc4:h.next ≤ c4) (hc4':c4 < hb.next)
    (K:∀ g',HX hb g' → okTo (addL L M) (bothL Y J) L.length → OwnL encI n0 g' w6 3 (addL L M) → OwnL encB n0 g' w7 4 (bothL Y J) → At g' c4 (.cells [.string ⟨#[]⟩,.int .i64 0,.slice none 0 0,.slice none 0 0] true true 46) → ∀ a,Kn [(2,ptr c2),(4,ptr c4),(6,w6),(7,w7)] a → R (.exit 0) a g')
    (Kl:∀ g',HX h g' → ¬ okTo (addL L M) (bothL Y J) L.length → At g' c4 (.cells [.string ⟨#[]⟩,.int .i64 0,.slice none 0 0,.slice none 0 0] true true 46) → ∀ a,Kn [(4,ptr c4),(5,zi 4)] a → R .ret a g') :
    ∀ a,Kn [(2,ptr c2),(4,ptr c4),(6,w6),(7,w7),(8,w8),(9,w9),(10,zi 0)] a →
      W Tryz.prog tp false (.loop (.seq (.seq (.reg r52_6) (.cond (.tmp 29) .skip (.exit 0))) (.seq (.block 1 (.seq (.reg r52_7) (.seq (.reg r52_8) (.seq (.reg r52_9) (.cond (.tmp 67) (.seq (.reg r52_10) .ret) .skip))))) (.reg r52_11)))) a g R:=by
  have lz:(addL L M).length = L.length:=by simp [addL,hM]
  have ly:(bothL Y J).length = Y.length:=by simp [bothL,hY,hJ]
  refine WL.loop (fun k a h2 => ∃ j:Nat,j ≤ L.length ∧ k = L.length - j ∧ HX hb h2 ∧ okTo (addL L M) (bothL Y J) j ∧ OwnL encI n0 h2 w6 3 ((addL L M).take j ++ L.drop j) ∧ OwnL encB n0 h2 w7 4 ((bothL Y J).take j ++ Y.drop j) ∧ OwnL encI n0 h2 w8 3 M ∧ OwnL encB n0 h2 w9 4 J ∧ At h2 c4 (.cells [.string ⟨#[]⟩,.int .i64 0,.slice none 0 0,.slice none 0 0] true true 46) ∧
    Kn [(2,ptr c2),(4,ptr c4),(6,w6),(7,w7),(8,w8),(9,w9),(10,zi (j:Nat))] a) L.length (fun a q => ⟨0,by omega,by omega,G,fun i z hi => by omega,by simpa using o6,by simpa using o7,o8,o9,A4,q.sub ⟨rfl,rfl,rfl,rfl,rfl,rfl,rfl,trivial⟩⟩) ?_
  rintro k a h2 ⟨j,hj,rfl,X2,ok,O6,O7,O8,O9,B4,q⟩
  refine q.go ?_
  have ml:=mix_len lz j
  refine WL.seq <| WL.sr <| WOL.mv rfl <| WOL.mv rfl <| WOL.len rfl (O6.sl eI) u29 ?_
  rw [ml]
  refine WOL.bi (v:=.bool (decide ((j:Int) < L.length))) rfl rfl rfl ?_
  refine WOL.nil <| keep [(2,_),(4,_),(6,_),(7,_),(8,_),(9,_),(10,_),(29,_)] ⟨rfl,rfl,rfl,rfl,rfl,rfl,rfl,rfl,trivial⟩ ?_
  by_cases hlt:j < L.length
  · rw [show decide ((j:Int) < (L.length:Int)) = true by simpa using hlt]
    refine WL.yes rfl <| WL.skip <| WL.seq ?_
    have hL:L[j]? = some L[j]:=List.getElem?_eq_getElem hlt
    have hMj:M[j]? = some M[j]:=List.getElem?_eq_getElem (by omega)
    have hYj:Y[j]? = some Y[j]:=List.getElem?_eq_getElem (by omega)
    have hJj:J[j]? = some J[j]:=List.getElem?_eq_getElem (by omega)
    have l1:=limL _ (List.mem_of_getElem? hL)
    have l2:=limM _ (List.mem_of_getElem? hMj)
    generalize L[j] = x at *
    generalize M[j] = y at *
    generalize Y[j] = p at *
    generalize J[j] = r at *
    have hz:(addL L M)[j]? = some (x + y):=zip_get (f:=(· + ·)) hL hMj
    have hw:(bothL Y J)[j]? = some (p && r):=zip_get (f:=(· && ·)) hYj hJj
    refine kto (body52 H f X X2 hn0 (by rw [mix_get lz hlt,hL]) (by rw [mix_get ly (by omega),hYj]) hMj hJj l1 l2 O6 O7 O8 O9 d68 d79 B4 hc4 hc4' ?_ ?_) ⟨rfl,rfl,rfl,rfl,rfl,rfl,rfl,trivial⟩
    · intro g' X3 hok p6 p7 p8 p9 p4
      rw [mix_set lz hz] at p6
      rw [mix_set ly hw] at p7
      refine WL.reg <| WOL.mv rfl <| WOL.bi (v:=zi ((j + 1:Nat):Int)) rfl rfl (by show some (Value.int .i64 (fwrap .i64 ((j:Int) + 1))) = _; rw [fwrap_i64 (by omega) (by omega)]; rfl) ?_
      refine WOL.as rfl <| WOL.nil ?_
      refine fun a q => ⟨L.length - (j + 1),by omega,j + 1,by omega,rfl,X3,fun i z hi h1 h2 => ?_,p6,p7,p8,p9,p4,q.sub ⟨rfl,rfl,rfl,rfl,rfl,rfl,rfl,trivial⟩⟩
      by_cases hij:i = j
      · subst hij
        rw [hz] at h1; rw [hw] at h2
        cases h1
        exact hok (Option.some.inj h2)
      · exact ok i z (by omega) h1 h2
    · intro g' X3 hpr hno p4
      refine Kl g' X3 (fun hk => ?_) p4
      have:=hk j _ hlt hz (by rw [hw,hpr])
      rw [hno] at this
      cases this
  · rw [show decide ((j:Int) < (L.length:Int)) = false by simpa using hlt]
    refine WL.no rfl <| WL.exit ?_
    obtain rfl:j = L.length:=by omega
    rw [List.drop_length,List.append_nil,List.take_of_length_le (by omega)] at O6
    rw [List.drop_of_length_le (by omega),List.append_nil,List.take_of_length_le (by omega)] at O7
    exact kto (K h2 X2 ok O6 O7 B4) ⟨rfl,rfl,rfl,rfl,trivial⟩
end Go.Tidy
namespace Go.Tidy
open Go Go.Proofs Tab
variable {tp:TProg}
def SumR (h h':TH) (v:Value) (s:ByteArray) (n:Int) (Z:List Int) (Y:List Bool) (sh:Bool):Prop :=
  HX h h' ∧ ((sh = false ∧ v = .tuple #[run0,.int .i64 2]) ∨ (sh = true ∧ ¬ okTo Z Y Z.length ∧ v = .tuple #[run0,.int .i64 4]) ∨
    (sh = true ∧ okTo Z Y Z.length ∧ ∃ w1 w2,v = .tuple #[runV s n w1 w2,.int .i64 0] ∧ RunO h.next h' w1 w2 (madeF Z Y) (holesOf Y)))
theorem okTo_lim {L M:List Int} {Y J:List Bool} (dL:Dark L Y) (dM:Dark M J) (hM:M.length = L.length) (limL:∀ x,x ∈ L → x.natAbs ≤ 16384) (limM:∀ x,x ∈ M → x.natAbs ≤ 16384) (ok:okTo (addL L M) (bothL Y J) (addL L M).length):∀ z,z ∈ addL L M → z.natAbs ≤ 16384:=by
 intro z hz
 obtain ⟨i,hi,hzi⟩:=List.getElem_of_mem hz
 have lz:(addL L M).length = L.length:=by simp [addL,hM]
 have dY:=dL.1
 have dJ:=dM.1
 have hx:L[i]? = some L[i]:=List.getElem?_eq_getElem (by omega)
 have hy:M[i]? = some M[i]:=List.getElem?_eq_getElem (by omega)
 have hp:Y[i]? = some Y[i]:=List.getElem?_eq_getElem (by omega)
 have hr:J[i]? = some J[i]:=List.getElem?_eq_getElem (by omega)
 have l1:=limL _ (List.mem_of_getElem? hx)
 have l2:=limM _ (List.mem_of_getElem? hy)
 generalize L[i] = x at *
 generalize M[i] = y at *
 generalize Y[i] = p at *
 generalize J[i] = r at *
 have h1:(addL L M)[i]? = some (x + y):=zip_get (f:=(· + ·)) hx hy
 have h2:(bothL Y J)[i]? = some (p && r):=zip_get (f:=(· && ·)) hp hr
 have h3:(addL L M)[i]? = some z:=by rw [List.getElem?_eq_getElem hi,hzi]
 obtain rfl:=Option.some.inj (h1.symm.trans h3)
 cases p with
 | false => have:=dL.2 i x hx hp; omega
 | true =>
  cases r with
  | false => have:=dM.2 i y hy hr; omega
  | true => exact okI_iff.1 (ok i _ hi h1 h2)
set_option maxHeartbeats 1000000 in
set_option maxRecDepth 10000 in
theorem k52 (H:Has tp) {s s':ByteArray} {n n':Int} {v1 v2 w1 w2:Value} {F G:List Nat} {S T:List (Int × Int)} {L L':List Int} {h:TH} (r:RunH h v1 v2 F S) (r':RunH h w1 w2 G T) (V:Valid s n F S L) (V':Valid s' n' G T L')
  (hS:S.length ≤ 900000) (hT:T.length ≤ 900000) (f:Free0 h.next h) :
  CallW Tryz.prog tp (.func (.func 54) #[] #[]) #[runV s n v1 v2,runV s' n' w1 w2] h fun v h' => SumR h h' v s n (addL L L') (bothL (knownL S F.length) (knownL T G.length)) (shapeB n F.length n' G.length):=by
 refine CallW.fnL (H.fn 54 f52 rfl rfl) ?_
 have Vm:=V.m
 have Vm':=V'.m
 have kl:=V.kl
 have kl':=V'.kl
 have dk:=V.dark
 have dk':=V'.dark
 have ll:=V.lev.1
 have ll':=V'.lev.1
 obtain ⟨bv1,kv1,rfl⟩:=r.f.form
 obtain ⟨bv2,kv2,rfl⟩:=r.s.form
 obtain ⟨bw1,kw1,rfl⟩:=r'.f.form
 obtain ⟨bw2,kw2,rfl⟩:=r'.s.form
 refine WL.sr <| WOL.box rfl fun h1 N1 => ?_
 refine WOL.box rfl fun h2 N2 => ?_
 refine WOL.al tp46 fun h3 N3 => ?_
 have n1:=N1.next
 have n2:=N2.next
 have n3:=N3.next
 have X3:HX h h3:=(N1.hx.trans N2.hx).trans N3.hx
 have A2:=(N1.at_.hx N2.hx).hx N3.hx
 have A3:=N2.at_.hx N3.hx
 have A4:=N3.at_
 refine WOL.as rfl <| WOL.nil <| keep [(2,_),(3,_),(4,_)] ⟨rfl,rfl,rfl,trivial⟩ ?_
 refine WL.seq <| WL.sr <| WOL.ld rfl (load_row tp46 A2 rfl (Nat.le_of_ble_eq_true rfl)) <| WOL.ld rfl (load_row tp46 A3 rfl (Nat.le_of_ble_eq_true rfl)) ?_
 refine WOL.cl2 rfl rfl rfl ((k110 H (s:=s) (s':=s') (n:=n) (n':=n') (r.f.hx X3) (r'.f.hx X3)).mono ?_)
 rintro v h4 ⟨rfl,X4⟩
 have Y4:=X3.trans X4
 refine WOL.nt rfl <| WOL.nil <| keep [(2,_),(3,_),(4,_),(14,_)] ⟨rfl,rfl,rfl,rfl,trivial⟩ ?_
 cases hsh:shapeB n F.length n' G.length with
 | false =>
  refine WL.yes rfl <| WL.sr <| WOL.bd rfl bd46z ?_
  refine WOL.sto rfl rfl tp46 (A4.hx X4) rfl rfl (Nat.le_of_ble_eq_true rfl) rfl (f.hx Y4) (by omega) fun g5 P5 => ?_
  refine WOL.as rfl <| WOL.nil ?_
  exact WL.ret (WL.endC1 (t:=4) (s:=5) rfl rfl (load_row tp46 P5.at_ rfl (Nat.le_of_ble_eq_true rfl)) ⟨P5.hx _ Y4 (by omega),.inl ⟨rfl,rfl⟩⟩)
 | true =>
  have hnm:n' = n ∧ G.length = F.length:=by simp [shapeB] at hsh; omega
  refine WL.no rfl <| WL.skip ?_
  refine WL.sr <| WOL.ld rfl (load_row tp46 (A2.hx X4) rfl (Nat.le_of_ble_eq_true rfl)) ?_
  refine WOL.cl1 rfl rfl ((k96 H (s:=s) (n:=n) (r.hx Y4) V.lev (by omega) (by omega) (f.on Y4)).mono ?_)
  rintro v h5 ⟨w6,w7,rfl,O6,O7,X5⟩
  have Y5:=Y4.trans X5
  refine WOL.mv rfl <| WOL.ex rfl rfl <| WOL.ex rfl rfl <| WOL.as rfl <| WOL.as rfl <| WOL.nil <| keep [(2,_),(3,_),(4,_),(6,_),(7,_)] ⟨rfl,rfl,rfl,rfl,rfl,trivial⟩ ?_
  refine WL.sr <| WOL.ld rfl (load_row tp46 ((A3.hx X4).hx X5) rfl (Nat.le_of_ble_eq_true rfl)) ?_
  refine WOL.cl1 rfl rfl ((k96 H (s:=s') (n:=n') (r'.hx Y5) V'.lev (by omega) (by omega) (f.on Y5)).mono ?_)
  rintro v h6 ⟨w8,w9,rfl,O8,O9,X6⟩
  have Y6:=Y5.trans X6
  refine WOL.mv rfl <| WOL.ex rfl rfl <| WOL.ex rfl rfl <| WOL.as rfl <| WOL.as rfl <| WOL.nil <| keep [(2,_),(4,_),(6,_),(7,_),(8,_),(9,_)] ⟨rfl,rfl,rfl,rfl,rfl,rfl,trivial⟩ ?_
  refine WL.seq <| WL.sr <| WOL.as rfl <| WOL.nil ?_
  refine WL.block ?_
  have x5n:=X5.next
  have x4n:=X4.next
  have C4:=((A4.hx X4).hx X5).hx X6
  have C2:=((A2.hx X4).hx X5).hx X6
  have lz:(addL L L').length = L.length:=by simp [addL]; omega
  have dis:∀ {α:Type} {e1 e2:α → List Value} {a b:Value} {l m:List α} {t u:TypeId},OwnL e1 h4.next h5 a t l → OwnL e2 h5.next h6 b u m → ∀ c,bl a = some c → bl b ≠ some c:=by
   intro _ _ _ _ _ _ _ _ _ p q c h1 h2
   have:=(p.lt h1).2
   have:=(q.lt h2).1
   omega
  refine kto (sum52 H (c2:=h.next) (c4:=h2.next) f (by omega) (by omega) (by omega) (by omega) (lev_lim V.lev) (lev_lim V'.lev) Y4 (X5.trans X6) (Nat.le_refl _) (O6.hx X6) (O7.hx X6) (own_up O8 x5n) (own_up O9 x5n) (dis O6 O8) (dis O7 O9) C4 (by omega) (by omega) ?_ ?_) ⟨rfl,rfl,rfl,rfl,rfl,rfl,rfl,trivial⟩
  ·intro g1 Z1 ok p6 p7 p4
   rw [← lz] at ok
   have W1:=Y4.trans Z1
   have D2:=(A2.hx X4).hx Z1
   have hlim:=okTo_lim dk dk' (by omega) (lev_lim V.lev) (lev_lim V'.lev) ok
   refine WL.sr <| WOL.fa rfl (fa_of fo46_0) <| WOL.ld rfl (load_one tp9 D2 rfl) <| WOL.fa rfl (fa_of fo46_1) <| WOL.ld rfl (load_one tp3 D2 rfl) <| WOL.mv rfl <| WOL.mv rfl ?_
   refine WOL.cl4 rfl rfl rfl rfl rfl ((k97 H (s:=s) (n:=n) (p6.sl eI) (p7.sl eB) (by simp [bothL]; omega) hlim (by omega) (f.on W1)).mono ?_)
   rintro v g2 ⟨q1,q2,rfl,Z2,O2⟩
   have W2:=W1.trans Z2
   have w1n:=W1.next
   have z1n:=Z1.next
   obtain ⟨bo1,k1,rfl⟩:=O2.r.f.form
   obtain ⟨bo2,k2,rfl⟩:=O2.r.s.form
   refine WOL.sto rfl rfl tp46 (p4.hx Z2) rfl rfl (Nat.le_of_ble_eq_true rfl) rfl (f.hx W2) (by omega) fun g3 P3 => ?_
   refine WOL.as rfl <| WOL.nil ?_
   exact WL.ret (WL.endC1 (t:=4) (s:=5) rfl rfl (load_row tp46 P3.at_ rfl (Nat.le_of_ble_eq_true rfl)) ⟨P3.hx _ W2 (by omega),.inr (.inr ⟨rfl,ok,_,_,rfl,(O2.away P3 (by omega)).le (by omega)⟩)⟩)
  ·intro g1 Z1 no p4
   rw [← lz] at no
   exact WL.endC1 (t:=4) (s:=5) rfl rfl (load_row tp46 p4 rfl (Nat.le_of_ble_eq_true rfl)) ⟨Z1,.inr (.inl ⟨rfl,no,rfl⟩)⟩
theorem cellsK_get {L:List Int} {K:List Bool} {i:Nat} {x:Int} {p:Bool} (hx:L[i]? = some x) (hp:K[i]? = some p):(cellsK L K)[i]? = some (if p = true then (x,true) else (0,false)):=by
 unfold cellsK; rw [List.getElem?_zipWith,hx,hp]
theorem cellsK_ln {L:List Int} {K:List Bool} (h:K.length = L.length):(cellsK L K).length = L.length:=by simp [cellsK,h]
theorem sum_cells {L M:List Int} {Y J:List Bool} (hM:M.length = L.length) (hY:Y.length = L.length) (hJ:J.length = L.length):sumC (cellsK L Y) (cellsK M J) = cellsK (addL L M) (bothL Y J):=by
 apply List.ext_getElem?
 intro i
 by_cases hi:i < L.length
 ·have hx:L[i]? = some L[i]:=List.getElem?_eq_getElem (by omega)
  have hy:M[i]? = some M[i]:=List.getElem?_eq_getElem (by omega)
  have hp:Y[i]? = some Y[i]:=List.getElem?_eq_getElem (by omega)
  have hr:J[i]? = some J[i]:=List.getElem?_eq_getElem (by omega)
  have hz:(addL L M)[i]? = some (L[i] + M[i]):=zip_get (f:=(· + ·)) hx hy
  have hw:(bothL Y J)[i]? = some (Y[i] && J[i]):=zip_get (f:=(· && ·)) hp hr
  rw [sumC_get (cellsK_get hx hp) (cellsK_get hy hr),cellsK_get hz hw]
  cases Y[i] <;> cases J[i] <;> rfl
 ·rw [List.getElem?_eq_none (by simp [sumC,cellsK]; omega),List.getElem?_eq_none (by simp [addL,bothL,cellsK]; omega)]
theorem ok_cells {Z:List Int} {Y:List Bool} (h:Y.length = Z.length):allOk (cellsK Z Y) = true ↔ okTo Z Y Z.length:=by
 rw [allOk_iff]
 constructor
 ·intro ok i z hi hz hy
  have:=ok _ (List.mem_of_getElem? (cellsK_get hz hy))
  exact okI_iff.2 this
 ·intro ok c hc
  obtain ⟨i,hi,hci⟩:=List.getElem_of_mem hc
  have hl:=cellsK_ln h
  have hz:Z[i]? = some Z[i]:=List.getElem?_eq_getElem (by omega)
  have hy:Y[i]? = some Y[i]:=List.getElem?_eq_getElem (by omega)
  have:=cellsK_get hz hy
  rw [List.getElem?_eq_getElem hi,hci] at this
  obtain rfl:=Option.some.inj this
  cases hb:Y[i] with
  | false => simp
  | true => rw [hb] at hy; simpa using okI_iff.1 (ok i _ (by omega) hz hy)
end Go.Tidy
namespace Go.Tidy
open Go Go.Proofs Tab
variable {tp:TProg}
theorem cellsL_flat:∀ m:Nat,(List.replicate m [Value.int .i64 0,.bool false]).flatten = cat encC (List.replicate m ((0:Int),false))
 | 0 => rfl
 | m + 1 => by rw [List.replicate_succ,List.replicate_succ,List.flatten_cons,cat_cons,cellsL_flat m]; rfl
theorem sl135:pv Tryz.prog (Instr.sliceAt 162 (.slice none 0 0) none (some (.int .i64 0)) none) = some (.slice none 0 0):=by kernel_rfl
theorem u201:Tryz.prog.underlying 247 = some (.slice 162):=by kernel_rfl
theorem tp135:Tp Tryz.prog 162 1 [.slice none 0 0] false:=tp_of (by kernel_rfl) (by kernel_rfl) rfl
theorem k149 (H:Has tp) {m:Nat} {h:TH} (hm:0 < m) (hm2:m ≤ 1000000) :
  CallW Tryz.prog tp (.func (.func 183) #[] #[]) #[.slice none 0 0,.int .i64 (m:Nat)] h fun v h' => v = .slice (some ⟨h.next,0,none⟩) 0 m ∧ New h h' (.cells (cat encC (List.replicate m ((0:Int),false))) false true 161):=by
 refine CallW.fnL (H.fn 183 f149 rfl rfl) ?_
 refine WL.sr <| WOL.as rfl <| WOL.nil <| keep [(0,_),(1,_)] ⟨rfl,rfl,trivial⟩ ?_
 refine WL.seq <| WL.sr <| WOL.mv rfl <| WOL.bi (v:=.bool (decide ((m:Int) < 0))) rfl rfl rfl ?_
 rw [decide_eq_false (by omega:¬ (m:Int) < 0)]
 refine WOL.nil <| WL.no rfl <| WL.skip ?_
 refine WL.seq <| WL.sr <| WOL.mv rfl <| WOL.mv rfl <| WOL.capN rfl u135 <| WOL.mv rfl <| WOL.lenN rfl u135 ?_
 refine WOL.bi (v:=zi 0) rfl rfl rfl ?_
 refine WOL.bi (v:=zi (m:Nat)) rfl rfl (by show some (Value.int .i64 (fwrap .i64 ((m:Int) - 0))) = _; rw [fwrap_i64 (by omega) (by omega),Int.sub_zero]) ?_
 refine WOL.as rfl <| WOL.nil <| keep [(0,_),(1,_)] ⟨rfl,rfl,trivial⟩ ?_
 refine WL.sr <| WOL.mv rfl <| WOL.bi (v:=.bool (decide ((m:Int) > 0))) rfl rfl rfl ?_
 rw [decide_eq_true (by omega:(m:Int) > 0)]
 refine WOL.nil <| keep [(0,_),(1,_),(16,_)] ⟨rfl,rfl,rfl,trivial⟩ ?_
 refine WL.yes rfl <| WL.reg <| WOL.mv rfl <| WOL.mv rfl <| WOL.capN rfl u135 <| WOL.slN rfl rfl sl135 <| WOL.mv rfl ?_
 have hall:((List.replicate m [Value.int .i64 0,.bool false]).flatten).all oneCell = true:=by rw [cellsL_flat]; exact eC.all _
 refine WOL.ap rfl rfl (append_zeros u135 Tryz.underlying3 tp134 (by decide) hm (by omega) hall) ?_
 have A:At (h.new (.cells (List.replicate m [Value.int .i64 0,.bool false]).flatten false true 161)) h.next (.cells (List.replicate m [Value.int .i64 0,.bool false]).flatten false true 161):=At.new _ _
 refine WOL.mv rfl <| WOL.lenN rfl u135 <| WOL.sl2 rfl rfl (sliceT_head u135 tp134 A) ?_
 refine WOL.as rfl <| WOL.nil <| keep [(0,_)] ⟨rfl,trivial⟩ ?_
 refine WL.sr <| WOL.mv rfl <| WOL.as rfl <| WOL.nil <| keep [(4,_)] ⟨rfl,trivial⟩ ?_
 refine WL.ret (WL.end_ rfl ⟨rfl,?_⟩)
 rw [cellsL_flat]
 exact New.mk' _ _
def lenSum (Cs:List (List (Int × Bool))):Nat:=(Cs.map List.length).sum
theorem lenSum_take {Cs:List (List (Int × Bool))} {i:Nat} {C:List (Int × Bool)} (h:Cs[i]? = some C):lenSum (Cs.take (i + 1)) = lenSum (Cs.take i) + C.length:=by
 unfold lenSum
 rw [take_succ_get h]
 simp
theorem flat_take {Cs:List (List (Int × Bool))} {i:Nat} {C:List (Int × Bool)} (h:Cs[i]? = some C):(Cs.take (i + 1)).flatten = (Cs.take i).flatten ++ C:=by
 rw [take_succ_get h]; simp
theorem flat_len (Cs:List (List (Int × Bool))):Cs.flatten.length = lenSum Cs:=by simp [lenSum,List.length_flatten]
theorem lenSum_le (Cs:List (List (Int × Bool))) (i:Nat):lenSum (Cs.take i) ≤ lenSum Cs:=by
 conv => rhs; rw [← List.take_append_drop i Cs]
 unfold lenSum
 rw [List.map_append,List.sum_append]
 omega
theorem splice_fill (A C:List (Int × Bool)) (m:Nat) (h:A.length + C.length ≤ m):splice (cat encC (A ++ List.replicate (m - A.length) ((0:Int),false))) (A.length * 2) (cat encC C) = cat encC (A ++ C ++ List.replicate (m - (A.length + C.length)) ((0:Int),false)):=by
 have hA:(cat encC A).length = A.length * 2:=eC.cat_len A
 have hC:(cat encC C).length = C.length * 2:=eC.cat_len C
 unfold splice
 rw [hC,cat_append,List.take_append_of_le_length (by omega),List.take_of_length_le (by omega),cat_append,cat_append,List.append_assoc]
 congr 2
 rw [List.drop_append,List.drop_eq_nil_of_le (by omega),hA,List.nil_append,show A.length * 2 + C.length * 2 - A.length * 2 = C.length * 2 by omega,eC.drop,List.drop_replicate]
 congr 2
 omega
structure Rows3 (h:TH) (b:Nat) (Xs:List Value) (Cs:List (List (Int × Bool))):Prop where
 at_:At h b (.cells Xs true true 162)
 len:Xs.length = Cs.length
 sl:∀ (i:Nat) (x:Value) (C:List (Int × Bool)),Xs[i]? = some x → Cs[i]? = some C → SlL encC 2 h x C
theorem Rows3.hx {h h':TH} {b:Nat} {Xs:List Value} {Cs:List (List (Int × Bool))} (r:Rows3 h b Xs Cs) (x:HX h h'):Rows3 h' b Xs Cs:=⟨r.at_.hx x,r.len,fun i y C h1 h2 => (r.sl i y C h1 h2).hx x⟩
set_option maxRecDepth 10000 in
theorem k108 (H:Has tp) {b0:Nat} {Xs:List Value} {Cs:List (List (Int × Bool))} {h:TH} (r:Rows3 h b0 Xs Cs) (hlen:Xs.length ≤ 1000) (hpos:0 < lenSum Cs) (hmax:lenSum Cs ≤ 100000) (f:Free0 h.next h) :
  CallW Tryz.prog tp (.func (.func 124) #[] #[]) #[.slice (some ⟨b0,0,none⟩) Xs.length Xs.length] h fun v h' => ∃ b,v = .slice (some ⟨b,0,none⟩) (lenSum Cs) (lenSum Cs) ∧ h.next ≤ b ∧ At h' b (.cells (cat encC Cs.flatten) false true 161) ∧ HX h h':=by
 have slX:SlC h (.slice (some ⟨b0,0,none⟩) Xs.length Xs.length) 1 Xs.length Xs:=SlC.own (by omega) r.at_
 refine CallW.fnL (H.fn 124 f108 rfl rfl) ?_
 refine WL.sr <| WOL.as rfl <| WOL.nil <| keep [(0,_)] ⟨rfl,trivial⟩ ?_
 refine WL.sr <| WOL.as rfl <| WOL.nil <| keep [(0,_),(3,_)] ⟨rfl,rfl,trivial⟩ ?_
 refine WL.seq <| WL.sr <| WOL.mv rfl <| WOL.len rfl slX u201 <| WOL.mv rfl <| WOL.nil ?_
 refine WL.block ?_
 refine kto (WL.loop (L:=[(0,.slice (some ⟨b0,0,none⟩) Xs.length Xs.length),(3,zi 0),(9,.slice (some ⟨b0,0,none⟩) Xs.length Xs.length),(10,zi Xs.length),(11,zi 0)]) (fun k a h2 => h2 = h ∧ ∃ j:Nat,j ≤ Xs.length ∧ k = Xs.length - j ∧ Kn [(0,.slice (some ⟨b0,0,none⟩) Xs.length Xs.length),(3,zi (lenSum (Cs.take j):Nat)),(9,.slice (some ⟨b0,0,none⟩) Xs.length Xs.length),(10,zi Xs.length),(11,zi (j:Nat))] a) Xs.length (fun a q => ⟨rfl,0,by omega,by omega,q.sub ⟨rfl,rfl,rfl,rfl,rfl,trivial⟩⟩) ?_) ⟨rfl,rfl,rfl,rfl,rfl,trivial⟩
 rintro k a h2 ⟨rfl,j,hj,rfl,q⟩
 refine q.go ?_
 refine WL.sr <| WOL.bi (v:=.bool (decide ((j:Int) < Xs.length))) rfl rfl rfl ?_
 refine WOL.nil <| keep [(0,_),(3,_),(9,_),(10,_),(11,_),(12,_)] ⟨rfl,rfl,rfl,rfl,rfl,rfl,trivial⟩ ?_
 have hrl:=r.len
 by_cases hlt:j < Xs.length
 ·rw [decide_eq_true (Int.ofNat_lt.2 hlt)]
  have hX:Xs[j]? = some Xs[j]:=List.getElem?_eq_getElem hlt
  have hC:Cs[j]? = some Cs[j]:=List.getElem?_eq_getElem (by omega)
  have sx:=r.sl j _ _ hX hC
  have hs:=lenSum_take hC
  have hle:=lenSum_le Cs (j + 1)
  generalize Xs[j] = x at *
  generalize Cs[j] = C at *
  obtain ⟨b,o,cc,fix,wr,el,e1,e2,e3,e4,e5⟩:=slX.at u201 tp135 hlt (k:=.i64)
  have e6:cc[o]? = some x:=by have:=e5 0 (by decide); rw [Nat.add_zero,Nat.mul_one,Nat.add_zero,hX] at this; exact this
  refine WL.seq <| WL.yes rfl <| WL.skip <| WL.seq <| WL.block ?_
  refine WL.sr <| WOL.ix rfl rfl e1 <| WOL.ld rfl (load_one tp135 e2 e6) <| WOL.as rfl <| WOL.nil <| keep [(0,_),(3,_),(5,_),(9,_),(10,_),(11,_)] ⟨rfl,rfl,rfl,rfl,rfl,rfl,trivial⟩ ?_
  refine WL.sr <| WOL.mv rfl <| WOL.mv rfl <| WOL.len rfl sx u135 ?_
  refine WOL.bi (v:=zi ((lenSum (Cs.take (j + 1)):Nat):Int)) rfl rfl (by show some (Value.int .i64 (fwrap .i64 (((lenSum (Cs.take j):Nat):Int) + (C.length:Int)))) = _; rw [fwrap_i64 (by omega) (by omega),hs]; rfl) ?_
  refine WOL.as rfl <| WOL.nil <| keep [(0,_),(3,_),(9,_),(10,_),(11,_)] ⟨rfl,rfl,rfl,rfl,rfl,trivial⟩ ?_
  refine WL.sr <| WOL.mv rfl <| WOL.bi (v:=.bool (decide (((lenSum (Cs.take (j + 1)):Nat):Int) < 0))) rfl rfl rfl ?_
  rw [decide_eq_false (by omega:¬ ((lenSum (Cs.take (j + 1)):Nat):Int) < 0)]
  refine WOL.nil <| WL.no rfl <| WL.skip ?_
  refine WL.reg <| WOL.bi (v:=zi ((j + 1:Nat):Int)) rfl rfl (by show some (Value.int .i64 (fwrap .i64 ((j:Int) + 1))) = _; rw [fwrap_i64 (by omega) (by omega)]; rfl) ?_
  refine WOL.mv rfl <| WOL.nil ?_
  exact fun a q => ⟨Xs.length - (j + 1),by omega,rfl,j + 1,by omega,rfl,q.sub ⟨rfl,rfl,rfl,rfl,rfl,trivial⟩⟩
 ·rw [decide_eq_false (by omega:¬ (j:Int) < (Xs.length:Int))]
  refine WL.seq <| WL.no rfl <| WL.exit ?_
  obtain rfl:j = Xs.length:=by omega
  rw [show Cs.take Xs.length = Cs from List.take_of_length_le (by omega)]
  refine WL.sr <| WOL.mv rfl <| WOL.cl2 rfl rfl rfl ((k149 H hpos (by omega)).mono ?_)
  rintro v h3 ⟨rfl,N3⟩
  refine WOL.as rfl <| WOL.nil <| keep [(0,_),(6,_)] ⟨rfl,rfl,trivial⟩ ?_
  have n3:=N3.next
  refine WL.seq <| WL.sr <| WOL.mv rfl <| WOL.len rfl (slX.hx N3.hx) u201 <| WOL.mv rfl <| WOL.nil ?_
  refine WL.block ?_
  refine kto (WL.loop (L:=[(6,.slice (some ⟨h2.next,0,none⟩) 0 (lenSum Cs)),(25,.slice (some ⟨b0,0,none⟩) Xs.length Xs.length),(26,zi Xs.length),(27,zi 0)]) (fun k a h4 => ∃ j:Nat,j ≤ Xs.length ∧ k = Xs.length - j ∧ HX h2 h4 ∧ At h4 h2.next (.cells (cat encC ((Cs.take j).flatten ++ List.replicate (lenSum Cs - (Cs.take j).flatten.length) ((0:Int),false))) false true 161) ∧
   Kn [(6,.slice (some ⟨h2.next,0,none⟩) (lenSum (Cs.take j)) (lenSum Cs)),(25,.slice (some ⟨b0,0,none⟩) Xs.length Xs.length),(26,zi Xs.length),(27,zi (j:Nat))] a) Xs.length (fun a q => ⟨0,by omega,by omega,N3.hx,N3.at_,q.sub ⟨rfl,rfl,rfl,rfl,trivial⟩⟩) ?_) ⟨rfl,rfl,rfl,rfl,trivial⟩
  rintro k a h4 ⟨j,hj,rfl,X4,A4,q⟩
  refine q.go ?_
  refine WL.sr <| WOL.bi (v:=.bool (decide ((j:Int) < Xs.length))) rfl rfl rfl ?_
  refine WOL.nil <| keep [(6,_),(25,_),(26,_),(27,_),(28,_)] ⟨rfl,rfl,rfl,rfl,rfl,trivial⟩ ?_
  by_cases hlt:j < Xs.length
  ·rw [decide_eq_true (Int.ofNat_lt.2 hlt)]
   have hX:Xs[j]? = some Xs[j]:=List.getElem?_eq_getElem hlt
   have hC:Cs[j]? = some Cs[j]:=List.getElem?_eq_getElem (by omega)
   have sx:=(r.sl j _ _ hX hC).hx X4
   have hs:=lenSum_take hC
   have hfl:=flat_take hC
   have hle:=lenSum_le Cs (j + 1)
   generalize Xs[j] = x at *
   generalize Cs[j] = C at *
   have fl:=flat_len (Cs.take j)
   obtain ⟨b,o,cc,fix,wr,el,e1,e2,e3,e4,e5⟩:=(slX.hx X4).at u201 tp135 hlt (k:=.i64)
   have e6:cc[o]? = some x:=by have:=e5 0 (by decide); rw [Nat.add_zero,Nat.mul_one,Nat.add_zero,hX] at this; exact this
   refine WL.seq <| WL.yes rfl <| WL.skip <| WL.seq <| WL.block ?_
   refine WL.sr <| WOL.ix rfl rfl e1 <| WOL.ld rfl (load_one tp135 e2 e6) <| WOL.as rfl <| WOL.nil <| keep [(6,_),(8,_),(25,_),(26,_),(27,_)] ⟨rfl,rfl,rfl,rfl,rfl,trivial⟩ ?_
   have hcl:(cat encC ((Cs.take j).flatten ++ List.replicate (lenSum Cs - (Cs.take j).flatten.length) ((0:Int),false))).length = lenSum Cs * 2:=by rw [eC.cat_len]; simp [← flat_len] at *; omega
   obtain ⟨h5,ap,P5⟩:=append_into (j:=lenSum (Cs.take j)) (k:=C.length) (cap:=lenSum Cs) (m:=h2.next) u135 tp134 (by decide) A4 hcl sx (by omega) (eC.all C) (f.hx X4) (Nat.le_refl _)
   refine WL.reg <| WOL.mv rfl <| WOL.mv rfl <| WOL.ap rfl rfl ap <| WOL.as rfl <| WOL.nil ?_
   have A5:=P5.at_
   rw [← fl,splice_fill _ _ _ (by omega),← hfl] at A5
   rw [← hs]
   refine WL.reg <| WOL.bi (v:=zi ((j + 1:Nat):Int)) rfl rfl (by show some (Value.int .i64 (fwrap .i64 ((j:Int) + 1))) = _; rw [fwrap_i64 (by omega) (by omega)]; rfl) ?_
   refine WOL.mv rfl <| WOL.nil ?_
   exact fun a q => ⟨Xs.length - (j + 1),by omega,j + 1,by omega,rfl,P5.hx _ X4 (Nat.le_refl _),by rw [hfl,List.length_append,← hfl]; exact A5,q.sub ⟨rfl,rfl,rfl,rfl,trivial⟩⟩
  ·rw [decide_eq_false (by omega:¬ (j:Int) < (Xs.length:Int))]
   refine WL.seq <| WL.no rfl <| WL.exit ?_
   obtain rfl:j = Xs.length:=by omega
   rw [show Cs.take Xs.length = Cs from List.take_of_length_le (by omega),flat_len,Nat.sub_self] at A4
   rw [show Cs.take Xs.length = Cs from List.take_of_length_le (by omega)]
   refine WL.sr <| WOL.mv rfl <| WOL.as rfl <| WOL.nil <| keep [(2,_)] ⟨rfl,trivial⟩ ?_
   exact WL.ret (WL.end_ rfl ⟨h2.next,rfl,Nat.le_refl _,by simpa using A4,X4⟩)
theorem k149z (H:Has tp) {h:TH}:CallW Tryz.prog tp (.func (.func 183) #[] #[]) #[.slice none 0 0,.int .i64 ((0:Nat):Int)] h fun v h' => v = .slice none 0 0 ∧ h' = h:=by
 refine CallW.fnL (H.fn 183 f149 rfl rfl) ?_
 refine WL.sr <| WOL.as rfl <| WOL.nil <| keep [(0,_),(1,_)] ⟨rfl,rfl,trivial⟩ ?_
 refine WL.seq <| WL.sr <| WOL.mv rfl <| WOL.bi (v:=.bool false) rfl rfl rfl ?_
 refine WOL.nil <| WL.no rfl <| WL.skip ?_
 refine WL.seq <| WL.sr <| WOL.mv rfl <| WOL.mv rfl <| WOL.capN rfl u135 <| WOL.mv rfl <| WOL.lenN rfl u135 ?_
 refine WOL.bi (v:=zi 0) rfl rfl rfl ?_
 refine WOL.bi (v:=zi 0) rfl rfl rfl ?_
 refine WOL.as rfl <| WOL.nil <| keep [(0,_),(1,_)] ⟨rfl,rfl,trivial⟩ ?_
 refine WL.sr <| WOL.mv rfl <| WOL.bi (v:=.bool false) rfl rfl rfl ?_
 refine WOL.nil <| keep [(0,_),(1,_),(16,_)] ⟨rfl,rfl,rfl,trivial⟩ ?_
 refine WL.no rfl <| WL.skip ?_
 refine WL.sr <| WOL.mv rfl <| WOL.as rfl <| WOL.nil <| keep [(4,_)] ⟨rfl,trivial⟩ ?_
 exact WL.ret (WL.end_ rfl ⟨rfl,rfl⟩)
set_option maxRecDepth 10000 in
theorem k108z (H:Has tp) {b0:Nat} {Xs:List Value} {Cs:List (List (Int × Bool))} {h:TH} (r:Rows3 h b0 Xs Cs) (hlen:Xs.length ≤ 1000) (hpos:lenSum Cs = 0) :
  CallW Tryz.prog tp (.func (.func 124) #[] #[]) #[.slice (some ⟨b0,0,none⟩) Xs.length Xs.length] h fun v h' => v = .slice none 0 0 ∧ h' = h:=by
 have slX:SlC h (.slice (some ⟨b0,0,none⟩) Xs.length Xs.length) 1 Xs.length Xs:=SlC.own (by omega) r.at_
 refine CallW.fnL (H.fn 124 f108 rfl rfl) ?_
 refine WL.sr <| WOL.as rfl <| WOL.nil <| keep [(0,_)] ⟨rfl,trivial⟩ ?_
 refine WL.sr <| WOL.as rfl <| WOL.nil <| keep [(0,_),(3,_)] ⟨rfl,rfl,trivial⟩ ?_
 refine WL.seq <| WL.sr <| WOL.mv rfl <| WOL.len rfl slX u201 <| WOL.mv rfl <| WOL.nil ?_
 refine WL.block ?_
 refine kto (WL.loop (L:=[(0,.slice (some ⟨b0,0,none⟩) Xs.length Xs.length),(3,zi 0),(9,.slice (some ⟨b0,0,none⟩) Xs.length Xs.length),(10,zi Xs.length),(11,zi 0)]) (fun k a h2 => h2 = h ∧ ∃ j:Nat,j ≤ Xs.length ∧ k = Xs.length - j ∧ Kn [(0,.slice (some ⟨b0,0,none⟩) Xs.length Xs.length),(3,zi (lenSum (Cs.take j):Nat)),(9,.slice (some ⟨b0,0,none⟩) Xs.length Xs.length),(10,zi Xs.length),(11,zi (j:Nat))] a) Xs.length (fun a q => ⟨rfl,0,by omega,by omega,q.sub ⟨rfl,rfl,rfl,rfl,rfl,trivial⟩⟩) ?_) ⟨rfl,rfl,rfl,rfl,rfl,trivial⟩
 rintro k a h2 ⟨rfl,j,hj,rfl,q⟩
 refine q.go ?_
 refine WL.sr <| WOL.bi (v:=.bool (decide ((j:Int) < Xs.length))) rfl rfl rfl ?_
 refine WOL.nil <| keep [(0,_),(3,_),(9,_),(10,_),(11,_),(12,_)] ⟨rfl,rfl,rfl,rfl,rfl,rfl,trivial⟩ ?_
 have hrl:=r.len
 by_cases hlt:j < Xs.length
 ·rw [decide_eq_true (Int.ofNat_lt.2 hlt)]
  have hX:Xs[j]? = some Xs[j]:=List.getElem?_eq_getElem hlt
  have hC:Cs[j]? = some Cs[j]:=List.getElem?_eq_getElem (by omega)
  have sx:=r.sl j _ _ hX hC
  have hs:=lenSum_take hC
  have hle:=lenSum_le Cs (j + 1)
  generalize Xs[j] = x at *
  generalize Cs[j] = C at *
  obtain ⟨b,o,cc,fix,wr,el,e1,e2,e3,e4,e5⟩:=slX.at u201 tp135 hlt (k:=.i64)
  have e6:cc[o]? = some x:=by have:=e5 0 (by decide); rw [Nat.add_zero,Nat.mul_one,Nat.add_zero,hX] at this; exact this
  refine WL.seq <| WL.yes rfl <| WL.skip <| WL.seq <| WL.block ?_
  refine WL.sr <| WOL.ix rfl rfl e1 <| WOL.ld rfl (load_one tp135 e2 e6) <| WOL.as rfl <| WOL.nil <| keep [(0,_),(3,_),(5,_),(9,_),(10,_),(11,_)] ⟨rfl,rfl,rfl,rfl,rfl,rfl,trivial⟩ ?_
  refine WL.sr <| WOL.mv rfl <| WOL.mv rfl <| WOL.len rfl sx u135 ?_
  refine WOL.bi (v:=zi ((lenSum (Cs.take (j + 1)):Nat):Int)) rfl rfl (by show some (Value.int .i64 (fwrap .i64 (((lenSum (Cs.take j):Nat):Int) + (C.length:Int)))) = _; rw [fwrap_i64 (by omega) (by omega),hs]; rfl) ?_
  refine WOL.as rfl <| WOL.nil <| keep [(0,_),(3,_),(9,_),(10,_),(11,_)] ⟨rfl,rfl,rfl,rfl,rfl,trivial⟩ ?_
  refine WL.sr <| WOL.mv rfl <| WOL.bi (v:=.bool (decide (((lenSum (Cs.take (j + 1)):Nat):Int) < 0))) rfl rfl rfl ?_
  rw [decide_eq_false (by omega:¬ ((lenSum (Cs.take (j + 1)):Nat):Int) < 0)]
  refine WOL.nil <| WL.no rfl <| WL.skip ?_
  refine WL.reg <| WOL.bi (v:=zi ((j + 1:Nat):Int)) rfl rfl (by show some (Value.int .i64 (fwrap .i64 ((j:Int) + 1))) = _; rw [fwrap_i64 (by omega) (by omega)]; rfl) ?_
  refine WOL.mv rfl <| WOL.nil ?_
  exact fun a q => ⟨Xs.length - (j + 1),by omega,rfl,j + 1,by omega,rfl,q.sub ⟨rfl,rfl,rfl,rfl,rfl,trivial⟩⟩
 ·rw [decide_eq_false (by omega:¬ (j:Int) < (Xs.length:Int))]
  refine WL.seq <| WL.no rfl <| WL.exit ?_
  obtain rfl:j = Xs.length:=by omega
  rw [show Cs.take Xs.length = Cs from List.take_of_length_le (by omega)]
  rw [hpos]
  refine WL.sr <| WOL.mv rfl <| WOL.cl2 rfl rfl rfl ((k149z H).mono ?_)
  rintro v h2 ⟨rfl,rfl⟩
  refine WOL.as rfl <| WOL.nil <| keep [(0,_),(6,_)] ⟨rfl,rfl,trivial⟩ ?_
  refine WL.seq <| WL.sr <| WOL.mv rfl <| WOL.len rfl slX u201 <| WOL.mv rfl <| WOL.nil ?_
  refine WL.block ?_
  refine kto (WL.loop (L:=[(6,.slice none 0 0),(25,.slice (some ⟨b0,0,none⟩) Xs.length Xs.length),(26,zi Xs.length),(27,zi 0)]) (fun k a h4 => h4 = h2 ∧ ∃ j:Nat,j ≤ Xs.length ∧ k = Xs.length - j ∧
   Kn [(6,.slice none 0 0),(25,.slice (some ⟨b0,0,none⟩) Xs.length Xs.length),(26,zi Xs.length),(27,zi (j:Nat))] a) Xs.length (fun a q => ⟨rfl,0,by omega,by omega,q.sub ⟨rfl,rfl,rfl,rfl,trivial⟩⟩) ?_) ⟨rfl,rfl,rfl,rfl,trivial⟩
  rintro k a h4 ⟨rfl,j,hj,rfl,q⟩
  refine q.go ?_
  refine WL.sr <| WOL.bi (v:=.bool (decide ((j:Int) < Xs.length))) rfl rfl rfl ?_
  refine WOL.nil <| keep [(6,_),(25,_),(26,_),(27,_),(28,_)] ⟨rfl,rfl,rfl,rfl,rfl,trivial⟩ ?_
  by_cases hlt:j < Xs.length
  ·rw [decide_eq_true (Int.ofNat_lt.2 hlt)]
   have hX:Xs[j]? = some Xs[j]:=List.getElem?_eq_getElem hlt
   have hC:Cs[j]? = some Cs[j]:=List.getElem?_eq_getElem (by omega)
   have sx:=r.sl j _ _ hX hC
   have hs:=lenSum_take hC
   have hle:=lenSum_le Cs (j + 1)
   generalize Xs[j] = x at *
   generalize Cs[j] = C at *
   obtain ⟨b,o,cc,fix,wr,el,e1,e2,e3,e4,e5⟩:=slX.at u201 tp135 hlt (k:=.i64)
   have e6:cc[o]? = some x:=by have:=e5 0 (by decide); rw [Nat.add_zero,Nat.mul_one,Nat.add_zero,hX] at this; exact this
   obtain rfl:C = []:=List.eq_nil_of_length_eq_zero (by omega)
   refine WL.seq <| WL.yes rfl <| WL.skip <| WL.seq <| WL.block ?_
   refine WL.sr <| WOL.ix rfl rfl e1 <| WOL.ld rfl (load_one tp135 e2 e6) <| WOL.as rfl <| WOL.nil <| keep [(6,_),(8,_),(25,_),(26,_),(27,_)] ⟨rfl,rfl,rfl,rfl,rfl,trivial⟩ ?_
   refine WL.reg <| WOL.mv rfl <| WOL.mv rfl <| WOL.ap rfl rfl (append_none (m:=0) (cap:=0) u135 tp134 sx (by omega)) <| WOL.as rfl <| WOL.nil ?_
   refine WL.reg <| WOL.bi (v:=zi ((j + 1:Nat):Int)) rfl rfl (by show some (Value.int .i64 (fwrap .i64 ((j:Int) + 1))) = _; rw [fwrap_i64 (by omega) (by omega)]; rfl) ?_
   refine WOL.mv rfl <| WOL.nil ?_
   exact fun a q => ⟨Xs.length - (j + 1),by omega,rfl,j + 1,by omega,rfl,q.sub ⟨rfl,rfl,rfl,rfl,trivial⟩⟩
  ·rw [decide_eq_false (by omega:¬ (j:Int) < (Xs.length:Int))]
   refine WL.seq <| WL.no rfl <| WL.exit ?_
   refine WL.sr <| WOL.mv rfl <| WOL.as rfl <| WOL.nil <| keep [(2,_)] ⟨rfl,trivial⟩ ?_
   exact WL.ret (WL.end_ rfl ⟨rfl,rfl⟩)
theorem k108' (H:Has tp) {b0:Nat} {Xs:List Value} {Cs:List (List (Int × Bool))} {h:TH} (r:Rows3 h b0 Xs Cs) (hlen:Xs.length ≤ 1000) (hmax:lenSum Cs ≤ 100000) (f:Free0 h.next h) :
  CallW Tryz.prog tp (.func (.func 124) #[] #[]) #[.slice (some ⟨b0,0,none⟩) Xs.length Xs.length] h fun v h' => SlL encC 2 h' v Cs.flatten ∧ HX h h':=by
 by_cases h0:lenSum Cs = 0
 ·refine (k108z H r hlen h0).mono ?_
  rintro v h' ⟨rfl,rfl⟩
  have:Cs.flatten = []:=List.eq_nil_of_length_eq_zero (by rw [flat_len,h0])
  rw [this]
  exact ⟨SlL.nil,HX.refl _⟩
 ·refine (k108 H r hlen (by omega) hmax f).mono ?_
  rintro v h' ⟨b,rfl,_,hb,hx⟩
  exact ⟨SlL.own eC hb (flat_len Cs),hx⟩
end Go.Tidy
namespace Go.Tidy
open Go Go.Proofs Tab
variable {tp:TProg}
theorem Rows3.relock {h:TH} {b:Nat} {Xs:List Value} {Cs:List (List (Int × Bool))} (r:Rows3 h b Xs Cs) (M:List Nat):Rows3 (h.withLock M) b Xs Cs:=⟨r.at_.relock M,r.len,fun i y C h1 h2 => (r.sl i y C h1 h2).relock M⟩
theorem filled_v3 {z a b c:Value} (ha:a.cells = #[a]) (hb:b.cells = #[b]) (hc:c.cells = #[c]):filled 1 3 [z] [(0,a),(1,b),(2,c)] = some [a,b,c]:=by simp [filled,zeros,Instr.fill,ha,hb,hc]
def joinE (n:Int) (m:Nat) (n':Int) (m':Nat):Int:=firstNZ [cond (decide (n' < n + m)) 11 0,cond (decide (n' + m' - n > 4096)) 5 0]
def joinErr (E1 E2 n:Int) (m:Nat) (n':Int) (m':Nat):Int:=cond (firstNZ [E1,E2] != 0) (firstNZ [E1,E2]) (joinE n m n' m')
theorem joinE_zero {n n':Int} {m m':Nat} (h:joinE n m n' m' = 0):n + m ≤ n' ∧ n' + m' - n ≤ 4096:=by
 have z:=firstNZ_zero h
 have h1:=z _ (List.mem_cons_self ..)
 have h2:=z (cond (decide (n' + m' - n > 4096)) 5 0) (by simp)
 by_cases c1:n' < n + m
 ·rw [decide_eq_true c1] at h1; cases h1
 ·by_cases c2:n' + m' - n > 4096
  ·rw [decide_eq_true c2] at h2; cases h2
  ·omega
def joinC (n n':Int) (C D:List (Int × Bool)):List (Int × Bool):=[C,List.replicate (n' - (n + C.length)).toNat ((0:Int),false),D].flatten
set_option maxHeartbeats 1000000 in
set_option maxRecDepth 10000 in
theorem k49 (H:Has tp) (X:HasX tp) {s s':ByteArray} {n n':Int} {v1 v2 w1 w2:Value} {F G:List Nat} {S T:List (Int × Int)} {es L es' L':List Int} {h:TH} (r:RunH h v1 v2 F S) (r':RunH h w1 w2 G T) (hE:SErr F es) (hL:firstNZ es = 0 → Lev F L) (hE':SErr G es') (hL':firstNZ es' = 0 → Lev G L')
    (hF:F.length ≤ 900000) (hS:S.length ≤ 900000) (hG:G.length ≤ 900000) (hT:T.length ≤ 900000) (f:Free0 h.next h) :
    CallW Tryz.prog tp (.func (.func 51) #[] #[]) #[runV s n v1 v2,runV s' n' w1 w2] h fun v h' => RunR h h' v s n (joinC n n' (cellsL L S) (cellsL L' T)) (joinErr (runE s n F.length S es L) (runE s' n' G.length T es' L') n F.length n' G.length):=by
  refine CallW.fnL (H.fn 51 f49 rfl rfl) ?_
  obtain ⟨bv1,kv1,rfl⟩:=r.f.form
  obtain ⟨bv2,kv2,rfl⟩:=r.s.form
  obtain ⟨bw1,kw1,rfl⟩:=r'.f.form
  obtain ⟨bw2,kw2,rfl⟩:=r'.s.form
  refine WL.sr <| WOL.box rfl fun h1 N1 => ?_
  refine WOL.box rfl fun h2 N2 => ?_
  refine WOL.al tp52 fun h3 N3 => ?_
  have n1:=N1.next
  have n2:=N2.next
  have n3:=N3.next
  have X3:HX h h3:=(N1.hx.trans N2.hx).trans N3.hx
  have A2:=(N1.at_.hx N2.hx).hx N3.hx
  have A3:=N2.at_.hx N3.hx
  have A4:=N3.at_
  refine WOL.as rfl <| WOL.nil <| keep [(2,_),(3,_),(4,_)] ⟨rfl,rfl,rfl,trivial⟩ ?_
  refine WL.seq <| WL.sr <| WOL.ld rfl (load_row tp52 A2 rfl (Nat.le_of_ble_eq_true rfl)) <| WOL.ld rfl (load_row tp52 A3 rfl (Nat.le_of_ble_eq_true rfl)) ?_
  refine WOL.lq1 [h1.next] rfl rfl rfl fun M hM => ((k41 H X (s:=s) (n:=n) ((r.hx X3).relock' M) hE hL (by omega) (by omega) ((f.on X3).held hM (fun b hb => by simp at hb; omega))).mono ?_)
  rintro v h4 ⟨rfl,X4⟩
  replace X4:=X4.relock
  generalize h4.withLock h3.lock = h4 at *
  have Y4:=X3.trans X4
  refine WOL.cl1 rfl rfl ((k41 H X (s:=s') (n:=n') (r'.hx Y4) hE' hL' (by omega) (by omega) (f.on Y4)).mono ?_)
  rintro v h5 ⟨rfl,X5⟩
  have Y5:=Y4.trans X5
  refine WOL.bsl rfl u166 tp30 (by decide) (by decide) (by decide) (filled_ints _ _) fun h8 N8 => ?_
  refine WOL.cl1 rfl rfl ((k71 H (l:=[_,_]) N8.at_.get (by simp)).mono ?_)
  rintro v h8 ⟨rfl,rfl⟩
  have Y8:=Y5.trans N8.hx
  have Z8:=(X4.trans X5).trans N8.hx
  replace A2:=A2.hx Z8
  replace A3:=A3.hx Z8
  replace A4:=A4.hx Z8
  have lt4:=A4.lt
  have z8:=Z8.next
  generalize hE1:runE s n F.length S es L = E1
  generalize hE2:runE s' n' G.length T es' L' = E2
  refine WOL.as rfl <| WOL.nil <| keep [(2,_),(3,_),(4,_),(6,_)] ⟨rfl,rfl,rfl,rfl,trivial⟩ ?_
  refine WL.sr <| WOL.mv rfl <| WOL.bi rfl rfl nzero <| WOL.nil <| keep [(2,_),(3,_),(4,_),(6,_),(16,_)] ⟨rfl,rfl,rfl,rfl,rfl,trivial⟩ ?_
  rcases nz_cases (firstNZ [E1,E2]) with h0 | h0
  · have hje:joinErr E1 E2 n F.length n' G.length = joinE n F.length n' G.length:=by unfold joinErr; rw [h0]; rfl
    rw [hje,h0]
    have z1:E1 = 0:=firstNZ_zero h0 _ (by simp)
    have z2:E2 = 0:=firstNZ_zero h0 _ (by simp)
    have V:=valid_of hL (hE1.trans z1)
    have V':=valid_of hL' (hE2.trans z2)
    have Vm:=V.m
    have Vm':=V'.m
    have V0:=V.n0
    have V1:=V.n1
    have V0':=V'.n0
    have V1':=V'.n1
    have hcl:(cellsL L S).length = F.length:=cells_len V.lev V.in_
    have hcl':(cellsL L' T).length = G.length:=cells_len V'.lev V'.in_
    have lim:=cells_lim V.lev S
    have lim':=cells_lim V'.lev T
    refine WL.no rfl <| WL.skip ?_
    refine WL.sr <| WOL.fa rfl (fa_of fo52_1) <| WOL.ld rfl (load_one tp3 A3 rfl) <| WOL.ld rfl (load_row tp52 A2 rfl (Nat.le_of_ble_eq_true rfl)) <| WOL.ld rfl (load_row tp52 A3 rfl (Nat.le_of_ble_eq_true rfl)) <| WOL.fa rfl (fa_of fo52_1) <| WOL.ld rfl (load_one tp3 A2 rfl) ?_
    refine WOL.lk1 rfl rfl fun M => ((k84 H (s:=s) (n:=n) ((r.f.hx Y8).relock M) V0 (by omega) (by omega)).mono ?_)
    rintro v g1 ⟨rfl,X9⟩
    replace X9:=X9.relock
    generalize g1.withLock h8.lock = g1 at *
    have Y9:=Y8.trans X9
    refine WOL.bi (v:=.bool (decide (n' < n + F.length))) rfl rfl rfl ?_
    refine WOL.lk2 rfl rfl rfl fun M => ((k77 H _ _ _).mono ?_)
    rintro v g2 ⟨rfl,rfl⟩
    rw [TH.relock]
    refine WOL.lk1 rfl rfl fun M => ((k84 H (s:=s') (n:=n') ((r'.f.hx Y9).relock M) V0' (by omega) (by omega)).mono ?_)
    rintro v g2 ⟨rfl,X10⟩
    replace X10:=X10.relock
    generalize g2.withLock g1.lock = g2 at *
    have Y10:=Y9.trans X10
    refine WOL.bi (v:=zi (n' + G.length - n)) rfl rfl (by show some (Value.int .i64 (fwrap .i64 (n' + G.length - n))) = _; rw [fwrap_i64 (by omega) (by omega)]) ?_
    refine WOL.bi (v:=.bool (decide (n' + G.length - n > 4096))) rfl rfl rfl ?_
    refine WOL.cl2 rfl rfl rfl ((k77 H _ _ _).mono ?_)
    rintro v g2 ⟨rfl,rfl⟩
    refine WOL.bsl rfl u166 tp30 (by decide) (by decide) (by decide) (filled_ints _ _) fun g3 N11 => ?_
    refine WOL.cl1 rfl rfl ((k71 H (l:=[_,_]) N11.at_.get (by simp)).mono ?_)
    rintro v g3 ⟨rfl,rfl⟩
    have Y11:=Y10.trans N11.hx
    have Z11:=(X9.trans X10).trans N11.hx
    replace A2:=A2.hx Z11
    replace A3:=A3.hx Z11
    replace A4:=A4.hx Z11
    have lt4':=A4.lt
    generalize hJ:firstNZ [cond (decide (n' < n + F.length)) 11 0,cond (decide (n' + G.length - n > 4096)) 5 0] = J
    have hJ':joinE n F.length n' G.length = J:=hJ
    rw [hJ']
    refine WOL.as rfl <| WOL.nil <| keep [(2,_),(3,_),(4,_),(7,_)] ⟨rfl,rfl,rfl,rfl,trivial⟩ ?_
    refine WL.seq <| WL.sr <| WOL.mv rfl <| WOL.bi rfl rfl nzero <| WOL.nil <| keep [(2,_),(3,_),(4,_),(7,_),(35,_)] ⟨rfl,rfl,rfl,rfl,rfl,trivial⟩ ?_
    rcases nz_cases J with j0 | j0
    · rw [j0]
      obtain ⟨q1,q2⟩:=joinE_zero (hJ'.trans j0)
      refine WL.no rfl <| WL.skip ?_
      obtain ⟨g,hg⟩:∃ g:Nat,n' - (n + F.length) = (g:Int):=⟨(n' - (n + F.length)).toNat,by omega⟩
      refine WL.sr <| WOL.fa rfl (fa_of fo52_1) <| WOL.ld rfl (load_one tp3 A3 rfl) <| WOL.ld rfl (load_row tp52 A2 rfl (Nat.le_of_ble_eq_true rfl)) ?_
      refine WOL.lk1 rfl rfl fun M => ((k84 H (s:=s) (n:=n) ((r.f.hx Y11).relock M) V0 (by omega) (by omega)).mono ?_)
      rintro v g4 ⟨rfl,X12⟩
      replace X12:=X12.relock
      generalize g4.withLock g3.lock = g4 at *
      have Y12:=Y11.trans X12
      refine WOL.bi (v:=zi (g:Nat)) rfl rfl (by show some (Value.int .i64 (fwrap .i64 (n' - (n + F.length)))) = _; rw [fwrap_i64 (by omega) (by omega),hg]) ?_
      refine WOL.ms rfl rfl u135 tp134 (by decide) (by omega) fun g5 N13 => WOL.as rfl <| WOL.nil <| keep [(2,_),(3,_),(4,_),(8,_)] ⟨rfl,rfl,rfl,rfl,trivial⟩ ?_
      have Y13:=Y12.trans N13.hx
      have B8:=N13.at_
      rw [cellsL_flat] at B8
      have n13:=N13.next
      have Z13:=X12.trans N13.hx
      replace A2:=A2.hx Z13
      replace A3:=A3.hx Z13
      replace A4:=A4.hx Z13
      refine WL.sr <| WOL.fa rfl (fa_of fo52_0) <| WOL.ld rfl (load_one tp9 A2 rfl) <| WOL.fa rfl (fa_of fo52_1) <| WOL.ld rfl (load_one tp3 A2 rfl) <| WOL.ld rfl (load_row tp52 A2 rfl (Nat.le_of_ble_eq_true rfl)) <| WOL.mv rfl <| WOL.ld rfl (load_row tp52 A3 rfl (Nat.le_of_ble_eq_true rfl)) ?_
      have y13:=Y13.next
      refine WOL.lq1 [h1.next,h.next,h.next] rfl rfl rfl fun M hM => ((k85 H (s:=s) (n:=n) ((r.hx Y13).relock' M) V.lev (by omega) (by omega) V.in_ ((f.on Y13).held hM (fun b hb => by simp at hb; have:=A2.lt; have:=A3.lt; omega))).mono ?_)
      rintro v g6 ⟨b6,rfl,o6,B6,X14⟩
      replace B6:=B6.relock g5.lock
      replace X14:=X14.relock
      replace o6:g5.next ≤ b6:=o6
      generalize g6.withLock g5.lock = g6 at *
      have Y14:=Y13.trans X14
      have y14:=X14.next
      refine WOL.lq1 [h.next,h.next] rfl rfl rfl fun M hM => ((k85 H (s:=s') (n:=n') ((r'.hx Y14).relock' M) V'.lev (by omega) (by omega) V'.in_ ((f.on Y14).held hM (fun b hb => by simp at hb; have:=A2.lt; omega))).mono ?_)
      rintro v g7 ⟨b7,rfl,o7,B7,X15⟩
      replace B7:=B7.relock g6.lock
      replace X15:=X15.relock
      generalize g7.withLock g6.lock = g7 at *
      have Y15:=Y14.trans X15
      refine WOL.bsl rfl u201 tp135 (by decide) (by decide) (by decide) (filled_v3 rfl rfl rfl) fun g8 N16 => ?_
      have Y16:=Y15.trans N16.hx
      have y16:=Y16.next
      have R3:Rows3 g8 g7.next [.slice (some ⟨b6,0,none⟩) F.length F.length,.slice (some ⟨g4.next,0,none⟩) g g,.slice (some ⟨b7,0,none⟩) G.length G.length] [cellsL L S,List.replicate g ((0:Int),false),cellsL L' T]:=by
        refine ⟨N16.at_,rfl,fun i x C h1 h2 => ?_⟩
        match i,h1,h2 with
        | 0,h1,h2 => cases h1; cases h2; exact SlL.own eC ((B6.hx X15).hx N16.hx) hcl
        | 1,h1,h2 => cases h1; cases h2; exact SlL.own eC (((B8.hx X14).hx X15).hx N16.hx) (by simp)
        | 2,h1,h2 => cases h1; cases h2; exact SlL.own eC (B7.hx N16.hx) hcl'
      have hls:lenSum [cellsL L S,List.replicate g ((0:Int),false),cellsL L' T] = F.length + g + G.length:=by simp [lenSum,hcl,hcl']; omega
      refine WOL.lq1 [h.next,h.next] rfl rfl rfl fun M hM => ((k108' H (R3.relock M) (by simp) (by omega) ((f.on Y16).held hM (fun b hb => by simp at hb; have:=A2.lt; have:=X14.next; have:=X15.next; have:=N16.next; omega))).mono ?_)
      rintro v g9 ⟨B9,X17⟩
      replace B9:=B9.relock g8.lock
      replace X17:=X17.relock
      generalize g9.withLock g8.lock = g9 at *
      have Y17:=Y16.trans X17
      have hjc:joinC n n' (cellsL L S) (cellsL L' T) = [cellsL L S,List.replicate g ((0:Int),false),cellsL L' T].flatten:=by
        unfold joinC; rw [hcl,hg,Int.toNat_natCast]
      rw [hjc]
      have hfl:=flat_len [cellsL L S,List.replicate g ((0:Int),false),cellsL L' T]
      have hlim:∀ c,c ∈ [cellsL L S,List.replicate g ((0:Int),false),cellsL L' T].flatten → c.1.natAbs ≤ 16384:=by
        intro c hc
        simp only [List.mem_flatten,List.mem_cons,List.not_mem_nil,or_false] at hc
        obtain ⟨l,rfl | rfl | rfl,hc⟩:=hc
        · exact lim c hc
        · rw [(List.mem_replicate.1 hc).2]; decide
        · exact lim' c hc
      generalize [cellsL L S,List.replicate g ((0:Int),false),cellsL L' T].flatten = CC at *
      refine WOL.cl3 rfl rfl rfl rfl ((k89 H (s:=s) (n:=n) B9 hlim (by omega) (f.on Y17)).mono ?_)
      rintro v g10 ⟨q3,q4,rfl,X18,O18⟩
      have Y18:=Y17.trans X18
      have y17:=Y17.next
      have z17:=((X14.trans X15).trans N16.hx).trans (X17.trans X18)
      have x1:=(((X14.trans X15).trans N16.hx).trans X17).next
      obtain ⟨bo1,k1,rfl⟩:=O18.r.f.form
      obtain ⟨bo2,k2,rfl⟩:=O18.r.s.form
      have lt5:=A4.lt
      refine WOL.sto rfl rfl tp52 (A4.hx z17) rfl rfl (Nat.le_of_ble_eq_true rfl) rfl (f.hx Y18) (by omega) fun g11 P19 => ?_
      refine WOL.as rfl <| WOL.nil ?_
      exact WL.ret (WL.endC1 (t:=4) (s:=5) rfl rfl (load_row tp52 P19.at_ rfl (Nat.le_of_ble_eq_true rfl)) ⟨P19.hx _ Y18 (by omega),.inr ⟨rfl,_,_,rfl,(O18.away P19 (by omega)).le (by omega)⟩⟩)
    · rw [j0]
      refine WL.yes rfl <| WL.sr <| WOL.bd rfl bd52z <| WOL.mv rfl ?_
      refine WOL.sto rfl rfl tp52 A4 rfl rfl (Nat.le_of_ble_eq_true rfl) rfl (f.hx Y11) (by omega) fun g5 P5 => ?_
      refine WOL.as rfl <| WOL.nil ?_
      exact WL.ret (WL.endC1 (t:=4) (s:=5) rfl rfl (load_row tp52 P5.at_ rfl (Nat.le_of_ble_eq_true rfl)) ⟨P5.hx _ Y11 (by omega),.inl ⟨by simpa using j0,rfl⟩⟩)
  · have hje:joinErr E1 E2 n F.length n' G.length = firstNZ [E1,E2]:=by unfold joinErr; rw [h0]; rfl
    rw [hje,h0]
    refine WL.yes rfl <| WL.sr <| WOL.bd rfl bd52z <| WOL.mv rfl ?_
    refine WOL.sto rfl rfl tp52 A4 rfl rfl (Nat.le_of_ble_eq_true rfl) rfl (f.hx Y8) (by omega) fun g5 P5 => ?_
    refine WOL.as rfl <| WOL.nil ?_
    exact WL.ret (WL.endC1 (t:=4) (s:=5) rfl rfl (load_row tp52 P5.at_ rfl (Nat.le_of_ble_eq_true rfl)) ⟨P5.hx _ Y8 (by omega),.inl ⟨by simpa using h0,rfl⟩⟩)
end Go.Tidy
namespace Go.Tidy
open Go Go.Proofs Tab
variable {tp:TProg}
section
variable {P:Program} {α:Type} {enc:α → List Value} {n n0:Nat} {h:TH} {v:Value} {e:TypeId} {l:List α} {z:List Value} {row:Bool}
theorem own_lock (o:OwnL enc n0 h v e l) (M:List Nat):OwnL enc n0 (h.withLock M) v e l:=o.imp id fun ⟨h0,b,h1,h2,h3⟩ => ⟨h0,b,h1,h2,h3.relock M⟩
theorem own_cat {sT:TypeId} {v2:Value} {m:List α} (E:Enc enc n) (hn:0 < n) (hu:P.underlying sT = some (.slice e)) (he:Tp P e n z row) (o:OwnL enc n0 h v e l) (s2:SlL enc n h v2 m) (f:Free0 n0 h) (hl:l.length + m.length ≤ 1000000) (hn0:n0 ≤ h.next) :
  ∃ v' h',appendT P #[sT,sT] #[v,v2] h = some (v',h') ∧ SlL enc n h' v' (l ++ m) ∧ (∀ h0,HX h0 h → h0.next ≤ n0 → HX h0 h') ∧ (∀ c y,bl v ≠ some c → At h c y → At h' c y) ∧ h.next ≤ h'.next ∧ ∀ c,bl v' = some c → bl v = some c ∨ h.next ≤ c:=by
 by_cases hm:m = []
 ·subst hm
  rw [List.append_nil]
  rcases o with ⟨rfl,rfl⟩ | ⟨hne,b,rfl,h2,h3⟩
  ·exact ⟨_,_,append_none (m:=0) (cap:=0) hu he s2 (Nat.le_refl _),SlL.nil,fun _ x _ => x,fun _ _ _ a => a,Nat.le_refl _,fun c hc => .inl hc⟩
  ·exact ⟨_,_,append_none hu he s2 (Nat.le_refl _),SlL.own E h3 rfl,fun _ x _ => x,fun _ _ _ a => a,Nat.le_refl _,fun c hc => .inl hc⟩
 ·have hpos:0 < m.length:=List.length_pos_iff.2 hm
  rcases o with ⟨rfl,rfl⟩ | ⟨hne,b,rfl,h2,h3⟩
  ·refine ⟨_,_,append_first hu he s2 hpos (by omega) (E.all m),?_,fun h0 hx hb => hx.trans (HX.new _ _),fun c y _ ha => ha.hx (HX.new _ _),Nat.le_succ _,fun c hc => .inr (by cases hc; exact Nat.le_refl _)⟩
   rw [List.nil_append]
   exact SlL.own E (At.new _ _) rfl
  ·refine ⟨_,_,append_more hu he h3 (E.cat_len l) s2 hpos (by omega) (E.all m) f h2,?_,fun h0 hx hb => (hx.upd (by omega) _).trans (HX.new _ _),fun c y hc ha => (ha.upd (fun e => hc (by rw [e]; rfl))).hx (HX.new _ _),Nat.le_succ _,fun c hc => .inr (by cases hc; exact Nat.le_refl _)⟩
   rw [← cat_append]
   exact SlL.own E (At.new (h.upd b .dead) _) (by simp)
theorem slC_keep {h h':TH} {v:Value} {sz m:Nat} {c:List Value} (s:SlC h v sz m c) (k:∀ b y,bl v = some b → At h b y → At h' b y):SlC h' v sz m c:=by
 obtain ⟨bo,cap,rfl,h2,h3,h4⟩:=s
 exact ⟨bo,cap,rfl,h2,h3,h4.imp id fun ⟨b,off,cc,fix,wr,el,q1,q2,q3,q4⟩ => by subst q1; exact ⟨b,off,cc,fix,wr,el,rfl,k b _ rfl q2,q3,q4⟩⟩
theorem HX.locked {h h':TH} (x:HX h h') (M:List Nat):HX (h.withLock M) (h'.withLock M):=⟨x.next,x.floor,rfl,x.old⟩
theorem HX.unlock {h h' g:TH} {M:List Nat} (x:HX (h.withLock M) g) (hl:h'.lock = h.lock):HX h (g.withLock h'.lock):=by rw [hl]; exact x.relock
end
def JoinR (h h':TH) (v:Value) (s:ByteArray) (n:Int) (Z:List Int) (Y:List Bool) (e:Int):Prop :=
 HX h h' ∧ ((e ≠ 0 ∧ v = .tuple #[run0,.int .i64 e]) ∨ (e = 0 ∧ ∃ w1 w2,v = .tuple #[runV s n w1 w2,.int .i64 0] ∧ RunO h.next h' w1 w2 (madeF Z Y) (holesOf Y)))
set_option maxHeartbeats 1000000 in
set_option maxRecDepth 10000 in
theorem k51 (H:Has tp) {s s':ByteArray} {n n':Int} {v1 v2 w1 w2:Value} {F G:List Nat} {S T:List (Int × Int)} {L L':List Int} {h:TH} (r:RunH h v1 v2 F S) (r':RunH h w1 w2 G T) (V:Valid s n F S L) (V':Valid s' n' G T L')
    (hS:S.length ≤ 900000) (hT:T.length ≤ 900000) (f:Free0 h.next h) :
    CallW Tryz.prog tp (.func (.func 53) #[] #[]) #[runV s n v1 v2,runV s' n' w1 w2] h fun v h' => JoinR h h' v s n (L ++ List.replicate (n' - (n + F.length)).toNat 0 ++ L') (knownL S F.length ++ List.replicate (n' - (n + F.length)).toNat false ++ knownL T G.length) (joinE n F.length n' G.length):=by
  refine CallW.fnL (H.fn 53 f51 rfl rfl) ?_
  have Vm:=V.m
  have Vm':=V'.m
  have V0:=V.n0
  have V1:=V.n1
  have V0':=V'.n0
  have V1':=V'.n1
  have kl:=V.kl
  have kl':=V'.kl
  have ll:=V.lev.1
  have ll':=V'.lev.1
  obtain ⟨bv1,kv1,rfl⟩:=r.f.form
  obtain ⟨bv2,kv2,rfl⟩:=r.s.form
  obtain ⟨bw1,kw1,rfl⟩:=r'.f.form
  obtain ⟨bw2,kw2,rfl⟩:=r'.s.form
  refine WL.sr <| WOL.box rfl fun h1 N1 => ?_
  refine WOL.box rfl fun h2 N2 => ?_
  refine WOL.al tp46 fun h3 N3 => ?_
  have n1:=N1.next
  have n2:=N2.next
  have n3:=N3.next
  have X3:HX h h3:=(N1.hx.trans N2.hx).trans N3.hx
  have A2:=(N1.at_.hx N2.hx).hx N3.hx
  have A3:=N2.at_.hx N3.hx
  have A4:=N3.at_
  refine WOL.as rfl <| WOL.nil <| keep [(2,_),(3,_),(4,_)] ⟨rfl,rfl,rfl,trivial⟩ ?_
  refine WL.seq <| WL.sr <| WOL.fa rfl (fa_of fo46_1) <| WOL.ld rfl (load_one tp3 A3 rfl) <| WOL.ld rfl (load_row tp46 A2 rfl (Nat.le_of_ble_eq_true rfl)) ?_
  refine WOL.lk1 rfl rfl fun M => ((k33 H (s:=s) (n:=n) ((r.f.hx X3).relock M) V0 (by omega) (by omega)).mono ?_)
  rintro v h4 ⟨rfl,X4⟩
  replace X4:=X4.relock
  generalize h4.withLock h3.lock = h4 at *
  have Y4:=X3.trans X4
  have B2:=A2.hx X4
  have B3:=A3.hx X4
  have B4:=A4.hx X4
  have x4n:=X4.next
  have hje:joinE n F.length n' G.length = cond (decide (n' < n + F.length)) 11 (cond (decide (n' + G.length - n > 4096)) 5 0):=by
    unfold joinE
    cases decide (n' < n + F.length) <;> cases decide (n' + G.length - n > 4096) <;> rfl
  rw [hje]
  refine WOL.bi (v:=.bool (decide (n' < n + F.length))) rfl rfl rfl <| WOL.nil <| keep [(2,_),(3,_),(4,_),(14,_)] ⟨rfl,rfl,rfl,rfl,trivial⟩ ?_
  by_cases c1:n' < n + F.length
  · rw [decide_eq_true c1]
    refine WL.yes rfl <| WL.sr <| WOL.bd rfl bd46z ?_
    refine WOL.sto rfl rfl tp46 B4 rfl rfl (Nat.le_of_ble_eq_true rfl) rfl (f.hx Y4) (by omega) fun g5 P5 => ?_
    refine WOL.as rfl <| WOL.nil ?_
    exact WL.ret (WL.endC1 (t:=4) (s:=5) rfl rfl (load_row tp46 P5.at_ rfl (Nat.le_of_ble_eq_true rfl)) ⟨P5.hx _ Y4 (by omega),.inl ⟨by simp,rfl⟩⟩)
  · rw [decide_eq_false c1]
    refine WL.no rfl <| WL.skip ?_
    refine WL.seq <| WL.sr <| WOL.fa rfl (fa_of fo46_1) <| WOL.ld rfl (load_one tp3 B3 rfl) <| WOL.fa rfl (fa_of fo46_1) <| WOL.ld rfl (load_one tp3 B2 rfl) ?_
    refine WOL.bi (v:=zi (n' - n)) rfl rfl (by show some (Value.int .i64 (fwrap .i64 (n' - n))) = _; rw [fwrap_i64 (by omega) (by omega)]) ?_
    refine WOL.fa rfl (fa_of fo46_2) <| WOL.ld rfl (load_one tp43 B3 rfl) <| WOL.len rfl (r'.f.hx Y4) u43 ?_
    refine WOL.bi (v:=zi (n' + G.length - n)) rfl rfl (by show some (Value.int .i64 (fwrap .i64 (n' - n + (G.length:Int)))) = _; rw [fwrap_i64 (by omega) (by omega)]; congr 2; omega) ?_
    refine WOL.bi (v:=.bool (decide (n' + G.length - n > 4096))) rfl rfl rfl <| WOL.nil <| keep [(2,_),(3,_),(4,_),(25,_)] ⟨rfl,rfl,rfl,rfl,trivial⟩ ?_
    by_cases c2:n' + G.length - n > 4096
    · rw [decide_eq_true c2]
      refine WL.yes rfl <| WL.sr <| WOL.bd rfl bd46z ?_
      refine WOL.sto rfl rfl tp46 B4 rfl rfl (Nat.le_of_ble_eq_true rfl) rfl (f.hx Y4) (by omega) fun g5 P5 => ?_
      refine WOL.as rfl <| WOL.nil ?_
      exact WL.ret (WL.endC1 (t:=4) (s:=5) rfl rfl (load_row tp46 P5.at_ rfl (Nat.le_of_ble_eq_true rfl)) ⟨P5.hx _ Y4 (by omega),.inl ⟨by simp,rfl⟩⟩)
    · rw [decide_eq_false c2]
      refine WL.no rfl <| WL.skip ?_
      refine WL.sr <| WOL.ld rfl (load_row tp46 B2 rfl (Nat.le_of_ble_eq_true rfl)) ?_
      refine WOL.cl1 rfl rfl ((k96 H (s:=s) (n:=n) (r.hx Y4) V.lev (by omega) (by omega) (f.on Y4)).mono ?_)
      rintro v h5 ⟨w6,w7,rfl,O6,O7,X5⟩
      have Y5:=Y4.trans X5
      refine WOL.mv rfl <| WOL.ex rfl rfl <| WOL.ex rfl rfl <| WOL.as rfl <| WOL.as rfl <| WOL.nil <| keep [(2,_),(3,_),(4,_),(6,_),(7,_)] ⟨rfl,rfl,rfl,rfl,rfl,trivial⟩ ?_
      obtain ⟨g,hg⟩:∃ g:Nat,n' - (n + F.length) = (g:Int):=⟨(n' - (n + F.length)).toNat,by omega⟩
      rw [hg,Int.toNat_natCast]
      have d67:=own_ne O6 O7 (by decide)
      have lt4:=B4.lt
      refine WL.seq <| WL.block ?_
      refine kto (WL.loop (L:=[(2,ptr h.next),(3,ptr h1.next),(4,ptr h2.next),(6,w6),(7,w7)]) (fun k a hh => ∃ (j:Nat) (q6 q7:Value),j ≤ g ∧ k = g - j ∧ HX h4 hh ∧ OwnL encI h4.next hh q6 3 (L ++ List.replicate j 0) ∧ OwnL encB h4.next hh q7 4 (knownL S F.length ++ List.replicate j false) ∧ (∀ c,bl q6 = some c → bl q7 ≠ some c) ∧
        Kn [(2,ptr h.next),(3,ptr h1.next),(4,ptr h2.next),(6,q6),(7,q7)] a) g (fun a q => ⟨0,w6,w7,by omega,by omega,X5,by simpa using O6,by simpa using O7,d67,q.sub ⟨rfl,rfl,rfl,rfl,rfl,trivial⟩⟩) ?_) ⟨rfl,rfl,rfl,rfl,rfl,trivial⟩
      rintro k a hh ⟨j,q6,q7,hj,rfl,Xh,p6,p7,d,q⟩
      refine q.go ?_
      have Yh:=Y4.trans Xh
      refine WL.seq <| WL.sr <| WOL.ld rfl (load_row tp46 (B2.hx Xh) rfl (Nat.le_of_ble_eq_true rfl)) <| WOL.mv rfl <| WOL.len rfl (p6.sl eI) u29 <| WOL.fa rfl (fa_of fo46_2) <| WOL.ld rfl (load_one tp43 (B2.hx Xh) rfl) <| WOL.len rfl (r.f.hx Yh) u43 <| WOL.fa rfl (fa_of fo46_1) <| WOL.ld rfl (load_one tp3 (B3.hx Xh) rfl) ?_
      refine WOL.lk1 rfl rfl fun M => ((k33 H (s:=s) (n:=n) ((r.f.hx Yh).relock M) V0 (by omega) (by omega)).mono ?_)
      rintro v hi ⟨rfl,Xi⟩
      replace Xi:=Xi.relock
      generalize hi.withLock hh.lock = hi at *
      have Xk:=Xh.trans Xi
      have Yk:=Y4.trans Xk
      have p6:=p6.hx Xi
      have p7:=p7.hx Xi
      have hlen6:(L ++ List.replicate j (0:Int)).length = L.length + j:=by simp
      rw [hlen6]
      refine WOL.bi (v:=zi (n + F.length + ((L.length + j:Nat):Int))) rfl rfl (by show some (Value.int .i64 (fwrap .i64 (n + F.length + ((L.length + j:Nat):Int)))) = _; rw [fwrap_i64 (by omega) (by omega)]) ?_
      refine WOL.bi (v:=zi (n + F.length + j)) rfl rfl (by show some (Value.int .i64 (fwrap .i64 (n + F.length + ((L.length + j:Nat):Int) - (F.length:Int)))) = _; rw [fwrap_i64 (by omega) (by omega)]; congr 2; omega) ?_
      refine WOL.bi (v:=.bool (decide (n + F.length + j < n'))) rfl rfl rfl <| WOL.nil <| keep [(2,_),(3,_),(4,_),(6,_),(7,_),(43,_)] ⟨rfl,rfl,rfl,rfl,rfl,rfl,trivial⟩ ?_
      by_cases c3:j < g
      · rw [decide_eq_true (by omega:n + F.length + j < n')]
        refine WL.yes rfl <| WL.skip <| WL.block ?_
        refine WL.reg <| WOL.mv rfl <| WOL.bs1 rfl u29 tp3 rfl fun i1 M1 => ?_
        have f1:=(f.hx (Yk.trans M1.hx))
        have fr:∀ {g':TH},HX h4 g' → Free0 h4.next g':=fun x => (f.on Y4).hx x
        obtain ⟨q8,i2,ap8,o8,x8,keep8,b8,m8⟩:=own_push (sT:=29) (x:=(0:Int)) eI u29 tp3 (p6.hx M1.hx) (SlC.own (sz:=1) (m:=1) rfl M1.at_) (fr (Xk.trans M1.hx)) (by simp; omega) (Xk.trans M1.hx).next
        have X8:=x8 _ (Xk.trans M1.hx) (Nat.le_refl _)
        refine WOL.ap rfl rfl ap8 <| WOL.mv rfl <| WOL.bs1 rfl u145 tp4 rfl fun i3 M3 => ?_
        have p7':OwnL encB h4.next i2 q7 4 (knownL S F.length ++ List.replicate j false):=(p7.hx M1.hx).keep fun c y hc ha => keep8 c y (fun hc' => d c hc' hc) ha
        obtain ⟨q9,i4,ap9,o9,x9,keep9,b9,m9⟩:=own_push (sT:=172) (x:=false) eB u145 tp4 (p7'.hx M3.hx) (SlC.own (sz:=1) (m:=1) rfl M3.at_) (fr (X8.trans M3.hx)) (by simp; omega) (X8.trans M3.hx).next
        have X9:=x9 _ (X8.trans M3.hx) (Nat.le_refl _)
        refine WOL.ap rfl rfl ap9 <| WOL.as rfl <| WOL.as rfl <| WOL.nil ?_
        have n1':=M1.next
        have n3':=M3.next
        have o8':OwnL encI h4.next i4 q8 3 (L ++ List.replicate j 0 ++ [0]):=(o8.hx M3.hx).keep fun c y hc ha => keep9 c y (fun hc' => by
          have h1:=((p7.hx M1.hx).lt hc').2
          rw [b8] at hc
          have:=Option.some.inj hc
          omega) ha
        have e8:L ++ List.replicate j 0 ++ [0] = L ++ List.replicate (j + 1) (0:Int):=by rw [List.append_assoc,List.replicate_succ',]
        have e9:knownL S F.length ++ List.replicate j false ++ [false] = knownL S F.length ++ List.replicate (j + 1) false:=by rw [List.append_assoc,List.replicate_succ']
        rw [e8] at o8'
        rw [e9] at o9
        exact fun a q => ⟨g - (j + 1),by omega,j + 1,q8,q9,by omega,rfl,X9,o8',o9,fun c h1 h2 => by
          have q1:=o8.lt h1
          rw [b8] at h1
          rw [b9] at h2
          have:=Option.some.inj h1
          have:=Option.some.inj h2
          omega,q.sub ⟨rfl,rfl,rfl,rfl,rfl,trivial⟩⟩
      · rw [decide_eq_false (by omega:¬ n + F.length + j < n')]
        refine WL.no rfl <| WL.exit ?_
        obtain rfl:j = g:=by omega
        refine WL.sr <| WOL.ld rfl (load_row tp46 (B3.hx Xk) rfl (Nat.le_of_ble_eq_true rfl)) ?_
        refine WOL.cl1 rfl rfl ((k96 H (s:=s') (n:=n') (r'.hx Yk) V'.lev (by omega) (by omega) (f.on Yk)).mono ?_)
        rintro v i1 ⟨w8,w9,rfl,O8,O9,Z1⟩
        have Xl:=Xk.trans Z1
        have Yl:=Y4.trans Xl
        refine WOL.mv rfl <| WOL.ex rfl rfl <| WOL.ex rfl rfl <| WOL.as rfl <| WOL.as rfl <| WOL.nil <| keep [(2,_),(4,_),(6,_),(7,_),(8,_),(9,_)] ⟨rfl,rfl,rfl,rfl,rfl,rfl,trivial⟩ ?_
        refine WL.sr <| WOL.fa rfl (fa_of fo46_0) <| WOL.ld rfl (load_one tp9 (B2.hx Xl) rfl) <| WOL.fa rfl (fa_of fo46_1) <| WOL.ld rfl (load_one tp3 (B2.hx Xl) rfl) <| WOL.mv rfl <| WOL.mv rfl <| WOL.mv rfl <| WOL.mv rfl ?_
        have lt2:=B2.lt
        have y4n:=Y4.next
        have p6l:=p6.hx Z1
        have p7l:=p7.hx Z1
        have fl:Free0 h4.next i1:=(f.on Y4).hx Xl
        have xln:=Xl.next
        refine WOL.apQ [h.next,h.next] rfl rfl rfl fun M hM => ?_
        obtain ⟨u8,i2,ap8,s8,x8,keep8,m8,b8⟩:=own_cat (sT:=29) eI (by decide) u29 tp3 (own_lock p6l M) ((O8.sl eI).relock M) (fl.held hM (fun b hb => by simp at hb; omega)) (by simp; omega) xln
        refine ⟨_,_,ap8,?_⟩
        have xlk:=Xl.lock
        have X8:HX h4 (i2.withLock i1.lock):=HX.unlock (x8 _ (Xl.locked M) (Nat.le_refl _)) xlk
        have p7m:OwnL encB h4.next (i2.withLock i1.lock) q7 4 (knownL S F.length ++ List.replicate j false):=own_lock ((own_lock p7l M).keep fun c y hc ha => keep8 c y (fun hc' => d c hc' hc) ha) i1.lock
        have B2m:At (i2.withLock i1.lock) h.next _:=(keep8 _ _ (fun e => by have:=(p6l.lt e).1; omega) (((B2.hx Xl).relock M))).relock i1.lock
        have B4m:At (i2.withLock i1.lock) h2.next _:=(keep8 _ _ (fun e => by have:=(p6l.lt e).1; omega) (((B4.hx Xl).relock M))).relock i1.lock
        have s8':=s8.relock i1.lock
        have O9m:SlL encB 1 (i2.withLock i1.lock) w9 (knownL T G.length):=((own_lock O9 M).keep fun c y hc ha => keep8 c y (fun hc' => by
          have h1:=(p6.lt hc').2
          have h2:=(O9.lt hc).1
          omega) ha).sl eB |>.relock i1.lock
        have m8':i1.next ≤ (i2.withLock i1.lock).next:=m8
        have l8':(i2.withLock i1.lock).lock = i1.lock:=rfl
        generalize i2.withLock i1.lock = i3 at *
        have f3:Free0 h4.next i3:=(f.on Y4).hx X8
        have xl3:=X8.next
        refine WOL.apQ [h.next,h.next] rfl rfl rfl fun M2 hM2 => ?_
        obtain ⟨u9,i4,ap9,s9,x9,keep9,m9,b9⟩:=own_cat (sT:=172) eB (by decide) u145 tp4 (own_lock p7m M2) (O9m.relock M2) (f3.held hM2 (fun b hb => by simp at hb; omega)) (by simp; omega) xl3
        refine ⟨_,_,ap9,?_⟩
        have X9:HX h4 (i4.withLock i3.lock):=HX.unlock (x9 _ (X8.locked M2) (Nat.le_refl _)) X8.lock
        have B2n:At (i4.withLock i3.lock) h.next _:=(keep9 _ _ (fun e => by have:=(p7m.lt e).1; omega) (B2m.relock M2)).relock i3.lock
        have B4n:At (i4.withLock i3.lock) h2.next _:=(keep9 _ _ (fun e => by have:=(p7m.lt e).1; omega) (B4m.relock M2)).relock i3.lock
        have s9':=s9.relock i3.lock
        have s8n:SlL encI 1 (i4.withLock i3.lock) u8 _:=(slC_keep (s8'.relock M2) fun c y hc ha => keep9 c y (fun hc' => by
          rcases b8 c hc with h1 | h1
          · exact d c h1 hc'
          · have h2:=(p7l.lt hc').2
            have h1':i1.next ≤ c:=h1
            omega) ha).relock i3.lock
        generalize i4.withLock i3.lock = i5 at *
        have Y9:=Y4.trans X9
        have x5l:=X9.next
        have hlim:∀ l,l ∈ L ++ List.replicate j 0 ++ L' → l.natAbs ≤ 16384:=by
          intro l hl
          rcases List.mem_append.1 hl with hl | hl
          · rcases List.mem_append.1 hl with hl | hl
            · exact lev_lim V.lev l hl
            · rw [(List.mem_replicate.1 hl).2]; decide
          · exact lev_lim V'.lev l hl
        refine WOL.cl4 rfl rfl rfl rfl rfl ((k97 H (s:=s) (n:=n) s8n s9' (by simp; omega) hlim (by simp; omega) (f.on Y9)).mono ?_)
        rintro v i6 ⟨e1,e2,rfl,X10,O10⟩
        have Y10:=Y9.trans X10
        have y9n:=Y9.next
        obtain ⟨bo1,k1,rfl⟩:=O10.r.f.form
        obtain ⟨bo2,k2,rfl⟩:=O10.r.s.form
        refine WOL.sto rfl rfl tp46 (B4n.hx X10) rfl rfl (Nat.le_of_ble_eq_true rfl) rfl (f.hx Y10) (by omega) fun i7 P7 => ?_
        refine WOL.as rfl <| WOL.nil ?_
        exact WL.ret (WL.endC1 (t:=4) (s:=5) rfl rfl (load_row tp46 P7.at_ rfl (Nat.le_of_ble_eq_true rfl)) ⟨P7.hx _ Y10 (by omega),.inr ⟨rfl,_,_,rfl,(O10.away P7 (by omega)).le (by omega)⟩⟩)
theorem cellsK_app:∀ {L M:List Int} {K J:List Bool},K.length = L.length → cellsK (L ++ M) (K ++ J) = cellsK L K ++ cellsK M J
 | [],_,[],_,_ => rfl
 | [],_,_ :: _,_,h => by simp at h
 | _ :: _,_,[],_,h => by simp at h
 | l :: L,M,k :: K,J,h => by
  have:=cellsK_app (L:=L) (M:=M) (K:=K) (J:=J) (by simpa using h)
  unfold cellsK at this ⊢
  simp only [List.cons_append,List.zipWith_cons_cons,this]
theorem cellsK_rep:∀ g:Nat,cellsK (List.replicate g 0) (List.replicate g false) = List.replicate g ((0:Int),false)
 | 0 => rfl
 | g + 1 => by
  have:=cellsK_rep g
  unfold cellsK at this ⊢
  rw [List.replicate_succ,List.replicate_succ,List.zipWith_cons_cons,this,List.replicate_succ]
  rfl
theorem join_cells {L M:List Int} {K J:List Bool} {g:Nat} (hK:K.length = L.length):[cellsK L K,List.replicate g ((0:Int),false),cellsK M J].flatten = cellsK (L ++ List.replicate g 0 ++ M) (K ++ List.replicate g false ++ J):=by
 rw [cellsK_app (by simp [hK]),cellsK_app hK,cellsK_rep]
 simp
end Go.Tidy
namespace Go.Tidy
open Go Go.Proofs Tab
variable {tp:TProg}
theorem Val.hx {s:ByteArray} {n:Int} {v1 v2:Value} {F:List Nat} {S:List (Int × Int)} {es L:List Int} {p1 p2:Int} {h hm g g':TH} {c3 c5 c12 c14 c18 c28 c29 c30:Nat} {sx:ByteArray} {nx:Int} {x1 x2:Value} {sy:ByteArray} {ny:Int} {y1 y2:Value} {ec ma mb:Int} {n1:Nat} {w1 w2:Value}
  (M:Val s n v1 v2 F S es L p1 p2 h hm g c3 c5 c12 c14 c18 c28 c29 c30 sx nx x1 x2 sy ny y1 y2 ec ma mb n1 w1 w2) (x:HX g g'):Val s n v1 v2 F S es L p1 p2 h hm g' c3 c5 c12 c14 c18 c28 c29 c30 sx nx x1 x2 sy ny y1 y2 ec ma mb n1 w1 w2 :=
 { M with x1_:=M.x1_.trans x,b28:=M.b28.hx x,b29:=M.b29.hx x,ro:=M.ro.hx x,b30:=M.b30.hx x }
end Go.Tidy
namespace Go.Tidy
open Go Go.Proofs Tab
variable {tp:TProg}
theorem short_small {s:ByteArray} {m k:Nat} (h:shortB s m k = true):m ≤ 4097 ∧ k ≤ 12:=by
 simp only [shortB,Bool.and_eq_true,Bool.or_eq_true,decide_eq_true_eq,beq_iff_eq] at h
 omega
end Go.Tidy
namespace Go.Tidy
open Go Go.Proofs Tab
variable {tp:TProg}
theorem k6z (A:Awk tp) {g:TH} {c5 c7 c11 c12:Nat} {ej es:Int} {sx:ByteArray} {nx:Int} {x1 x2:Value} {sy:ByteArray} {ny:Int} {y1 y2:Value} {sz:ByteArray} {nz:Int} {z1 z2:Value} {sw:ByteArray} {nw:Int} {w1 w2:Value}
  (B5:At g c5 (.cells (runV sx nx x1 x2).cells.toList true true 52)) (B7:At g c7 (.cells (runV sy ny y1 y2).cells.toList true true 52)) (B11:At g c11 (.cells (runV sz nz z1 z2).cells.toList true true 46)) (B12:At g c12 (.cells (runV sw nw w1 w2).cells.toList true true 46))
  (K1:∀ h',HX g h' → CallW Tryz.prog tp (.func (.func 44) #[] #[]) #[runV sx nx x1 x2,.int .i64 ej,.int .i64 ej,runV sz nz z1 z2] h' fun v h'' => v = .bool true ∧ HX h' h'')
  (K2:∀ h',HX g h' → CallW Tryz.prog tp (.func (.func 44) #[] #[]) #[runV sy ny y1 y2,.int .i64 es,.int .i64 es,runV sw nw w1 w2] h' fun v h'' => v = .bool true ∧ HX h' h'') :
  ∀ a,Kn [(5,ptr c5),(6,zi ej),(7,ptr c7),(8,zi es),(9,zi ej),(10,zi es),(11,ptr c11),(12,ptr c12)] a → W Tryz.prog tp false (.seq (.reg r6_11) .ret) a g (Fin Tryz.prog [.tmp 4] fun v _ => v = .bool true):=by
 refine WL.sr <| WOL.ld rfl (load_row tp52 B5 rfl (Nat.le_of_ble_eq_true rfl)) <| WOL.mv rfl <| WOL.mv rfl <| WOL.ld rfl (load_row tp46 B11 rfl (Nat.le_of_ble_eq_true rfl)) ?_
 refine WOL.cl4 rfl rfl rfl rfl rfl ((K1 g (HX.refl _)).mono ?_)
 rintro v g1 ⟨rfl,X1⟩
 refine WOL.mv rfl <| WOL.now (b:=true) rfl rfl <| WOL.ld rfl (load_row tp52 (B7.hx X1) rfl (Nat.le_of_ble_eq_true rfl)) ?_
 refine WOL.now (b:=true) rfl rfl <| WOL.mv rfl <| WOL.now (b:=true) rfl rfl <| WOL.mv rfl <| WOL.now (b:=true) rfl rfl <| WOL.ld rfl (load_row tp46 (B12.hx X1) rfl (Nat.le_of_ble_eq_true rfl)) <| WOL.now (b:=true) rfl rfl ?_
 refine WOL.cl4 rfl rfl rfl rfl rfl ((K2 g1 X1).mono ?_)
 rintro v g2 ⟨rfl,X2⟩
 refine WOL.pkt rfl rfl <| WOL.mv rfl <| WOL.now (b:=true) rfl rfl ?_
 refine WOL.cl0 rfl ((k11 A g2).mono ?_)
 rintro v g3 ⟨rfl,rfl⟩
 refine WOL.pkt rfl rfl <| WOL.as rfl <| WOL.nil <| keep [(4,_)] ⟨rfl,trivial⟩ ?_
 exact WL.done rfl rfl
theorem firstNZ_two {a b c:Int} (h:firstNZ [a,b] ≠ 0):firstNZ [a,b,c] = firstNZ [a,b]:=by
 rcases nz_cases a with ha | ha
 ·subst ha
  rcases nz_cases b with hb | hb
  ·subst hb; exact absurd rfl h
  ·show cond _ _ (cond _ _ _) = cond _ _ (cond _ _ _)
   rw [hb]; rfl
 ·show cond _ _ _ = cond _ _ _
  rw [ha]; rfl
theorem firstNZ_three {c:Int}:firstNZ [0,0,c] = c:=by
 rcases nz_cases c with hc | hc
 ·subst hc; rfl
 ·show cond (c != 0) c 0 = c
  rw [hc]; rfl
theorem JoinR.out {h h':TH} {v:Value} {s:ByteArray} {n:Int} {Z:List Int} {Y:List Bool} {e:Int} (r:JoinR h h' v s n Z Y e):∃ sz nz bo1 l1 k1 bo2 l2 k2,v = .tuple #[runV sz nz (.slice bo1 l1 k1) (.slice bo2 l2 k2),.int .i64 e] ∧ HX h h' ∧ (e ≠ 0 → (Value.slice bo1 l1 k1 = .slice none 0 0 ∧ Value.slice bo2 l2 k2 = .slice none 0 0)) ∧ (e = 0 → (sz = s ∧ nz = n) ∧ RunO h.next h' (.slice bo1 l1 k1) (.slice bo2 l2 k2) (madeF Z Y) (holesOf Y)):=by
 obtain ⟨X,⟨he,rfl⟩ | ⟨rfl,w1,w2,rfl,O⟩⟩:=r
 ·exact ⟨_,_,_,_,_,_,_,_,rfl,X,fun _ => ⟨rfl,rfl⟩,fun h => absurd h he⟩
 ·obtain ⟨bo1,k1,rfl⟩:=O.r.f.form
  obtain ⟨bo2,k2,rfl⟩:=O.r.s.form
  exact ⟨_,_,_,_,_,_,_,_,rfl,X,fun h => absurd rfl h,fun _ => ⟨⟨rfl,rfl⟩,O⟩⟩
theorem SumR.out {h h':TH} {v:Value} {s:ByteArray} {n:Int} {Z:List Int} {Y:List Bool} {sh:Bool} (hY:sh = true → Y.length = Z.length) (r:SumR h h' v s n Z Y sh):JoinR h h' v s n Z Y (cond (!sh) 2 (cond (allOk (cellsK Z Y)) 0 4)):=by
 obtain ⟨X,⟨rfl,rfl⟩ | ⟨rfl,no,rfl⟩ | ⟨rfl,ok,w1,w2,rfl,O⟩⟩:=r
 ·exact ⟨X,.inl ⟨by simp,rfl⟩⟩
 ·have:allOk (cellsK Z Y) = false:=by
   cases hb:allOk (cellsK Z Y) with
   | false => rfl
   | true => exact absurd ((ok_cells (hY rfl)).1 hb) no
  rw [this]
  exact ⟨X,.inl ⟨by decide,rfl⟩⟩
 ·rw [(ok_cells (hY rfl)).2 ok]
  exact ⟨X,.inr ⟨rfl,w1,w2,rfl,O⟩⟩
def rest6:TCode:=(.seq (.reg r6_3) (.seq (.reg r6_4) (.seq (.reg r6_5) (.seq (.reg r6_6) (.seq (.reg r6_7) (.seq (.seq (.reg r6_8) (.cond (.tmp 46) (.seq (.reg r6_9) (.reg r6_10)) .skip)) (.seq (.reg r6_11) .ret)))))))
theorem c6_eq:c6 = .seq (.reg r6_0) (.seq (.seq (.reg r6_1) (.cond (.tmp 20) (.seq (.reg r6_2) .ret) .skip)) rest6):=rfl
set_option maxHeartbeats 2000000 in
set_option maxRecDepth 100000 in
theorem k6p (H:Has tp) (X:HasX tp) (A:Awk tp) {s s':ByteArray} {n n':Int} {v1 v2 w1 w2:Value} {F G:List Nat} {S T:List (Int × Int)} {es L es' L':List Int} {h:TH} {c2 c3:Nat} (r:RunH h v1 v2 F S) (r':RunH h w1 w2 G T) (hE:SErr F es) (hL:firstNZ es = 0 → Lev F L) (hE':SErr G es') (hL':firstNZ es' = 0 → Lev G L')
    (hF:F.length ≤ 900000) (hS:S.length ≤ 900000) (hG:G.length ≤ 900000) (hT:T.length ≤ 900000) (f:Free0 h.next h)
    (A2:At h c2 (.cells (runV s n v1 v2).cells.toList true true 46)) (A3:At h c3 (.cells (runV s' n' w1 w2).cells.toList true true 46)) :
    ∀ a,Kn [(2,ptr c2),(3,ptr c3)] a → W Tryz.prog tp false rest6 a h (Fin Tryz.prog [.tmp 4] fun v _ => v = .bool true):=by
  obtain ⟨bv1,kv1,rfl⟩:=r.f.form
  obtain ⟨bv2,kv2,rfl⟩:=r.s.form
  obtain ⟨bw1,kw1,rfl⟩:=r'.f.form
  obtain ⟨bw2,kw2,rfl⟩:=r'.s.form
  have lt2:=A2.lt
  have lt3:=A3.lt
  -- Joined,by the program
  refine WL.sr <| WOL.ld rfl (load_row tp46 A2 rfl (Nat.le_of_ble_eq_true rfl)) <| WOL.ld rfl (load_row tp46 A3 rfl (Nat.le_of_ble_eq_true rfl)) <| WOL.al tp52 fun h1 N1 => ?_
  have n1:=N1.next
  have Y1:=N1.hx
  refine WOL.lq1 [h.next,c3] rfl rfl rfl fun M hM => ((k25 H (s:=s) (n:=n) ((r.hx Y1).relock' M) (by omega) (by omega) ((f.on Y1).held hM (fun b hb => by simp at hb; omega))).mono ?_)
  rintro v h2 ⟨p1,p2,rfl,X2,O2⟩
  replace O2:=O2.relock' h1.lock
  replace X2:=X2.relock
  generalize h2.withLock h1.lock = h2 at *
  have Y2:=Y1.trans X2
  have y2:=X2.next
  refine WOL.lq1 [h.next] rfl rfl rfl fun M hM => ((k25 H (s:=s') (n:=n') ((r'.hx Y2).relock' M) (by omega) (by omega) ((f.on Y2).held hM (fun b hb => by simp at hb; omega))).mono ?_)
  rintro v h3 ⟨q1,q2,rfl,X3,O3⟩
  replace O3:=O3.relock' h2.lock
  replace X3:=X3.relock
  generalize h3.withLock h2.lock = h3 at *
  have Y3:=Y2.trans X3
  have y3:=X3.next
  refine WOL.lq2 [h.next] rfl rfl rfl rfl fun M hM => ((k49 H X (s:=s) (s':=s') (n:=n) (n':=n') ((O2.r.hx X3).relock' M) (O3.r.relock' M) hE hL hE' hL' hF hS hG hT ((f.on Y3).held hM (fun b hb => by simp at hb; omega))).mono ?_)
  rintro v h4 RR
  obtain ⟨sx,nx,bo1,l1,k1,bo2,l2,k2,rfl,X4,R4⟩:=RR.out
  clear RR O2 O3
  replace R4:=R4.relock h3.lock
  replace X4:=X4.relock
  generalize h4.withLock h3.lock = h4 at *
  have Y4:=Y3.trans X4
  generalize hej:joinErr (runE s n F.length S es L) (runE s' n' G.length T es' L') n F.length n' G.length = ej at R4
  refine WOL.mv rfl <| WOL.ex rfl rfl <| WOL.ex rfl rfl ?_
  refine WOL.sto rfl rfl tp52 ((N1.at_.hx (X2.trans X3)).hx X4) rfl rfl (Nat.le_of_ble_eq_true rfl) rfl (f.hx Y4) (Nat.le_refl _) fun h5 P5 => ?_
  refine WOL.as rfl <| WOL.nil <| keep [(2,_),(3,_),(5,_),(6,_)] ⟨rfl,rfl,rfl,rfl,trivial⟩ ?_
  have Y5:HX h h5:=P5.hx _ Y4 (Nat.le_refl _)
  have R5:=R4.away P5 (show h.next < h3.next by omega)
  have B5:=P5.at_
  have q5:=P5.next
  clear R4
  -- Sum,by the program
  refine WL.sr <| WOL.ld rfl (load_row tp46 (A2.hx Y5) rfl (Nat.le_of_ble_eq_true rfl)) <| WOL.ld rfl (load_row tp46 (A3.hx Y5) rfl (Nat.le_of_ble_eq_true rfl)) <| WOL.al tp52 fun h6 N6 => ?_
  have n6:=N6.next
  have Y6:=Y5.trans N6.hx
  have y5:=Y5.next
  refine WOL.lq1 [h5.next,c3] rfl rfl rfl fun M hM => ((k25 H (s:=s) (n:=n) ((r.hx Y6).relock' M) (by omega) (by omega) ((f.on Y6).held hM (fun b hb => by simp at hb; omega))).mono ?_)
  rintro v h7 ⟨p1,p2,rfl,X7,O2⟩
  replace O2:=O2.relock' h6.lock
  replace X7:=X7.relock
  generalize h7.withLock h6.lock = h7 at *
  have Y7:=Y6.trans X7
  have y7:=X7.next
  refine WOL.lq1 [h5.next] rfl rfl rfl fun M hM => ((k25 H (s:=s') (n:=n') ((r'.hx Y7).relock' M) (by omega) (by omega) ((f.on Y7).held hM (fun b hb => by simp at hb; omega))).mono ?_)
  rintro v h8 ⟨q1,q2,rfl,X8,O3⟩
  replace O3:=O3.relock' h7.lock
  replace X8:=X8.relock
  generalize h8.withLock h7.lock = h8 at *
  have Y8:=Y7.trans X8
  have y8:=X8.next
  refine WOL.lq2 [h5.next] rfl rfl rfl rfl fun M hM => ((k50 H X (s:=s) (s':=s') (n:=n) (n':=n') ((O2.r.hx X8).relock' M) (O3.r.relock' M) hE hL hE' hL' hF hS hG hT ((f.on Y8).held hM (fun b hb => by simp at hb; omega))).mono ?_)
  rintro v h9 RR
  obtain ⟨sy,ny,co1,j1,i1,co2,j2,i2,rfl,X9,R9⟩:=RR.out
  clear RR O2 O3
  replace R9:=R9.relock h8.lock
  replace X9:=X9.relock
  generalize h9.withLock h8.lock = h9 at *
  have Y9:=Y8.trans X9
  generalize hes:sumErr (twoE (runE s n F.length S es L) (runE s' n' G.length T es' L') n F.length n' G.length) (cellsL L S) (cellsL L' T) = ess at R9
  refine WOL.mv rfl <| WOL.ex rfl rfl <| WOL.ex rfl rfl ?_
  have Z9:HX h5 h9:=((N6.hx.trans X7).trans X8).trans X9
  refine WOL.sto rfl rfl tp52 (((N6.at_.hx X7).hx X8).hx X9) rfl rfl (Nat.le_of_ble_eq_true rfl) rfl (f.hx Y9) y5 fun h10 P10 => ?_
  refine WOL.as rfl <| WOL.nil <| keep [(2,_),(3,_),(5,_),(6,_),(7,_),(8,_)] ⟨rfl,rfl,rfl,rfl,rfl,rfl,trivial⟩ ?_
  have Z10:HX h5 h10:=P10.hx _ Z9 (Nat.le_refl _)
  have Y10:HX h h10:=Y5.trans Z10
  have R10:=R9.away P10 (show h5.next < h8.next by omega)
  have B7:=P10.at_
  clear R9
  -- the reference's errors
  refine WL.sr <| WOL.ld rfl (load_row tp46 (A2.hx Y10) rfl (Nat.le_of_ble_eq_true rfl)) <| WOL.ld rfl (load_row tp46 (A3.hx Y10) rfl (Nat.le_of_ble_eq_true rfl)) ?_
  refine WOL.lk1 rfl rfl fun M => ((k31 H (s:=s) (n:=n) ((r.hx Y10).relock' M) hE hL (by omega) (by omega)).mono ?_)
  rintro v h11 ⟨rfl,X11⟩
  replace X11:=X11.relock
  generalize h11.withLock h10.lock = h11 at *
  have Y11:=Y10.trans X11
  refine WOL.cl1 rfl rfl ((k31 H (s:=s') (n:=n') (r'.hx Y11) hE' hL' (by omega) (by omega)).mono ?_)
  rintro v h12 ⟨rfl,X12⟩
  refine WOL.bsl rfl u29 tp3 (by decide) (by decide) (by decide) (filled_ints _ _) fun h13 N13 => ?_
  refine WOL.cl1 rfl rfl ((k13 H (l:=[_,_]) N13.at_.get (by simp)).mono ?_)
  rintro v h13 ⟨rfl,rfl⟩
  have Y13:=(Y11.trans X12).trans N13.hx
  have Z13:=(X11.trans X12).trans N13.hx
  refine WOL.as rfl <| WOL.nil <| keep [(2,_),(3,_),(5,_),(6,_),(7,_),(8,_),(9,_)] ⟨rfl,rfl,rfl,rfl,rfl,rfl,rfl,trivial⟩ ?_
  refine WL.sr <| WOL.mv rfl <| WOL.as rfl <| WOL.nil <| keep [(2,_),(3,_),(5,_),(6,_),(7,_),(8,_),(9,_),(10,_)] ⟨rfl,rfl,rfl,rfl,rfl,rfl,rfl,rfl,trivial⟩ ?_
  refine WL.sr <| WOL.al tp46 fun h14 N14 => WOL.al tp46 fun h15 N15 => WOL.nil <| keep [(2,_),(3,_),(5,_),(6,_),(7,_),(8,_),(9,_),(10,_),(11,_),(12,_)] ⟨rfl,rfl,rfl,rfl,rfl,rfl,rfl,rfl,rfl,rfl,trivial⟩ ?_
  have Z15:=N14.hx.trans N15.hx
  have Y15:=Y13.trans Z15
  have n14:=N14.next
  have n15:=N15.next
  have y13:=Y13.next
  have z13:=Z13.next
  have W15:HX h10 h15:=Z13.trans Z15
  have z10:=Z10.next
  have C5:=(B5.hx Z10).hx W15
  have C7:=B7.hx W15
  have R5':=(R5.hx Z10).hx W15
  have R10':=R10.hx W15
  have A11:=N14.at_.hx N15.hx
  have A12:=N15.at_
  generalize hE1:runE s n F.length S es L = E1 at *
  generalize hE2:runE s' n' G.length T es' L' = E2 at *
  refine WL.seq <| WL.sr <| WOL.mv rfl <| WOL.bi rfl rfl ezero <| WOL.nil ?_
  by_cases h0:firstNZ [E1,E2] = 0
  · have e1:E1 = 0:=firstNZ_zero h0 _ (by simp)
    have e2:E2 = 0:=firstNZ_zero h0 _ (by simp)
    have V:=valid_of hL (hE1.trans e1)
    have V':=valid_of hL' (hE2.trans e2)
    have Vm:=V.m
    have Vm':=V'.m
    have kl:=V.kl
    have kl':=V'.kl
    have ll:=V.lev.1
    have ll':=V'.lev.1
    rw [h0]
    refine WL.yes rfl ?_
    refine WL.sr <| WOL.ld rfl (load_row tp46 (A2.hx Y15) rfl (Nat.le_of_ble_eq_true rfl)) <| WOL.ld rfl (load_row tp46 (A3.hx Y15) rfl (Nat.le_of_ble_eq_true rfl)) ?_
    refine WOL.cl2 rfl rfl rfl ((k51 H (s:=s) (s':=s') (n:=n) (n':=n') (r.hx Y15) (r'.hx Y15) V V' hS hT (f.on Y15)).mono ?_)
    rintro v h16 JR
    obtain ⟨sz,nz,do1,m1,u1,do2,m2,u2,rfl,X16,je,jz⟩:=JR.out
    clear JR
    have Y16:=Y15.trans X16
    have hejE:ej = joinE n F.length n' G.length:=by rw [← hej]; unfold joinErr; rw [h0]; rfl
    rw [← hejE] at je jz ⊢
    refine WOL.mv rfl <| WOL.ex rfl rfl <| WOL.ex rfl rfl ?_
    have y15:=Y15.next
    have z15:=Z15.next
    refine WOL.sto rfl rfl tp46 (A11.hx X16) rfl rfl (Nat.le_of_ble_eq_true rfl) rfl (f.hx Y16) (by omega) fun h17 P17 => ?_
    refine WOL.as rfl <| WOL.nil <| keep [(2,_),(3,_),(5,_),(6,_),(7,_),(8,_),(9,_),(10,_),(11,_),(12,_)] ⟨rfl,rfl,rfl,rfl,rfl,rfl,rfl,rfl,rfl,rfl,trivial⟩ ?_
    have Y17:HX h h17:=P17.hx _ Y16 (by omega)
    have W17:HX h10 h17:=P17.hx _ (W15.trans X16) z13
    have D11:=P17.at_
    have D12:=P17.oth _ _ (show h14.next ≠ h13.next by omega) (A12.hx X16)
    have jz17:=fun e => (And.intro (jz e).1 ((jz e).2.away P17 (show h13.next < h15.next by omega)))
    refine WL.reg <| WOL.ld rfl (load_row tp46 (A2.hx Y17) rfl (Nat.le_of_ble_eq_true rfl)) <| WOL.ld rfl (load_row tp46 (A3.hx Y17) rfl (Nat.le_of_ble_eq_true rfl)) ?_
    refine WOL.cl2 rfl rfl rfl ((k52 H (s:=s) (s':=s') (n:=n) (n':=n') (r.hx Y17) (r'.hx Y17) V V' hS hT (f.on Y17)).mono ?_)
    rintro v h18 SR
    have hYZ:shapeB n F.length n' G.length = true → (bothL (knownL S F.length) (knownL T G.length)).length = (addL L L').length:=fun hsh => by
      simp [shapeB] at hsh
      simp [bothL,addL]
      omega
    obtain ⟨sw,nw,do3,m3,u3,do4,m4,u4,rfl,X18,ke,kz⟩:=(SR.out hYZ).out
    clear SR
    have Y18:=Y17.trans X18
    have hcs:shapeB n F.length n' G.length = true → sumC (cellsL L S) (cellsL L' T) = cellsK (addL L L') (bothL (knownL S F.length) (knownL T G.length)):=fun hsh => by
      simp [shapeB] at hsh
      rw [V.cells,V'.cells,sum_cells (by omega) (by omega) (by omega)]
    have hesE:ess = cond (!shapeB n F.length n' G.length) 2 (cond (allOk (cellsK (addL L L') (bothL (knownL S F.length) (knownL T G.length)))) 0 4):=by
      rw [← hes]
      unfold sumErr twoE
      rw [e1,e2,firstNZ_three]
      cases hsh:shapeB n F.length n' G.length with
      | false => rfl
      | true => rw [hcs hsh]; rfl
    rw [← hesE] at ke kz ⊢
    have y17:=Y17.next
    refine WOL.mv rfl <| WOL.ex rfl rfl <| WOL.ex rfl rfl ?_
    refine WOL.sto rfl rfl tp46 (D12.hx X18) rfl rfl (Nat.le_of_ble_eq_true rfl) rfl (f.hx Y18) (by omega) fun h19 P19 => ?_
    refine WOL.as rfl <| WOL.nil ?_
    have Y19:HX h h19:=P19.hx _ Y18 (by omega)
    have W19:HX h10 h19:=P19.hx _ (W17.trans X18) (by omega)
    have x16:=X16.next
    have E11:=P19.oth _ _ (show h13.next ≠ h14.next by omega) (D11.hx X18)
    have E12:=P19.at_
    have q17:=P17.next
    have jz19:=fun e => (jz17 e).2.hx X18 |>.away P19 (show h14.next < h15.next by omega)
    have kz19:=fun e => (kz e).2.away P19 (show h14.next < h17.next by omega)
    have hcl:(cellsL L S).length = F.length:=cells_len V.lev V.in_
    refine kto (k6z A (ej:=ej) (es:=ess) ((B5.hx Z10).hx W19) (B7.hx W19) E11 E12
      (fun h' hx' => same_is H (n:=n) (s:=s) (f.on (Y19.trans hx')) (R5.hx Z10) (W19.trans hx') hx' (fun e => ⟨jz19 e,?_⟩) je (fun e => (jz e).1))
      (fun h' hx' => same_is H (n:=n) (s:=s) (f.on (Y19.trans hx')) R10 (W19.trans hx') hx' (fun e => ⟨kz19 e,?_⟩) ke (fun e => (kz e).1))) ⟨rfl,rfl,rfl,rfl,rfl,rfl,rfl,rfl,trivial⟩
    · obtain ⟨j1,j2⟩:=joinE_zero (hejE.symm.trans e)
      have hjc:joinC n n' (cellsL L S) (cellsL L' T) = cellsK (L ++ List.replicate (n' - (n + F.length)).toNat 0 ++ L') (knownL S F.length ++ List.replicate (n' - (n + F.length)).toNat false ++ knownL T G.length):=by
        unfold joinC
        rw [hcl,V.cells,V'.cells,join_cells (by omega)]
      have hlim:∀ c,c ∈ joinC n n' (cellsL L S) (cellsL L' T) → c.1.natAbs ≤ 16384:=by
        intro c hc
        unfold joinC at hc
        simp only [List.mem_flatten,List.mem_cons,List.not_mem_nil,or_false] at hc
        obtain ⟨l,rfl | rfl | rfl,hc⟩:=hc
        · exact V.lim c hc
        · rw [(List.mem_replicate.1 hc).2]; decide
        · exact V'.lim c hc
      refine ⟨?_,?_,lev_smp hlim,?_⟩
      · rw [hjc]; rfl
      · rw [hjc,cellsK_snd (by simp; omega)]
      · rw [hjc,cellsK_ln (by simp; omega)]
        simp
        omega
    · have hsh:shapeB n F.length n' G.length = true:=by
        cases hb:shapeB n F.length n' G.length with
        | true => rfl
        | false => rw [hb] at hesE; rw [hesE] at e; cases e
      have hok:allOk (cellsK (addL L L') (bothL (knownL S F.length) (knownL T G.length))) = true:=by
        cases hb:allOk (cellsK (addL L L') (bothL (knownL S F.length) (knownL T G.length))) with
        | true => rfl
        | false => rw [hb,hsh] at hesE; rw [hesE] at e; cases e
      have hyz:=hYZ hsh
      have lz:(addL L L').length ≤ 4096:=by simp [addL]; omega
      rw [hcs hsh]
      exact ⟨rfl,by rw [cellsK_snd hyz],lev_smp (allOk_iff.1 hok),by rw [cellsK_ln hyz]; exact lz⟩
  · have hejE:ej = firstNZ [E1,E2]:=by rw [← hej]; unfold joinErr; rw [show (firstNZ [E1,E2] != 0) = true by simpa using h0]; rfl
    have hesE:ess = firstNZ [E1,E2]:=by
      rw [← hes]
      unfold sumErr twoE
      rw [firstNZ_two h0,show (firstNZ [E1,E2] != 0) = true by simpa using h0]
      rfl
    rw [show (firstNZ [E1,E2] == 0) = false by simpa using h0]
    refine WL.no rfl <| WL.skip ?_
    rw [← hejE] at h0
    have hee:ess = ej:=by rw [hesE,hejE]
    have hE12:firstNZ [E1,E2] = ej:=hejE.symm
    refine kto (k6z A (ej:=ej) (es:=ess) C5 C7 (sz:=⟨#[]⟩) (nz:=0) (z1:=.slice none 0 0) (z2:=.slice none 0 0) (sw:=⟨#[]⟩) (nw:=0) (w1:=.slice none 0 0) (w2:=.slice none 0 0) (A11) A12
      (fun h' hx' => same_is H (G:=[]) (T:=[]) (n1:=0) (g:=h15) (n:=n) (s:=s) (f.on (Y15.trans hx')) R5' hx' hx' (fun e => absurd e h0) (fun _ => ⟨rfl,rfl⟩) (fun e => absurd e h0))
      (fun h' hx' => same_is H (G:=[]) (T:=[]) (n1:=0) (g:=h15) (n:=n) (s:=s) (f.on (Y15.trans hx')) R10' hx' hx' (fun e => absurd (hee ▸ e) h0) (fun _ => ⟨rfl,rfl⟩) (fun e => absurd (hee ▸ e) h0))) ⟨rfl,rfl,rfl,rfl,by rw [← hE12]; rfl,by rw [hee,← hE12]; rfl,rfl,rfl,trivial⟩
end Go.Tidy
namespace Go.Tidy
open Go Go.Proofs Tab
variable {tp:TProg}
theorem lev_some (F:List Nat):∃ es L,SErr F es ∧ (firstNZ es = 0 → Lev F L):=by
 obtain ⟨es,hE⟩:=serr_ex F
 by_cases h0:firstNZ es = 0
 ·obtain ⟨L,hL⟩:=lev_ex F es hE (firstNZ_zero h0)
  exact ⟨es,L,hE,fun _ => hL⟩
 ·exact ⟨es,[],hE,fun h => absurd h h0⟩
set_option maxHeartbeats 2000000 in
set_option maxRecDepth 100000 in
theorem k6all (H:Has tp) (X:HasX tp) (A:Awk tp) {s s':ByteArray} {n n':Int} {v1 v2 w1 w2:Value} {F G:List Nat} {S T:List (Int × Int)} {h:TH} (r:RunH h v1 v2 F S) (r':RunH h w1 w2 G T) (f:Free0 h.next h) :
  CallW Tryz.prog tp (.func (.func 6) #[] #[]) #[runV s n v1 v2,runV s' n' w1 w2] h fun v _ => v = .bool true:=by
 refine CallW.fnL (H.fn 6 f6 rfl rfl) ?_
 show ∀ a,Kn _ a → W Tryz.prog tp false c6 a h _
 rw [c6_eq]
 obtain ⟨bv1,kv1,rfl⟩:=r.f.form
 obtain ⟨bv2,kv2,rfl⟩:=r.s.form
 obtain ⟨bw1,kw1,rfl⟩:=r'.f.form
 obtain ⟨bw2,kw2,rfl⟩:=r'.s.form
 refine WL.sr <| WOL.box rfl fun h1 N1 => ?_
 refine WOL.box rfl fun h2 N2 => ?_
 refine WOL.as rfl <| WOL.nil <| keep [(2,_),(3,_)] ⟨rfl,rfl,trivial⟩ ?_
 have X2:=N1.hx.trans N2.hx
 have A2:=N1.at_.hx N2.hx
 have A3:=N2.at_
 refine WL.seq <| WL.sr <| WOL.ld rfl (load_row tp46 A2 rfl (Nat.le_of_ble_eq_true rfl)) ?_
 refine WOL.cl1 rfl rfl ((k23 H (s:=s) (n:=n) (r.f.hx X2) (r.s.hx X2)).mono ?_)
 rintro v h3 ⟨rfl,X3⟩
 have Y3:=X2.trans X3
 have exit:∀ g,∀ a,Kn [(20,.bool true)] a → W Tryz.prog tp false (.cond (Ot 20) (.seq (.reg r6_2) .ret) .skip) a g (andThen (fun a h => W Tryz.prog tp false rest6 a h (Fin Tryz.prog f6.results fun v _ => v = .bool true)) (Fin Tryz.prog f6.results fun v _ => v = .bool true)):=by
  intro g
  refine WL.yes rfl <| WL.sr <| WOL.cl0 rfl ((k11 A g).mono ?_)
  rintro v h4 ⟨rfl,rfl⟩
  refine WOL.as rfl <| WOL.nil ?_
  exact WL.ret (WL.end_ rfl rfl)
 cases hb:shortB s F.length S.length with
 | false =>
  refine WOL.nt rfl <| WOL.mv rfl <| WOL.skp (b:=true) rfl rfl <| WOL.skp (b:=true) rfl rfl <| WOL.skp (b:=true) rfl rfl <| WOL.pkt rfl rfl <| WOL.nil ?_
  exact kto (exit h3) ⟨rfl,trivial⟩
 | true =>
  refine WOL.nt rfl <| WOL.mv rfl <| WOL.now (b:=false) rfl rfl <| WOL.ld rfl (load_row tp46 (A3.hx X3) rfl (Nat.le_of_ble_eq_true rfl)) <| WOL.now (b:=false) rfl rfl ?_
  refine WOL.cl1 rfl rfl ((k23 H (s:=s') (n:=n') (r'.f.hx Y3) (r'.s.hx Y3)).mono ?_)
  rintro v h4 ⟨rfl,X4⟩
  have Y4:=Y3.trans X4
  refine WOL.now (b:=false) rfl rfl <| WOL.nt rfl <| WOL.pkf rfl rfl <| WOL.nil ?_
  cases hb':shortB s' G.length T.length with
  | false => exact kto (exit h4) ⟨rfl,trivial⟩
  | true =>
   obtain ⟨hF,hS⟩:=short_small hb
   obtain ⟨hG,hT⟩:=short_small hb'
   obtain ⟨es,L,hE,hL⟩:=lev_some F
   obtain ⟨es',L',hE',hL'⟩:=lev_some G
   refine WL.no rfl <| WL.skip ?_
   exact kto (k6p H X A (r.hx Y4) (r'.hx Y4) hE hL hE' hL' (by omega) (by omega) (by omega) (by omega) (f.on Y4) ((A2.hx X3).hx X4) ((A3.hx X3).hx X4)) ⟨rfl,rfl,trivial⟩
attribute [local irreducible] Ty valOf
theorem law6:Law tpE 6 5 [46,46]:=by
 intro h us f ha
 match us,ha with
 | [a0,a1],⟨⟨p0,y0,e0⟩,⟨p1,y1,e1⟩,_⟩ =>
  obtain ⟨s,z,v1,v2,F,S,rfl,r⟩:=ty_run y0
  obtain ⟨s',z',w1,w2,G,T,rfl,r'⟩:=ty_run y1
  rw [val_agg (.inl ⟨_,Tryz.underlying46⟩)] at e0 e1
  subst e0 e1
  exact k6all hasE hasXE awkE (s:=s) (s':=s') (n:=z) (n':=z') r r' f
end Go.Tidy
