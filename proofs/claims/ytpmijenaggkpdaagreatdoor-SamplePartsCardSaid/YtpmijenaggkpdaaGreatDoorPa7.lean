/- A part of the proof. -/
import Derived.Test.YtpmijenaggkpdaaGreatDoorPa6
import Derived.Test.YtpmijenaggkpdaaGreatDoorPa2
import Derived.Test.YtpmijenaggkpdaaGreatDoorPa5
set_option linter.all false
namespace Go.Tidy
open Go Go.Proofs Tab
variable {tp:TProg}
theorem cellsL_flat:∀ m:Nat,(List.replicate m [Value.int .i64 0,.bool false]).flatten = cat encC (List.replicate m ((0:Int),false))
  | 0 => rfl
  | m + 1 => by rw [List.replicate_succ,List.replicate_succ,List.flatten_cons,cat_cons,cellsL_flat m]; rfl
theorem sl135:pv Tryz.prog (Instr.sliceAt 135 (.slice none 0 0) none (some (.int .i64 0)) none) = some (.slice none 0 0):=by kernel_rfl
theorem u201:Tryz.prog.underlying 201 = some (.slice 135):=by kernel_rfl
theorem tp135:Tp Tryz.prog 135 1 [.slice none 0 0] false:=tp_of (by kernel_rfl) (by kernel_rfl) rfl
theorem k149 (H:Has tp) {m:Nat} {h:TH} (hm:0 < m) (hm2:m ≤ 1000000) :
    CallW Tryz.prog tp (.func (.func 149) #[] #[]) #[.slice none 0 0,.int .i64 (m:Nat)] h fun v h' => v = .slice (some ⟨h.next,0,none⟩) 0 m ∧ New h h' (.cells (cat encC (List.replicate m ((0:Int),false))) false true 134):=by
  refine CallW.fnL (H.fn 149 f149 rfl rfl) ?_
  refine WL.sr <| WOL.as rfl <| WOL.nil <| keep [(0,_),(1,_)] ⟨rfl,rfl,trivial⟩ ?_
  refine WL.seq <| WL.sr <| WOL.mv rfl <| WOL.bi (v:=.bool (decide ((m:Int) < 0))) rfl rfl rfl ?_
  rw [decide_eq_false (by omega:¬ (m:Int) < 0)]
  refine WOL.nil <| WL.no rfl <| WL.skip ?_
  refine WL.seq <| WL.sr <| WOL.mv rfl <| WOL.mv rfl <| WOL.capN rfl u135 <| WOL.mv rfl <| WOL.lenN rfl u135 ?_
  refine WOL.bi (v:=zi 0) rfl rfl rfl ?_
  refine WOL.bi (v:=zi (m:Nat)) rfl rfl (by show some (Value.int .i64 (fwrap .i64 ((m:Int) - 0))) = _; rw [fwrap_i64 (by omega) (by omega),Int.sub_zero]) ?_
  refine WOL.as rfl <| WOL.nil <| keep [(0,_),(1,_)] ⟨rfl,rfl,trivial⟩ ?_
  refine WL.sr <| WOL.mv rfl <| WOL.bi (v:=.bool (decide ((m:Int) > 0))) rfl rfl rfl ?_
  rw [decide_eq_true (by omega:(m:Int) > 0)]
  refine WOL.nil <| keep [(0,_),(1,_),(16,_)] ⟨rfl,rfl,rfl,trivial⟩ ?_
  refine WL.yes rfl <| WL.reg <| WOL.mv rfl <| WOL.mv rfl <| WOL.capN rfl u135 <| WOL.slN rfl rfl sl135 <| WOL.mv rfl ?_
  have hall:((List.replicate m [Value.int .i64 0,.bool false]).flatten).all oneCell = true:=by rw [cellsL_flat]; exact eC.all _
  refine WOL.ap rfl rfl (append_zeros u135 Tryz.underlying3 tp134 (by decide) hm (by omega) hall) ?_
  have A:At (h.new (.cells (List.replicate m [Value.int .i64 0,.bool false]).flatten false true 134)) h.next (.cells (List.replicate m [Value.int .i64 0,.bool false]).flatten false true 134):=At.new _ _
  refine WOL.mv rfl <| WOL.lenN rfl u135 <| WOL.sl2 rfl rfl (sliceT_head u135 tp134 A) ?_
  refine WOL.as rfl <| WOL.nil <| keep [(0,_)] ⟨rfl,trivial⟩ ?_
  refine WL.sr <| WOL.mv rfl <| WOL.as rfl <| WOL.nil <| keep [(4,_)] ⟨rfl,trivial⟩ ?_
  refine WL.ret (WL.end_ rfl ⟨rfl,?_⟩)
  rw [cellsL_flat]
  exact New.mk' _ _
def lenSum (Cs:List (List (Int × Bool))):Nat:=(Cs.map List.length).sum
theorem lenSum_take {Cs:List (List (Int × Bool))} {i:Nat} {C:List (Int × Bool)} (h:Cs[i]? = some C):lenSum (Cs.take (i + 1)) = lenSum (Cs.take i) + C.length:=by
  unfold lenSum
  rw [take_succ_get h]
  simp
theorem flat_take {Cs:List (List (Int × Bool))} {i:Nat} {C:List (Int × Bool)} (h:Cs[i]? = some C):(Cs.take (i + 1)).flatten = (Cs.take i).flatten ++ C:=by
  rw [take_succ_get h]; simp
theorem flat_len (Cs:List (List (Int × Bool))):Cs.flatten.length = lenSum Cs:=by simp [lenSum,List.length_flatten]
theorem lenSum_le (Cs:List (List (Int × Bool))) (i:Nat):lenSum (Cs.take i) ≤ lenSum Cs:=by
  conv => rhs; rw [← List.take_append_drop i Cs]
  unfold lenSum
  rw [List.map_append,List.sum_append]
  omega
theorem splice_fill (A C:List (Int × Bool)) (m:Nat) (h:A.length + C.length ≤ m):splice (cat encC (A ++ List.replicate (m - A.length) ((0:Int),false))) (A.length * 2) (cat encC C) = cat encC (A ++ C ++ List.replicate (m - (A.length + C.length)) ((0:Int),false)):=by
  have hA:(cat encC A).length = A.length * 2:=eC.cat_len A
  have hC:(cat encC C).length = C.length * 2:=eC.cat_len C
  unfold splice
  rw [hC,cat_append,List.take_append_of_le_length (by omega),List.take_of_length_le (by omega),cat_append,cat_append,List.append_assoc]
  congr 2
  rw [List.drop_append,List.drop_eq_nil_of_le (by omega),hA,List.nil_append,show A.length * 2 + C.length * 2 - A.length * 2 = C.length * 2 by omega,eC.drop,List.drop_replicate]
  congr 2
  omega
structure Rows3 (h:TH) (b:Nat) (Xs:List Value) (Cs:List (List (Int × Bool))):Prop where
  at_:At h b (.cells Xs true true 135)
  len:Xs.length = Cs.length
  sl:∀ (i:Nat) (x:Value) (C:List (Int × Bool)),Xs[i]? = some x → Cs[i]? = some C → SlL encC 2 h x C
theorem Rows3.hx {h h':TH} {b:Nat} {Xs:List Value} {Cs:List (List (Int × Bool))} (r:Rows3 h b Xs Cs) (x:HX h h'):Rows3 h' b Xs Cs:=⟨r.at_.hx x,r.len,fun i y C h1 h2 => (r.sl i y C h1 h2).hx x⟩
set_option maxRecDepth 10000 in
theorem k108 (H:Has tp) {b0:Nat} {Xs:List Value} {Cs:List (List (Int × Bool))} {h:TH} (r:Rows3 h b0 Xs Cs) (hlen:Xs.length ≤ 1000) (hpos:0 < lenSum Cs) (hmax:lenSum Cs ≤ 100000) (f:Free0 h.next h) :
    CallW Tryz.prog tp (.func (.func 108) #[] #[]) #[.slice (some ⟨b0,0,none⟩) Xs.length Xs.length] h fun v h' => ∃ b,v = .slice (some ⟨b,0,none⟩) (lenSum Cs) (lenSum Cs) ∧ h.next ≤ b ∧ At h' b (.cells (cat encC Cs.flatten) false true 134) ∧ HX h h':=by
  have slX:SlC h (.slice (some ⟨b0,0,none⟩) Xs.length Xs.length) 1 Xs.length Xs:=SlC.own (by omega) r.at_
  refine CallW.fnL (H.fn 108 f108 rfl rfl) ?_
  refine WL.sr <| WOL.as rfl <| WOL.nil <| keep [(0,_)] ⟨rfl,trivial⟩ ?_
  refine WL.sr <| WOL.as rfl <| WOL.nil <| keep [(0,_),(3,_)] ⟨rfl,rfl,trivial⟩ ?_
  refine WL.seq <| WL.sr <| WOL.mv rfl <| WOL.len rfl slX u201 <| WOL.mv rfl <| WOL.nil ?_
  refine WL.block ?_
  refine kto (WL.loop (L:=[(0,.slice (some ⟨b0,0,none⟩) Xs.length Xs.length),(3,zi 0),(9,.slice (some ⟨b0,0,none⟩) Xs.length Xs.length),(10,zi Xs.length),(11,zi 0)]) (fun k a h2 => h2 = h ∧ ∃ j:Nat,j ≤ Xs.length ∧ k = Xs.length - j ∧ Kn [(0,.slice (some ⟨b0,0,none⟩) Xs.length Xs.length),(3,zi (lenSum (Cs.take j):Nat)),(9,.slice (some ⟨b0,0,none⟩) Xs.length Xs.length),(10,zi Xs.length),(11,zi (j:Nat))] a) Xs.length (fun a q => ⟨rfl,0,by omega,by omega,q.sub ⟨rfl,rfl,rfl,rfl,rfl,trivial⟩⟩) ?_) ⟨rfl,rfl,rfl,rfl,rfl,trivial⟩
  rintro k a h2 ⟨rfl,j,hj,rfl,q⟩
  refine q.go ?_
  refine WL.sr <| WOL.bi (v:=.bool (decide ((j:Int) < Xs.length))) rfl rfl rfl ?_
  refine WOL.nil <| keep [(0,_),(3,_),(9,_),(10,_),(11,_),(12,_)] ⟨rfl,rfl,rfl,rfl,rfl,rfl,trivial⟩ ?_
  have hrl:=r.len
  by_cases hlt:j < Xs.length
  · rw [decide_eq_true (Int.ofNat_lt.2 hlt)]
    have hX:Xs[j]? = some Xs[j]:=List.getElem?_eq_getElem hlt
    have hC:Cs[j]? = some Cs[j]:=List.getElem?_eq_getElem (by omega)
    have sx:=r.sl j _ _ hX hC
    have hs:=lenSum_take hC
    have hle:=lenSum_le Cs (j + 1)
    generalize Xs[j] = x at *
    generalize Cs[j] = C at *
    obtain ⟨b,o,cc,fix,wr,el,e1,e2,e3,e4,e5⟩:=slX.at u201 tp135 hlt (k:=.i64)
    have e6:cc[o]? = some x:=by have:=e5 0 (by decide); rw [Nat.add_zero,Nat.mul_one,Nat.add_zero,hX] at this; exact this
    refine WL.seq <| WL.yes rfl <| WL.skip <| WL.seq <| WL.block ?_
    refine WL.sr <| WOL.ix rfl rfl e1 <| WOL.ld rfl (load_one tp135 e2 e6) <| WOL.as rfl <| WOL.nil <| keep [(0,_),(3,_),(5,_),(9,_),(10,_),(11,_)] ⟨rfl,rfl,rfl,rfl,rfl,rfl,trivial⟩ ?_
    refine WL.sr <| WOL.mv rfl <| WOL.mv rfl <| WOL.len rfl sx u135 ?_
    refine WOL.bi (v:=zi ((lenSum (Cs.take (j + 1)):Nat):Int)) rfl rfl (by show some (Value.int .i64 (fwrap .i64 (((lenSum (Cs.take j):Nat):Int) + (C.length:Int)))) = _; rw [fwrap_i64 (by omega) (by omega),hs]; rfl) ?_
    refine WOL.as rfl <| WOL.nil <| keep [(0,_),(3,_),(9,_),(10,_),(11,_)] ⟨rfl,rfl,rfl,rfl,rfl,trivial⟩ ?_
    refine WL.sr <| WOL.mv rfl <| WOL.bi (v:=.bool (decide (((lenSum (Cs.take (j + 1)):Nat):Int) < 0))) rfl rfl rfl ?_
    rw [decide_eq_false (by omega:¬ ((lenSum (Cs.take (j + 1)):Nat):Int) < 0)]
    refine WOL.nil <| WL.no rfl <| WL.skip ?_
    refine WL.reg <| WOL.bi (v:=zi ((j + 1:Nat):Int)) rfl rfl (by show some (Value.int .i64 (fwrap .i64 ((j:Int) + 1))) = _; rw [fwrap_i64 (by omega) (by omega)]; rfl) ?_
    refine WOL.mv rfl <| WOL.nil ?_
    exact fun a q => ⟨Xs.length - (j + 1),by omega,rfl,j + 1,by omega,rfl,q.sub ⟨rfl,rfl,rfl,rfl,rfl,trivial⟩⟩
  · rw [decide_eq_false (by omega:¬ (j:Int) < (Xs.length:Int))]
    refine WL.seq <| WL.no rfl <| WL.exit ?_
    obtain rfl:j = Xs.length:=by omega
    rw [show Cs.take Xs.length = Cs from List.take_of_length_le (by omega)]
    refine WL.sr <| WOL.mv rfl <| WOL.cl2 rfl rfl rfl ((k149 H hpos (by omega)).mono ?_)
    rintro v h3 ⟨rfl,N3⟩
    refine WOL.as rfl <| WOL.nil <| keep [(0,_),(6,_)] ⟨rfl,rfl,trivial⟩ ?_
    have n3:=N3.next
    refine WL.seq <| WL.sr <| WOL.mv rfl <| WOL.len rfl (slX.hx N3.hx) u201 <| WOL.mv rfl <| WOL.nil ?_
    refine WL.block ?_
    refine kto (WL.loop (L:=[(6,.slice (some ⟨h2.next,0,none⟩) 0 (lenSum Cs)),(25,.slice (some ⟨b0,0,none⟩) Xs.length Xs.length),(26,zi Xs.length),(27,zi 0)]) (fun k a h4 => ∃ j:Nat,j ≤ Xs.length ∧ k = Xs.length - j ∧ HX h2 h4 ∧ At h4 h2.next (.cells (cat encC ((Cs.take j).flatten ++ List.replicate (lenSum Cs - (Cs.take j).flatten.length) ((0:Int),false))) false true 134) ∧
      Kn [(6,.slice (some ⟨h2.next,0,none⟩) (lenSum (Cs.take j)) (lenSum Cs)),(25,.slice (some ⟨b0,0,none⟩) Xs.length Xs.length),(26,zi Xs.length),(27,zi (j:Nat))] a) Xs.length (fun a q => ⟨0,by omega,by omega,N3.hx,N3.at_,q.sub ⟨rfl,rfl,rfl,rfl,trivial⟩⟩) ?_) ⟨rfl,rfl,rfl,rfl,trivial⟩
    rintro k a h4 ⟨j,hj,rfl,X4,A4,q⟩
    refine q.go ?_
    refine WL.sr <| WOL.bi (v:=.bool (decide ((j:Int) < Xs.length))) rfl rfl rfl ?_
    refine WOL.nil <| keep [(6,_),(25,_),(26,_),(27,_),(28,_)] ⟨rfl,rfl,rfl,rfl,rfl,trivial⟩ ?_
    by_cases hlt:j < Xs.length
    · rw [decide_eq_true (Int.ofNat_lt.2 hlt)]
      have hX:Xs[j]? = some Xs[j]:=List.getElem?_eq_getElem hlt
      have hC:Cs[j]? = some Cs[j]:=List.getElem?_eq_getElem (by omega)
      have sx:=(r.sl j _ _ hX hC).hx X4
      have hs:=lenSum_take hC
      have hfl:=flat_take hC
      have hle:=lenSum_le Cs (j + 1)
      generalize Xs[j] = x at *
      generalize Cs[j] = C at *
      have fl:=flat_len (Cs.take j)
      obtain ⟨b,o,cc,fix,wr,el,e1,e2,e3,e4,e5⟩:=(slX.hx X4).at u201 tp135 hlt (k:=.i64)
      have e6:cc[o]? = some x:=by have:=e5 0 (by decide); rw [Nat.add_zero,Nat.mul_one,Nat.add_zero,hX] at this; exact this
      refine WL.seq <| WL.yes rfl <| WL.skip <| WL.seq <| WL.block ?_
      refine WL.sr <| WOL.ix rfl rfl e1 <| WOL.ld rfl (load_one tp135 e2 e6) <| WOL.as rfl <| WOL.nil <| keep [(6,_),(8,_),(25,_),(26,_),(27,_)] ⟨rfl,rfl,rfl,rfl,rfl,trivial⟩ ?_
      have hcl:(cat encC ((Cs.take j).flatten ++ List.replicate (lenSum Cs - (Cs.take j).flatten.length) ((0:Int),false))).length = lenSum Cs * 2:=by rw [eC.cat_len]; simp [← flat_len] at *; omega
      obtain ⟨h5,ap,P5⟩:=append_into (j:=lenSum (Cs.take j)) (k:=C.length) (cap:=lenSum Cs) (m:=h2.next) u135 tp134 (by decide) A4 hcl sx (by omega) (eC.all C) (f.hx X4) (Nat.le_refl _)
      refine WL.reg <| WOL.mv rfl <| WOL.mv rfl <| WOL.ap rfl rfl ap <| WOL.as rfl <| WOL.nil ?_
      have A5:=P5.at_
      rw [← fl,splice_fill _ _ _ (by omega),← hfl] at A5
      rw [← hs]
      refine WL.reg <| WOL.bi (v:=zi ((j + 1:Nat):Int)) rfl rfl (by show some (Value.int .i64 (fwrap .i64 ((j:Int) + 1))) = _; rw [fwrap_i64 (by omega) (by omega)]; rfl) ?_
      refine WOL.mv rfl <| WOL.nil ?_
      exact fun a q => ⟨Xs.length - (j + 1),by omega,j + 1,by omega,rfl,P5.hx _ X4 (Nat.le_refl _),by rw [hfl,List.length_append,← hfl]; exact A5,q.sub ⟨rfl,rfl,rfl,rfl,trivial⟩⟩
    · rw [decide_eq_false (by omega:¬ (j:Int) < (Xs.length:Int))]
      refine WL.seq <| WL.no rfl <| WL.exit ?_
      obtain rfl:j = Xs.length:=by omega
      rw [show Cs.take Xs.length = Cs from List.take_of_length_le (by omega),flat_len,Nat.sub_self] at A4
      rw [show Cs.take Xs.length = Cs from List.take_of_length_le (by omega)]
      refine WL.sr <| WOL.mv rfl <| WOL.as rfl <| WOL.nil <| keep [(2,_)] ⟨rfl,trivial⟩ ?_
      exact WL.ret (WL.end_ rfl ⟨h2.next,rfl,Nat.le_refl _,by simpa using A4,X4⟩)
theorem k149z (H:Has tp) {h:TH}:CallW Tryz.prog tp (.func (.func 149) #[] #[]) #[.slice none 0 0,.int .i64 ((0:Nat):Int)] h fun v h' => v = .slice none 0 0 ∧ h' = h:=by
  refine CallW.fnL (H.fn 149 f149 rfl rfl) ?_
  refine WL.sr <| WOL.as rfl <| WOL.nil <| keep [(0,_),(1,_)] ⟨rfl,rfl,trivial⟩ ?_
  refine WL.seq <| WL.sr <| WOL.mv rfl <| WOL.bi (v:=.bool false) rfl rfl rfl ?_
  refine WOL.nil <| WL.no rfl <| WL.skip ?_
  refine WL.seq <| WL.sr <| WOL.mv rfl <| WOL.mv rfl <| WOL.capN rfl u135 <| WOL.mv rfl <| WOL.lenN rfl u135 ?_
  refine WOL.bi (v:=zi 0) rfl rfl rfl ?_
  refine WOL.bi (v:=zi 0) rfl rfl rfl ?_
  refine WOL.as rfl <| WOL.nil <| keep [(0,_),(1,_)] ⟨rfl,rfl,trivial⟩ ?_
  refine WL.sr <| WOL.mv rfl <| WOL.bi (v:=.bool false) rfl rfl rfl ?_
  refine WOL.nil <| keep [(0,_),(1,_),(16,_)] ⟨rfl,rfl,rfl,trivial⟩ ?_
  refine WL.no rfl <| WL.skip ?_
  refine WL.sr <| WOL.mv rfl <| WOL.as rfl <| WOL.nil <| keep [(4,_)] ⟨rfl,trivial⟩ ?_
  exact WL.ret (WL.end_ rfl ⟨rfl,rfl⟩)
set_option maxRecDepth 10000 in
theorem k108z (H:Has tp) {b0:Nat} {Xs:List Value} {Cs:List (List (Int × Bool))} {h:TH} (r:Rows3 h b0 Xs Cs) (hlen:Xs.length ≤ 1000) (hpos:lenSum Cs = 0) :
    CallW Tryz.prog tp (.func (.func 108) #[] #[]) #[.slice (some ⟨b0,0,none⟩) Xs.length Xs.length] h fun v h' => v = .slice none 0 0 ∧ h' = h:=by
  have slX:SlC h (.slice (some ⟨b0,0,none⟩) Xs.length Xs.length) 1 Xs.length Xs:=SlC.own (by omega) r.at_
  refine CallW.fnL (H.fn 108 f108 rfl rfl) ?_
  refine WL.sr <| WOL.as rfl <| WOL.nil <| keep [(0,_)] ⟨rfl,trivial⟩ ?_
  refine WL.sr <| WOL.as rfl <| WOL.nil <| keep [(0,_),(3,_)] ⟨rfl,rfl,trivial⟩ ?_
  refine WL.seq <| WL.sr <| WOL.mv rfl <| WOL.len rfl slX u201 <| WOL.mv rfl <| WOL.nil ?_
  refine WL.block ?_
  refine kto (WL.loop (L:=[(0,.slice (some ⟨b0,0,none⟩) Xs.length Xs.length),(3,zi 0),(9,.slice (some ⟨b0,0,none⟩) Xs.length Xs.length),(10,zi Xs.length),(11,zi 0)]) (fun k a h2 => h2 = h ∧ ∃ j:Nat,j ≤ Xs.length ∧ k = Xs.length - j ∧ Kn [(0,.slice (some ⟨b0,0,none⟩) Xs.length Xs.length),(3,zi (lenSum (Cs.take j):Nat)),(9,.slice (some ⟨b0,0,none⟩) Xs.length Xs.length),(10,zi Xs.length),(11,zi (j:Nat))] a) Xs.length (fun a q => ⟨rfl,0,by omega,by omega,q.sub ⟨rfl,rfl,rfl,rfl,rfl,trivial⟩⟩) ?_) ⟨rfl,rfl,rfl,rfl,rfl,trivial⟩
  rintro k a h2 ⟨rfl,j,hj,rfl,q⟩
  refine q.go ?_
  refine WL.sr <| WOL.bi (v:=.bool (decide ((j:Int) < Xs.length))) rfl rfl rfl ?_
  refine WOL.nil <| keep [(0,_),(3,_),(9,_),(10,_),(11,_),(12,_)] ⟨rfl,rfl,rfl,rfl,rfl,rfl,trivial⟩ ?_
  have hrl:=r.len
  by_cases hlt:j < Xs.length
  · rw [decide_eq_true (Int.ofNat_lt.2 hlt)]
    have hX:Xs[j]? = some Xs[j]:=List.getElem?_eq_getElem hlt
    have hC:Cs[j]? = some Cs[j]:=List.getElem?_eq_getElem (by omega)
    have sx:=r.sl j _ _ hX hC
    have hs:=lenSum_take hC
    have hle:=lenSum_le Cs (j + 1)
    generalize Xs[j] = x at *
    generalize Cs[j] = C at *
    obtain ⟨b,o,cc,fix,wr,el,e1,e2,e3,e4,e5⟩:=slX.at u201 tp135 hlt (k:=.i64)
    have e6:cc[o]? = some x:=by have:=e5 0 (by decide); rw [Nat.add_zero,Nat.mul_one,Nat.add_zero,hX] at this; exact this
    refine WL.seq <| WL.yes rfl <| WL.skip <| WL.seq <| WL.block ?_
    refine WL.sr <| WOL.ix rfl rfl e1 <| WOL.ld rfl (load_one tp135 e2 e6) <| WOL.as rfl <| WOL.nil <| keep [(0,_),(3,_),(5,_),(9,_),(10,_),(11,_)] ⟨rfl,rfl,rfl,rfl,rfl,rfl,trivial⟩ ?_
    refine WL.sr <| WOL.mv rfl <| WOL.mv rfl <| WOL.len rfl sx u135 ?_
    refine WOL.bi (v:=zi ((lenSum (Cs.take (j + 1)):Nat):Int)) rfl rfl (by show some (Value.int .i64 (fwrap .i64 (((lenSum (Cs.take j):Nat):Int) + (C.length:Int)))) = _; rw [fwrap_i64 (by omega) (by omega),hs]; rfl) ?_
    refine WOL.as rfl <| WOL.nil <| keep [(0,_),(3,_),(9,_),(10,_),(11,_)] ⟨rfl,rfl,rfl,rfl,rfl,trivial⟩ ?_
    refine WL.sr <| WOL.mv rfl <| WOL.bi (v:=.bool (decide (((lenSum (Cs.take (j + 1)):Nat):Int) < 0))) rfl rfl rfl ?_
    rw [decide_eq_false (by omega:¬ ((lenSum (Cs.take (j + 1)):Nat):Int) < 0)]
    refine WOL.nil <| WL.no rfl <| WL.skip ?_
    refine WL.reg <| WOL.bi (v:=zi ((j + 1:Nat):Int)) rfl rfl (by show some (Value.int .i64 (fwrap .i64 ((j:Int) + 1))) = _; rw [fwrap_i64 (by omega) (by omega)]; rfl) ?_
    refine WOL.mv rfl <| WOL.nil ?_
    exact fun a q => ⟨Xs.length - (j + 1),by omega,rfl,j + 1,by omega,rfl,q.sub ⟨rfl,rfl,rfl,rfl,rfl,trivial⟩⟩
  · rw [decide_eq_false (by omega:¬ (j:Int) < (Xs.length:Int))]
    refine WL.seq <| WL.no rfl <| WL.exit ?_
    obtain rfl:j = Xs.length:=by omega
    rw [show Cs.take Xs.length = Cs from List.take_of_length_le (by omega)]
    rw [hpos]
    refine WL.sr <| WOL.mv rfl <| WOL.cl2 rfl rfl rfl ((k149z H).mono ?_)
    rintro v h2 ⟨rfl,rfl⟩
    refine WOL.as rfl <| WOL.nil <| keep [(0,_),(6,_)] ⟨rfl,rfl,trivial⟩ ?_
    refine WL.seq <| WL.sr <| WOL.mv rfl <| WOL.len rfl slX u201 <| WOL.mv rfl <| WOL.nil ?_
    refine WL.block ?_
    refine kto (WL.loop (L:=[(6,.slice none 0 0),(25,.slice (some ⟨b0,0,none⟩) Xs.length Xs.length),(26,zi Xs.length),(27,zi 0)]) (fun k a h4 => h4 = h2 ∧ ∃ j:Nat,j ≤ Xs.length ∧ k = Xs.length - j ∧
      Kn [(6,.slice none 0 0),(25,.slice (some ⟨b0,0,none⟩) Xs.length Xs.length),(26,zi Xs.length),(27,zi (j:Nat))] a) Xs.length (fun a q => ⟨rfl,0,by omega,by omega,q.sub ⟨rfl,rfl,rfl,rfl,trivial⟩⟩) ?_) ⟨rfl,rfl,rfl,rfl,trivial⟩
    rintro k a h4 ⟨rfl,j,hj,rfl,q⟩
    refine q.go ?_
    refine WL.sr <| WOL.bi (v:=.bool (decide ((j:Int) < Xs.length))) rfl rfl rfl ?_
    refine WOL.nil <| keep [(6,_),(25,_),(26,_),(27,_),(28,_)] ⟨rfl,rfl,rfl,rfl,rfl,trivial⟩ ?_
    by_cases hlt:j < Xs.length
    · rw [decide_eq_true (Int.ofNat_lt.2 hlt)]
      have hX:Xs[j]? = some Xs[j]:=List.getElem?_eq_getElem hlt
      have hC:Cs[j]? = some Cs[j]:=List.getElem?_eq_getElem (by omega)
      have sx:=r.sl j _ _ hX hC
      have hs:=lenSum_take hC
      have hle:=lenSum_le Cs (j + 1)
      generalize Xs[j] = x at *
      generalize Cs[j] = C at *
      obtain ⟨b,o,cc,fix,wr,el,e1,e2,e3,e4,e5⟩:=slX.at u201 tp135 hlt (k:=.i64)
      have e6:cc[o]? = some x:=by have:=e5 0 (by decide); rw [Nat.add_zero,Nat.mul_one,Nat.add_zero,hX] at this; exact this
      obtain rfl:C = []:=List.eq_nil_of_length_eq_zero (by omega)
      refine WL.seq <| WL.yes rfl <| WL.skip <| WL.seq <| WL.block ?_
      refine WL.sr <| WOL.ix rfl rfl e1 <| WOL.ld rfl (load_one tp135 e2 e6) <| WOL.as rfl <| WOL.nil <| keep [(6,_),(8,_),(25,_),(26,_),(27,_)] ⟨rfl,rfl,rfl,rfl,rfl,trivial⟩ ?_
      refine WL.reg <| WOL.mv rfl <| WOL.mv rfl <| WOL.ap rfl rfl (append_none (m:=0) (cap:=0) u135 tp134 sx (by omega)) <| WOL.as rfl <| WOL.nil ?_
      refine WL.reg <| WOL.bi (v:=zi ((j + 1:Nat):Int)) rfl rfl (by show some (Value.int .i64 (fwrap .i64 ((j:Int) + 1))) = _; rw [fwrap_i64 (by omega) (by omega)]; rfl) ?_
      refine WOL.mv rfl <| WOL.nil ?_
      exact fun a q => ⟨Xs.length - (j + 1),by omega,rfl,j + 1,by omega,rfl,q.sub ⟨rfl,rfl,rfl,rfl,trivial⟩⟩
    · rw [decide_eq_false (by omega:¬ (j:Int) < (Xs.length:Int))]
      refine WL.seq <| WL.no rfl <| WL.exit ?_
      refine WL.sr <| WOL.mv rfl <| WOL.as rfl <| WOL.nil <| keep [(2,_)] ⟨rfl,trivial⟩ ?_
      exact WL.ret (WL.end_ rfl ⟨rfl,rfl⟩)
theorem k108' (H:Has tp) {b0:Nat} {Xs:List Value} {Cs:List (List (Int × Bool))} {h:TH} (r:Rows3 h b0 Xs Cs) (hlen:Xs.length ≤ 1000) (hmax:lenSum Cs ≤ 100000) (f:Free0 h.next h) :
    CallW Tryz.prog tp (.func (.func 108) #[] #[]) #[.slice (some ⟨b0,0,none⟩) Xs.length Xs.length] h fun v h' => SlL encC 2 h' v Cs.flatten ∧ HX h h':=by
  by_cases h0:lenSum Cs = 0
  · refine (k108z H r hlen h0).mono ?_
    rintro v h' ⟨rfl,rfl⟩
    have:Cs.flatten = []:=List.eq_nil_of_length_eq_zero (by rw [flat_len,h0])
    rw [this]
    exact ⟨SlL.nil,HX.refl _⟩
  · refine (k108 H r hlen (by omega) hmax f).mono ?_
    rintro v h' ⟨b,rfl,_,hb,hx⟩
    exact ⟨SlL.own eC hb (flat_len Cs),hx⟩
end Go.Tidy
namespace Go.Tidy
open Go Go.Proofs Tab
variable {tp:TProg}
theorem Rows3.relock {h:TH} {b:Nat} {Xs:List Value} {Cs:List (List (Int × Bool))} (r:Rows3 h b Xs Cs) (M:List Nat):Rows3 (h.withLock M) b Xs Cs:=⟨r.at_.relock M,r.len,fun i y C h1 h2 => (r.sl i y C h1 h2).relock M⟩
theorem filled_v3 {z a b c:Value} (ha:a.cells = #[a]) (hb:b.cells = #[b]) (hc:c.cells = #[c]):filled 1 3 [z] [(0,a),(1,b),(2,c)] = some [a,b,c]:=by simp [filled,zeros,Instr.fill,ha,hb,hc]
def joinE (n:Int) (m:Nat) (n':Int) (m':Nat):Int:=firstNZ [cond (decide (n' < n + m)) 11 0,cond (decide (n' + m' - n > 4096)) 5 0]
def joinErr (E1 E2 n:Int) (m:Nat) (n':Int) (m':Nat):Int:=cond (firstNZ [E1,E2] != 0) (firstNZ [E1,E2]) (joinE n m n' m')
theorem joinE_zero {n n':Int} {m m':Nat} (h:joinE n m n' m' = 0):n + m ≤ n' ∧ n' + m' - n ≤ 4096:=by
  have z:=firstNZ_zero h
  have h1:=z _ (List.mem_cons_self ..)
  have h2:=z (cond (decide (n' + m' - n > 4096)) 5 0) (by simp)
  by_cases c1:n' < n + m
  · rw [decide_eq_true c1] at h1; cases h1
  · by_cases c2:n' + m' - n > 4096
    · rw [decide_eq_true c2] at h2; cases h2
    · omega
def joinC (n n':Int) (C D:List (Int × Bool)):List (Int × Bool):=[C,List.replicate (n' - (n + C.length)).toNat ((0:Int),false),D].flatten
set_option maxHeartbeats 1000000 in
set_option maxRecDepth 10000 in
theorem k49 (H:Has tp) (X:HasX tp) {s s':ByteArray} {n n':Int} {v1 v2 w1 w2:Value} {F G:List Nat} {S T:List (Int × Int)} {es L es' L':List Int} {h:TH} (r:RunH h v1 v2 F S) (r':RunH h w1 w2 G T) (hE:SErr F es) (hL:firstNZ es = 0 → Lev F L) (hE':SErr G es') (hL':firstNZ es' = 0 → Lev G L')
    (hF:F.length ≤ 900000) (hS:S.length ≤ 900000) (hG:G.length ≤ 900000) (hT:T.length ≤ 900000) (f:Free0 h.next h) :
    CallW Tryz.prog tp (.func (.func 49) #[] #[]) #[runV s n v1 v2,runV s' n' w1 w2] h fun v h' => RunR h h' v s n (joinC n n' (cellsL L S) (cellsL L' T)) (joinErr (runE s n F.length S es L) (runE s' n' G.length T es' L') n F.length n' G.length):=by
  refine CallW.fnL (H.fn 49 f49 rfl rfl) ?_
  obtain ⟨bv1,kv1,rfl⟩:=r.f.form
  obtain ⟨bv2,kv2,rfl⟩:=r.s.form
  obtain ⟨bw1,kw1,rfl⟩:=r'.f.form
  obtain ⟨bw2,kw2,rfl⟩:=r'.s.form
  refine WL.sr <| WOL.box rfl fun h1 N1 => ?_
  refine WOL.box rfl fun h2 N2 => ?_
  refine WOL.al tp52 fun h3 N3 => ?_
  have n1:=N1.next
  have n2:=N2.next
  have n3:=N3.next
  have X3:HX h h3:=(N1.hx.trans N2.hx).trans N3.hx
  have A2:=(N1.at_.hx N2.hx).hx N3.hx
  have A3:=N2.at_.hx N3.hx
  have A4:=N3.at_
  refine WOL.as rfl <| WOL.nil <| keep [(2,_),(3,_),(4,_)] ⟨rfl,rfl,rfl,trivial⟩ ?_
  refine WL.seq <| WL.sr <| WOL.ld rfl (load_row tp52 A2 rfl (Nat.le_of_ble_eq_true rfl)) <| WOL.ld rfl (load_row tp52 A3 rfl (Nat.le_of_ble_eq_true rfl)) ?_
  refine WOL.lq1 [h1.next] rfl rfl rfl fun M hM => ((k41 H X (s:=s) (n:=n) ((r.hx X3).relock' M) hE hL (by omega) (by omega) ((f.on X3).held hM (fun b hb => by simp at hb; omega))).mono ?_)
  rintro v h4 ⟨rfl,X4⟩
  replace X4:=X4.relock
  generalize h4.withLock h3.lock = h4 at *
  have Y4:=X3.trans X4
  refine WOL.cl1 rfl rfl ((k41 H X (s:=s') (n:=n') (r'.hx Y4) hE' hL' (by omega) (by omega) (f.on Y4)).mono ?_)
  rintro v h5 ⟨rfl,X5⟩
  have Y5:=Y4.trans X5
  refine WOL.bsl rfl u166 tp30 (by decide) (by decide) (by decide) (filled_ints _ _) fun h8 N8 => ?_
  refine WOL.cl1 rfl rfl ((k71 H (l:=[_,_]) N8.at_.get (by simp)).mono ?_)
  rintro v h8 ⟨rfl,rfl⟩
  have Y8:=Y5.trans N8.hx
  have Z8:=(X4.trans X5).trans N8.hx
  replace A2:=A2.hx Z8
  replace A3:=A3.hx Z8
  replace A4:=A4.hx Z8
  have lt4:=A4.lt
  have z8:=Z8.next
  generalize hE1:runE s n F.length S es L = E1
  generalize hE2:runE s' n' G.length T es' L' = E2
  refine WOL.as rfl <| WOL.nil <| keep [(2,_),(3,_),(4,_),(6,_)] ⟨rfl,rfl,rfl,rfl,trivial⟩ ?_
  refine WL.sr <| WOL.mv rfl <| WOL.bi rfl rfl nzero <| WOL.nil <| keep [(2,_),(3,_),(4,_),(6,_),(16,_)] ⟨rfl,rfl,rfl,rfl,rfl,trivial⟩ ?_
  rcases nz_cases (firstNZ [E1,E2]) with h0 | h0
  · have hje:joinErr E1 E2 n F.length n' G.length = joinE n F.length n' G.length:=by unfold joinErr; rw [h0]; rfl
    rw [hje,h0]
    have z1:E1 = 0:=firstNZ_zero h0 _ (by simp)
    have z2:E2 = 0:=firstNZ_zero h0 _ (by simp)
    have V:=valid_of hL (hE1.trans z1)
    have V':=valid_of hL' (hE2.trans z2)
    have Vm:=V.m
    have Vm':=V'.m
    have V0:=V.n0
    have V1:=V.n1
    have V0':=V'.n0
    have V1':=V'.n1
    have hcl:(cellsL L S).length = F.length:=cells_len V.lev V.in_
    have hcl':(cellsL L' T).length = G.length:=cells_len V'.lev V'.in_
    have lim:=cells_lim V.lev S
    have lim':=cells_lim V'.lev T
    refine WL.no rfl <| WL.skip ?_
    refine WL.sr <| WOL.fa rfl (fa_of fo52_1) <| WOL.ld rfl (load_one tp3 A3 rfl) <| WOL.ld rfl (load_row tp52 A2 rfl (Nat.le_of_ble_eq_true rfl)) <| WOL.ld rfl (load_row tp52 A3 rfl (Nat.le_of_ble_eq_true rfl)) <| WOL.fa rfl (fa_of fo52_1) <| WOL.ld rfl (load_one tp3 A2 rfl) ?_
    refine WOL.lk1 rfl rfl fun M => ((k84 H (s:=s) (n:=n) ((r.f.hx Y8).relock M) V0 (by omega) (by omega)).mono ?_)
    rintro v g1 ⟨rfl,X9⟩
    replace X9:=X9.relock
    generalize g1.withLock h8.lock = g1 at *
    have Y9:=Y8.trans X9
    refine WOL.bi (v:=.bool (decide (n' < n + F.length))) rfl rfl rfl ?_
    refine WOL.lk2 rfl rfl rfl fun M => ((k77 H _ _ _).mono ?_)
    rintro v g2 ⟨rfl,rfl⟩
    rw [TH.relock]
    refine WOL.lk1 rfl rfl fun M => ((k84 H (s:=s') (n:=n') ((r'.f.hx Y9).relock M) V0' (by omega) (by omega)).mono ?_)
    rintro v g2 ⟨rfl,X10⟩
    replace X10:=X10.relock
    generalize g2.withLock g1.lock = g2 at *
    have Y10:=Y9.trans X10
    refine WOL.bi (v:=zi (n' + G.length - n)) rfl rfl (by show some (Value.int .i64 (fwrap .i64 (n' + G.length - n))) = _; rw [fwrap_i64 (by omega) (by omega)]) ?_
    refine WOL.bi (v:=.bool (decide (n' + G.length - n > 4096))) rfl rfl rfl ?_
    refine WOL.cl2 rfl rfl rfl ((k77 H _ _ _).mono ?_)
    rintro v g2 ⟨rfl,rfl⟩
    refine WOL.bsl rfl u166 tp30 (by decide) (by decide) (by decide) (filled_ints _ _) fun g3 N11 => ?_
    refine WOL.cl1 rfl rfl ((k71 H (l:=[_,_]) N11.at_.get (by simp)).mono ?_)
    rintro v g3 ⟨rfl,rfl⟩
    have Y11:=Y10.trans N11.hx
    have Z11:=(X9.trans X10).trans N11.hx
    replace A2:=A2.hx Z11
    replace A3:=A3.hx Z11
    replace A4:=A4.hx Z11
    have lt4':=A4.lt
    generalize hJ:firstNZ [cond (decide (n' < n + F.length)) 11 0,cond (decide (n' + G.length - n > 4096)) 5 0] = J
    have hJ':joinE n F.length n' G.length = J:=hJ
    rw [hJ']
    refine WOL.as rfl <| WOL.nil <| keep [(2,_),(3,_),(4,_),(7,_)] ⟨rfl,rfl,rfl,rfl,trivial⟩ ?_
    refine WL.seq <| WL.sr <| WOL.mv rfl <| WOL.bi rfl rfl nzero <| WOL.nil <| keep [(2,_),(3,_),(4,_),(7,_),(35,_)] ⟨rfl,rfl,rfl,rfl,rfl,trivial⟩ ?_
    rcases nz_cases J with j0 | j0
    · rw [j0]
      obtain ⟨q1,q2⟩:=joinE_zero (hJ'.trans j0)
      refine WL.no rfl <| WL.skip ?_
      obtain ⟨g,hg⟩:∃ g:Nat,n' - (n + F.length) = (g:Int):=⟨(n' - (n + F.length)).toNat,by omega⟩
      refine WL.sr <| WOL.fa rfl (fa_of fo52_1) <| WOL.ld rfl (load_one tp3 A3 rfl) <| WOL.ld rfl (load_row tp52 A2 rfl (Nat.le_of_ble_eq_true rfl)) ?_
      refine WOL.lk1 rfl rfl fun M => ((k84 H (s:=s) (n:=n) ((r.f.hx Y11).relock M) V0 (by omega) (by omega)).mono ?_)
      rintro v g4 ⟨rfl,X12⟩
      replace X12:=X12.relock
      generalize g4.withLock g3.lock = g4 at *
      have Y12:=Y11.trans X12
      refine WOL.bi (v:=zi (g:Nat)) rfl rfl (by show some (Value.int .i64 (fwrap .i64 (n' - (n + F.length)))) = _; rw [fwrap_i64 (by omega) (by omega),hg]) ?_
      refine WOL.ms rfl rfl u135 tp134 (by decide) (by omega) fun g5 N13 => WOL.as rfl <| WOL.nil <| keep [(2,_),(3,_),(4,_),(8,_)] ⟨rfl,rfl,rfl,rfl,trivial⟩ ?_
      have Y13:=Y12.trans N13.hx
      have B8:=N13.at_
      rw [cellsL_flat] at B8
      have n13:=N13.next
      have Z13:=X12.trans N13.hx
      replace A2:=A2.hx Z13
      replace A3:=A3.hx Z13
      replace A4:=A4.hx Z13
      refine WL.sr <| WOL.fa rfl (fa_of fo52_0) <| WOL.ld rfl (load_one tp9 A2 rfl) <| WOL.fa rfl (fa_of fo52_1) <| WOL.ld rfl (load_one tp3 A2 rfl) <| WOL.ld rfl (load_row tp52 A2 rfl (Nat.le_of_ble_eq_true rfl)) <| WOL.mv rfl <| WOL.ld rfl (load_row tp52 A3 rfl (Nat.le_of_ble_eq_true rfl)) ?_
      have y13:=Y13.next
      refine WOL.lq1 [h1.next,h.next,h.next] rfl rfl rfl fun M hM => ((k85 H (s:=s) (n:=n) ((r.hx Y13).relock' M) V.lev (by omega) (by omega) V.in_ ((f.on Y13).held hM (fun b hb => by simp at hb; have:=A2.lt; have:=A3.lt; omega))).mono ?_)
      rintro v g6 ⟨b6,rfl,o6,B6,X14⟩
      replace B6:=B6.relock g5.lock
      replace X14:=X14.relock
      replace o6:g5.next ≤ b6:=o6
      generalize g6.withLock g5.lock = g6 at *
      have Y14:=Y13.trans X14
      have y14:=X14.next
      refine WOL.lq1 [h.next,h.next] rfl rfl rfl fun M hM => ((k85 H (s:=s') (n:=n') ((r'.hx Y14).relock' M) V'.lev (by omega) (by omega) V'.in_ ((f.on Y14).held hM (fun b hb => by simp at hb; have:=A2.lt; omega))).mono ?_)
      rintro v g7 ⟨b7,rfl,o7,B7,X15⟩
      replace B7:=B7.relock g6.lock
      replace X15:=X15.relock
      generalize g7.withLock g6.lock = g7 at *
      have Y15:=Y14.trans X15
      refine WOL.bsl rfl u201 tp135 (by decide) (by decide) (by decide) (filled_v3 rfl rfl rfl) fun g8 N16 => ?_
      have Y16:=Y15.trans N16.hx
      have y16:=Y16.next
      have R3:Rows3 g8 g7.next [.slice (some ⟨b6,0,none⟩) F.length F.length,.slice (some ⟨g4.next,0,none⟩) g g,.slice (some ⟨b7,0,none⟩) G.length G.length] [cellsL L S,List.replicate g ((0:Int),false),cellsL L' T]:=by
        refine ⟨N16.at_,rfl,fun i x C h1 h2 => ?_⟩
        match i,h1,h2 with
        | 0,h1,h2 => cases h1; cases h2; exact SlL.own eC ((B6.hx X15).hx N16.hx) hcl
        | 1,h1,h2 => cases h1; cases h2; exact SlL.own eC (((B8.hx X14).hx X15).hx N16.hx) (by simp)
        | 2,h1,h2 => cases h1; cases h2; exact SlL.own eC (B7.hx N16.hx) hcl'
      have hls:lenSum [cellsL L S,List.replicate g ((0:Int),false),cellsL L' T] = F.length + g + G.length:=by simp [lenSum,hcl,hcl']; omega
      refine WOL.lq1 [h.next,h.next] rfl rfl rfl fun M hM => ((k108' H (R3.relock M) (by simp) (by omega) ((f.on Y16).held hM (fun b hb => by simp at hb; have:=A2.lt; have:=X14.next; have:=X15.next; have:=N16.next; omega))).mono ?_)
      rintro v g9 ⟨B9,X17⟩
      replace B9:=B9.relock g8.lock
      replace X17:=X17.relock
      generalize g9.withLock g8.lock = g9 at *
      have Y17:=Y16.trans X17
      have hjc:joinC n n' (cellsL L S) (cellsL L' T) = [cellsL L S,List.replicate g ((0:Int),false),cellsL L' T].flatten:=by
        unfold joinC; rw [hcl,hg,Int.toNat_natCast]
      rw [hjc]
      have hfl:=flat_len [cellsL L S,List.replicate g ((0:Int),false),cellsL L' T]
      have hlim:∀ c,c ∈ [cellsL L S,List.replicate g ((0:Int),false),cellsL L' T].flatten → c.1.natAbs ≤ 16384:=by
        intro c hc
        simp only [List.mem_flatten,List.mem_cons,List.not_mem_nil,or_false] at hc
        obtain ⟨l,rfl | rfl | rfl,hc⟩:=hc
        · exact lim c hc
        · rw [(List.mem_replicate.1 hc).2]; decide
        · exact lim' c hc
      generalize [cellsL L S,List.replicate g ((0:Int),false),cellsL L' T].flatten = CC at *
      refine WOL.cl3 rfl rfl rfl rfl ((k89 H (s:=s) (n:=n) B9 hlim (by omega) (f.on Y17)).mono ?_)
      rintro v g10 ⟨q3,q4,rfl,X18,O18⟩
      have Y18:=Y17.trans X18
      have y17:=Y17.next
      have z17:=((X14.trans X15).trans N16.hx).trans (X17.trans X18)
      have x1:=(((X14.trans X15).trans N16.hx).trans X17).next
      obtain ⟨bo1,k1,rfl⟩:=O18.r.f.form
      obtain ⟨bo2,k2,rfl⟩:=O18.r.s.form
      have lt5:=A4.lt
      refine WOL.sto rfl rfl tp52 (A4.hx z17) rfl rfl (Nat.le_of_ble_eq_true rfl) rfl (f.hx Y18) (by omega) fun g11 P19 => ?_
      refine WOL.as rfl <| WOL.nil ?_
      exact WL.ret (WL.endC1 (t:=4) (s:=5) rfl rfl (load_row tp52 P19.at_ rfl (Nat.le_of_ble_eq_true rfl)) ⟨P19.hx _ Y18 (by omega),.inr ⟨rfl,_,_,rfl,(O18.away P19 (by omega)).le (by omega)⟩⟩)
    · rw [j0]
      refine WL.yes rfl <| WL.sr <| WOL.bd rfl bd52z <| WOL.mv rfl ?_
      refine WOL.sto rfl rfl tp52 A4 rfl rfl (Nat.le_of_ble_eq_true rfl) rfl (f.hx Y11) (by omega) fun g5 P5 => ?_
      refine WOL.as rfl <| WOL.nil ?_
      exact WL.ret (WL.endC1 (t:=4) (s:=5) rfl rfl (load_row tp52 P5.at_ rfl (Nat.le_of_ble_eq_true rfl)) ⟨P5.hx _ Y11 (by omega),.inl ⟨by simpa using j0,rfl⟩⟩)
  · have hje:joinErr E1 E2 n F.length n' G.length = firstNZ [E1,E2]:=by unfold joinErr; rw [h0]; rfl
    rw [hje,h0]
    refine WL.yes rfl <| WL.sr <| WOL.bd rfl bd52z <| WOL.mv rfl ?_
    refine WOL.sto rfl rfl tp52 A4 rfl rfl (Nat.le_of_ble_eq_true rfl) rfl (f.hx Y8) (by omega) fun g5 P5 => ?_
    refine WOL.as rfl <| WOL.nil ?_
    exact WL.ret (WL.endC1 (t:=4) (s:=5) rfl rfl (load_row tp52 P5.at_ rfl (Nat.le_of_ble_eq_true rfl)) ⟨P5.hx _ Y8 (by omega),.inl ⟨by simpa using h0,rfl⟩⟩)
end Go.Tidy
namespace Go.Tidy
open Go Go.Proofs Tab
variable {tp:TProg}
section
variable {P:Program} {α:Type} {enc:α → List Value} {n n0:Nat} {h:TH} {v:Value} {e:TypeId} {l:List α} {z:List Value} {row:Bool}
theorem HX.locked {h h':TH} (x:HX h h') (M:List Nat):HX (h.withLock M) (h'.withLock M):=⟨x.next,x.floor,rfl,x.old⟩
theorem HX.unlock {h h' g:TH} {M:List Nat} (x:HX (h.withLock M) g) (hl:h'.lock = h.lock):HX h (g.withLock h'.lock):=by rw [hl]; exact x.relock
end
end Go.Tidy
namespace Go.Tidy
open Go Go.Proofs Tab
variable {tp:TProg}
section
variable {α:Type} {k:Nat} {l:List α}
end
theorem WO.remI {P:Program} {tp:TProg} {a:Regs} {h:TH} {K:Regs → TH → Prop} {rest:List TOper} {d:Option Tmp} {ty:TypeId} {i:Nat} {x y:Operand} {t u:TypeId} {m n:Int} (hx:getO a x = some (.int .i64 m)) (hy:getO a y = some (.int .i64 n)) (hn:n ≠ 0)
    (w:WO P tp rest (a.put d (.int .i64 (m.tmod n))) h K):WO P tp (⟨d,.binOp .rem t x y u,ty,none,[],i⟩ :: rest) a h K:=by
  refine WO.bi hx hy ?_ w
  have hk:Nat.beq (kindNo .i64) (kindNo .i64) = true:=Nat.beq_refl _
  have hb:(n == 0) = false:=by simpa using hn
  simp only [fastBin,hk,fastInt,hb,Bool.cond_true,Bool.cond_false]
theorem WOL.rem {P:Program} {tp:TProg} {h:TH} {K:Regs → TH → Prop} {rest:List TOper} {d:Option Tmp} {ty:TypeId} {i:Nat} {x y:Operand} {t u:TypeId} {L:Rg} {m n:Int} (hx:getL L x = some (.int .i64 m)) (hy:getL L y = some (.int .i64 n)) (hm:0 ≤ m) (hn:0 < n) (w:∀ a,Kn (putL L d (.int .i64 (m % n))) a → WO P tp rest a h K):∀ a,Kn L a → WO P tp (⟨d,.binOp .rem t x y u,ty,none,[],i⟩ :: rest) a h K:=fun a k => by
  refine WO.remI (k.o hx) (k.o hy) (by omega) ?_
  rw [Int.tmod_eq_emod_of_nonneg hm]
  exact w _ (k.put d _)
end Go.Tidy
namespace Go.Tidy
open Go Go.Proofs Tab
variable {tp:TProg}
section
variable {P:Program} {h:TH} {v:Value} {t e:TypeId} {n:Nat} {z:List Value} {row:Bool} {K:Regs → TH → Prop} {rest:List TOper} {d:Option Tmp} {ty:TypeId} {i:Nat} {x y lo hi:Operand} {L:Rg}
theorem copy_into {sT:TypeId} {b k m:Nat} {c new:List Value} {fix:Bool} {el:TypeId} (hu:P.underlying sT = some (.slice e)) (he:Tp P e n z row) (hg:At h b (.cells c fix true el)) (hc:c.length = k * n) (s:SlC h v n k new) (h1:new.all oneCell = true) (f:Free0 m h) (hb:m ≤ b) :
    ∃ h',copyT P #[sT,sT] #[.slice (some ⟨b,0,none⟩) k k,v] h = some (.int .i64 (k:Nat),h') ∧ Put h h' b (.cells new fix true el):=by
  obtain ⟨inf,q1,q2,q3,_⟩:=he.i
  have hf:=firstT_C s
  have hnl:new.length = k * n:=by obtain ⟨bo,cap,_,_,h3,_⟩:=s; exact h3
  obtain ⟨bo,cap',rfl,_⟩:=s
  have hmin:Nat.min k k = k:=Nat.min_self k
  by_cases hk:k = 0
  · subst hk
    obtain rfl:new = []:=List.eq_nil_of_length_eq_zero (by omega)
    obtain rfl:c = []:=List.eq_nil_of_length_eq_zero (by omega)
    refine ⟨h,?_,Put.same hg⟩
    simp only [copyT,elemInfo,List.getElem?_toArray,List.getElem?_cons_zero,List.getElem?_cons_succ,hu,Option.bind_some,q1,Option.map_some,lenT,q2,hmin,hf]
    rfl
  · have e1:Nat.beq k 0 = false:=beq_no hk
    have e4:Nat.ble (0 + new.length) c.length = true:=ble_yes (by omega)
    have hp:h.put b (.cells (splice c 0 new) fix true el) = some (h.upd b (.cells (splice c 0 new) fix true el)):=f.put hb hg.lt
    have hs:splice c 0 new = new:=by
      unfold splice
      rw [List.drop_eq_nil_of_le (by omega)]
      simp
    rw [hs] at hp
    refine ⟨h.upd b (.cells new fix true el),?_,Put.mk' hg _⟩
    simp only [copyT,elemInfo,List.getElem?_toArray,List.getElem?_cons_zero,List.getElem?_cons_succ,hu,Option.bind_some,q1,Option.map_some,lenT,q2,hmin,hf,e1,Bool.cond_false,hg.get,putCells,e4,h1,Bool.and_self,Bool.cond_true,hs,hp,Option.map_some]
theorem WOL.cp {h1:TH} {ts:Array TypeId} {vx vy:Value} (hx:getL L x = some vx) (hy:getL L y = some vy) (hm:copyT P ts #[vx,vy] h = some (v,h1)) (w:∀ a,Kn (putL L d v) a → WO P tp rest a h1 K):∀ a,Kn L a → WO P tp (⟨d,.call ⟨.builtin .copy,#[x,y],ts⟩,ty,none,[],i⟩ :: rest) a h K:=fun a k =>
  WO.op rfl rfl (fun call => by
    have hp:plainOp P ⟨d,.call ⟨.builtin .copy,#[x,y],ts⟩,ty,none,[],i⟩ a.eval = none:=rfl
    simp [stepOp,heapFirst,fastOp,valueOp,hp,heapOp,getO_eval (k.o hx),getO_eval (k.o hy),hm]) (w _ (k.put d _))
theorem WOL.sl {q:Addr} {m cap:Nat} {vlo vhi:Value} (hx:getL L x = some (.slice (some q) m cap)) (hl:getL L lo = some vlo) (hh:getL L hi = some vhi) (hv:sliceT P t (.slice (some q) m cap) (some vlo) (some vhi) none h = some v) (w:∀ a,Kn (putL L d v) a → WO P tp rest a h K):∀ a,Kn L a → WO P tp (⟨d,.slice t x (some lo) (some hi) none,ty,none,[],i⟩ :: rest) a h K :=
  fun a k => WO.sl (k.o hx) (k.o hl) (k.o hh) hv (k.nx w)
end
def setN {α:Type} (l:List α) (p:Nat) (g:Nat → α):Nat → List α
  | 0 => l
  | i + 1 => (setN l p g i).set (p + i) (g i)
section
variable {α:Type} {l:List α} {p:Nat} {g:Nat → α}
theorem setN_len:∀ i,(setN l p g i).length = l.length
  | 0 => rfl
  | i + 1 => by show ((setN l p g i).set _ _).length = _; rw [List.length_set,setN_len i]
theorem setN_out {q:Nat}:∀ i,(q < p ∨ p + i ≤ q) → (setN l p g i)[q]? = l[q]?
  | 0,_ => rfl
  | i + 1,h => by
    show ((setN l p g i).set _ _)[q]? = _
    rw [List.getElem?_set_ne (by omega),setN_out i (by omega)]
theorem setN_mem {x:α}:∀ i,x ∈ setN l p g i → x ∈ l ∨ ∃ j,j < i ∧ x = g j
  | 0,h => .inl h
  | i + 1,h => by
    rcases List.mem_or_eq_of_mem_set h with h | h
    · rcases setN_mem i h with h | ⟨j,h1,h2⟩
      · exact .inl h
      · exact .inr ⟨j,by omega,h2⟩
    · exact .inr ⟨i,by omega,h⟩
end
def fillG (a b:Int) (w i:Nat):Int:=rnd (a * ((w:Int) + 1) + (b - a) * ((i:Int) + 1)) ((w:Int) + 1)
theorem Free0.of {n:Nat} {hb h h':TH} (f:Free0 n h) (x:HX hb h) (y:HX hb h'):Free0 n h':=⟨by rw [y.floor,← x.floor]; exact f.floor,by rw [y.lock,← x.lock]; exact f.lock⟩
theorem fillG_in {a b:Int} {w i:Nat} (ha:a.natAbs ≤ 16384) (hb:b.natAbs ≤ 16384) (hw:w ≤ 4096) (hi:i < w):(a * ((w:Int) + 1)).natAbs ≤ 16384 * 4097 ∧ ((b - a) * ((i:Int) + 1)).natAbs ≤ 32768 * 4097:=by
  exact ⟨mul_small ha (by omega),mul_small (by omega) (by omega)⟩
theorem fillG_lim {a b:Int} {w i:Nat} (ha:a.natAbs ≤ 16384) (hb:b.natAbs ≤ 16384) (hi:i < w):(fillG a b w i).natAbs ≤ 16384:=by
  have e:a * ((w:Int) + 1) + (b - a) * ((i:Int) + 1) = a * ((w - i:Nat):Int) + b * ((i + 1:Nat):Int):=by
    obtain ⟨c,rfl⟩:∃ c,w = i + c:=⟨w - i,by omega⟩
    rw [show i + c - i = c by omega,Int.sub_mul,Int.natCast_add,Int.natCast_add,Int.mul_add,Int.mul_add,Int.mul_add,Int.mul_add,Int.mul_add]
    omega
  have h1:(a * ((w - i:Nat):Int)).natAbs ≤ 16384 * (w - i):=mul_small ha (by omega)
  have h2:(b * ((i + 1:Nat):Int)).natAbs ≤ 16384 * (i + 1):=mul_small hb (by omega)
  unfold fillG rnd
  rw [e]
  generalize a * ((w - i:Nat):Int) = u at *
  generalize b * ((i + 1:Nat):Int) = v at *
  have h3:(2 * (u + v) + ((w:Int) + 1)) / (2 * ((w:Int) + 1)) < 16385:=Int.ediv_lt_of_lt_mul (by omega) (by omega)
  have h4:-16384 ≤ (2 * (u + v) + ((w:Int) + 1)) / (2 * ((w:Int) + 1)):=Int.le_ediv_of_mul_le (by omega) (by omega)
  omega
set_option maxHeartbeats 1000000 in
theorem k105 (H:Has tp) {b p w cap:Nat} {D:List (Int × Bool)} {x y:Int} {h hb:TH} (hx:x.natAbs ≤ 16384) (hy:y.natAbs ≤ 16384) (A:At h b (.cells (cat encC D) true true 134)) (hpw:p + w ≤ D.length) (hw:w ≤ 4096) (hcap:w ≤ cap) (X:HX hb h) (f:Free0 hb.next h) (ho:hb.next ≤ b) :
    CallW Tryz.prog tp (.func (.func 105) #[] #[]) #[.slice (some ⟨b,p * 2,none⟩) w cap,zi x,zi y] h fun _ h' => HX hb h' ∧ At h' b (.cells (cat encC (setN D p (fun i => (fillG x y w i,true)) w)) true true 134):=by
  have sl:∀ {g:TH} {E:List (Int × Bool)},At g b (.cells (cat encC E) true true 134) → E.length = D.length → SlC g (.slice (some ⟨b,p * 2,none⟩) w cap) 2 w (((cat encC E).drop (p * 2)).take (w * 2)):=fun {g E} ha he => by
    have hl:(cat encC E).length = E.length * 2:=eC.cat_len E
    exact ⟨_,_,rfl,hcap,by rw [List.length_take,List.length_drop]; omega,.inr ⟨b,p * 2,_,_,_,_,rfl,ha,rfl,by omega⟩⟩
  refine CallW.fnL (H.fn 105 f105 rfl rfl) ?_
  refine WL.sr <| WOL.mv rfl ?_
  refine WOL.len rfl (sl A rfl) u135 ?_
  refine WOL.add rfl rfl (by omega) (by omega) ?_
  refine WOL.as rfl <| WOL.nil <| keep [(0,_),(1,_),(2,_),(6,_)] ⟨rfl,rfl,rfl,rfl,trivial⟩ ?_
  refine WL.sr <| WOL.mv rfl ?_
  refine WOL.len rfl (sl A rfl) u135 ?_
  refine WOL.mv rfl <| WOL.nil <| keep [(0,_),(1,_),(2,_),(6,_),(12,_),(13,_)] ⟨rfl,rfl,rfl,rfl,rfl,rfl,trivial⟩ ?_
  refine WL.block ?_
  refine WL.loop (fun k a h2 => ∃ j:Nat,j ≤ w ∧ k = w - j ∧ HX hb h2 ∧ At h2 b (.cells (cat encC (setN D p (fun i => (fillG x y w i,true)) j)) true true 134) ∧ Kn [(0,.slice (some ⟨b,p * 2,none⟩) w cap),(1,zi x),(2,zi y),(6,zi ((w:Int) + 1)),(12,zi (w:Nat)),(13,zi (j:Nat))] a) w (fun a q => ⟨0,by omega,by omega,X,A,q.sub ⟨rfl,rfl,rfl,rfl,rfl,rfl,trivial⟩⟩) ?_
  rintro k a h2 ⟨j,hj,rfl,X2,A2,q⟩
  refine q.go ?_
  refine WL.sr ?_
  refine WOL.bi (v:=.bool (decide ((j:Int) < w))) rfl rfl rfl ?_
  refine WOL.nil <| keep [(0,_),(1,_),(2,_),(6,_),(12,_),(13,_),(14,_)] ⟨rfl,rfl,rfl,rfl,rfl,rfl,rfl,trivial⟩ ?_
  refine WL.seq ?_
  by_cases hlt:j < w
  · rw [show decide ((j:Int) < (w:Int)) = true by simpa using hlt]
    refine WL.yes rfl <| WL.skip ?_
    obtain ⟨b1,b2⟩:=fillG_in hx hy hw hlt
    have sn:=setN_len (l:=D) (p:=p) (g:=fun i => (fillG x y w i,true)) j
    refine WL.seq ?_
    refine WL.block ?_
    refine WL.sr <| WOL.mv rfl <| WOL.as rfl <| WOL.nil <| keep [(0,_),(1,_),(2,_),(6,_),(7,_),(12,_),(13,_)] ⟨rfl,rfl,rfl,rfl,rfl,rfl,rfl,trivial⟩ ?_
    refine WL.reg <| WOL.mv rfl <| WOL.mv rfl <| WOL.mv rfl <| WOL.mv rfl ?_
    refine WOL.mul rfl rfl (by omega) (by omega) ?_
    refine WOL.mv rfl <| WOL.mv rfl ?_
    refine WOL.sub rfl rfl (by omega) (by omega) ?_
    refine WOL.mv rfl ?_
    refine WOL.add rfl rfl (by omega) (by omega) ?_
    refine WOL.mul rfl rfl (by omega) (by omega) ?_
    refine WOL.add rfl rfl (by omega) (by omega) ?_
    refine WOL.mv rfl ?_
    refine WOL.cl2 rfl rfl rfl ((k103 H (a:=x * ((w:Int) + 1) + (y - x) * ((j:Int) + 1)) (b:=(w:Int) + 1) (by omega) (by omega) (by omega)).mono ?_)
    rintro v h2 ⟨rfl,rfl⟩
    refine WOL.bd rfl bd134 ?_
    refine WOL.ix rfl rfl (indexAddr_tp u135 tp134 hlt) ?_
    refine WOL.sto rfl rfl tp134 A2 rfl rfl (by rw [eC.cat_len,sn]; omega) rfl (f.of X X2) ho fun h3 P3 => ?_
    have A3:=P3.at_
    rw [show p * 2 + j * 2 = (p + j) * 2 by omega,show (Value.agg #[.int .i64 (rnd (x * ((w:Int) + 1) + (y - x) * ((j:Int) + 1)) ((w:Int) + 1)),.bool true]).cells.toList = encC (fillG x y w j,true) from rfl,eC.set (by rw [sn]; omega)] at A3
    refine WOL.nil <| keep [(0,_),(1,_),(2,_),(6,_),(12,_),(13,_)] ⟨rfl,rfl,rfl,rfl,rfl,rfl,trivial⟩ ?_
    refine WL.reg ?_
    refine WOL.add rfl rfl (by omega) (by omega) ?_
    refine WOL.mv rfl <| WOL.nil ?_
    exact fun a q => ⟨w - (j + 1),by omega,j + 1,by omega,rfl,P3.hx _ X2 ho,A3,q.sub ⟨rfl,rfl,rfl,rfl,rfl,rfl,trivial⟩⟩
  · rw [show decide ((j:Int) < (w:Int)) = false by simpa using hlt]
    refine WL.no rfl <| WL.exit ?_
    obtain rfl:j = w:=by omega
    exact WL.endn (vs:=[]) rfl ⟨X2,A2⟩
end Go.Tidy
namespace Go.Tidy
open Go Go.Proofs Tab
variable {tp:TProg}
def fillOn (z:Int) (m:Nat) (p:Int × Int):Bool:=(decide (p.2 - p.1 ≤ z) && decide (p.1 > 0)) && decide (p.2 < m)
def fillS {α:Type} (z:Int) (m:Nat) (g:Int × Int → Nat → α) (D:List α) (p:Int × Int):List α:=cond (fillOn z m p) (setN D p.1.toNat (g p) (p.2 - p.1).toNat) D
theorem fillS_len {α:Type} {z:Int} {m:Nat} {g:Int × Int → Nat → α} {D:List α} {p:Int × Int}:(fillS z m g D p).length = D.length:=by
  unfold fillS
  cases fillOn z m p
  · rfl
  · exact setN_len _
theorem fills_len {α:Type} {z:Int} {m:Nat} {g:Int × Int → Nat → α}:∀ {S:List (Int × Int)} {D:List α},(S.foldl (fillS z m g) D).length = D.length
  | [],_ => rfl
  | p :: S,D => by rw [List.foldl_cons,fills_len,fillS_len]
def fillV (L:List Int) (p:Int × Int) (i:Nat):Int:=fillG (L.getD (p.1 - 1).toNat 0) (L.getD p.2.toNat 0) (p.2 - p.1).toNat i
def fillC (L:List Int) (p:Int × Int) (i:Nat):Int × Bool:=(fillV L p i,true)
theorem getD_lim {L:List Int} (h:∀ x,x ∈ L → x.natAbs ≤ 16384) (i:Nat):(L.getD i 0).natAbs ≤ 16384:=by
  rw [List.getD_eq_getElem?_getD]
  cases hi:L[i]? with
  | none => decide
  | some x => exact h x (List.mem_of_getElem? hi)
theorem fills_lim {L:List Int} (h:∀ x,x ∈ L → x.natAbs ≤ 16384) {z:Int} {m:Nat}:∀ {S:List (Int × Int)} {D:List (Int × Bool)},(∀ c,c ∈ D → c.1.natAbs ≤ 16384) → ∀ c,c ∈ S.foldl (fillS z m (fillC L)) D → c.1.natAbs ≤ 16384
  | [],_,hD => hD
  | p :: S,D,hD => by
    rw [List.foldl_cons]
    refine fills_lim h (fun c hc => ?_)
    unfold fillS at hc
    cases ho:fillOn z m p with
    | false => rw [ho] at hc; exact hD c hc
    | true =>
      rw [ho] at hc
      rcases setN_mem _ hc with hc | ⟨j,hj,rfl⟩
      · exact hD c hc
      · exact fillG_lim (getD_lim h _) (getD_lim h _) hj
theorem Valid.cell {s:ByteArray} {n:Int} {F:List Nat} {S:List (Int × Int)} {L:List Int} (V:Valid s n F S L) {i:Nat} (hi:i < F.length):∃ k,(cellsL L S)[i]? = some (L.getD i 0,k):=by
  have kl:=V.kl
  have ll:=V.lev.1
  have hx:L[i]? = some L[i]:=List.getElem?_eq_getElem (by omega)
  have hp:(knownL S F.length)[i]? = some (knownL S F.length)[i]:=List.getElem?_eq_getElem (by omega)
  have hd:=V.dark.2 i _ hx
  have hg:L.getD i 0 = L[i]:=by rw [List.getD_eq_getElem?_getD,hx]; rfl
  rw [V.cells,cellsK_get hx hp,hg]
  generalize (knownL S F.length)[i] = k at *
  cases k with
  | true => exact ⟨true,rfl⟩
  | false => exact ⟨false,by rw [hd hp]; rfl⟩
set_option maxHeartbeats 2000000 in
set_option maxRecDepth 10000 in
theorem k45 (H:Has tp) (X:HasX tp) {s:ByteArray} {n z:Int} {v1 v2:Value} {F:List Nat} {S:List (Int × Int)} {es L:List Int} {h:TH} (r:RunH h v1 v2 F S) (hE:SErr F es) (hL:firstNZ es = 0 → Lev F L)
    (hF:F.length ≤ 900000) (hS:S.length ≤ 900000) (f:Free0 h.next h) :
    CallW Tryz.prog tp (.func (.func 45) #[] #[]) #[runV s n v1 v2,zi z] h fun v h' => RunR h h' v s n (S.foldl (fillS z F.length (fillC L)) (cellsL L S)) (firstNZ [runE s n F.length S es L,outB z 0 4096]):=by
  obtain ⟨bv1,kv1,rfl⟩:=r.f.form
  obtain ⟨bv2,kv2,rfl⟩:=r.s.form
  refine CallW.fnL (H.fn 45 f45 rfl rfl) ?_
  refine WL.sr <| WOL.box rfl fun h1 N1 => ?_
  refine WOL.al tp52 fun h2 N2 => ?_
  refine WOL.as rfl <| WOL.nil <| keep [(1,_),(2,_),(4,_)] ⟨rfl,rfl,rfl,trivial⟩ ?_
  have n1:=N1.next
  have n2:=N2.next
  have X2:=N1.hx.trans N2.hx
  have A2:=N1.at_.hx N2.hx
  have A4:=N2.at_
  refine WL.seq ?_
  refine WL.sr ?_
  refine WOL.ld rfl (load_row tp52 A2 rfl (Nat.le_of_ble_eq_true rfl)) ?_
  refine WOL.cl1 rfl rfl ((k41 H X (s:=s) (n:=n) (r.hx X2) hE hL (by omega) (by omega) (f.on X2)).mono ?_)
  rintro v h3 ⟨rfl,X3⟩
  refine WOL.mv rfl ?_
  refine WOL.cl3 rfl rfl rfl rfl ((k72 H _ _ _ _).mono ?_)
  rintro v h3 ⟨rfl,rfl⟩
  refine WOL.bsl rfl u166 tp30 (by decide) (by decide) (by decide) (filled_ints _ _) fun h5 N5 => ?_
  refine WOL.cl1 rfl rfl ((k71 H (l:=[_,_]) N5.at_.get (by simp)).mono ?_)
  rintro v h5 ⟨rfl,rfl⟩
  have Z5:=X3.trans N5.hx
  have Y5:=X2.trans Z5
  have z5:=Z5.next
  have B2:=A2.hx Z5
  have B4:=A4.hx Z5
  generalize hEE:firstNZ [runE s n F.length S es L,outB z 0 4096] = E
  refine WOL.as rfl <| WOL.nil <| keep [(1,_),(2,_),(4,_),(6,_)] ⟨rfl,rfl,rfl,rfl,trivial⟩ ?_
  refine WL.sr <| WOL.mv rfl ?_
  refine WOL.bi rfl rfl nzero ?_
  refine WOL.nil <| keep [(1,_),(2,_),(4,_),(6,_),(18,_)] ⟨rfl,rfl,rfl,rfl,rfl,trivial⟩ ?_
  rcases nz_cases E with h0 | h0
  · rw [h0]
    have z0:=firstNZ_zero (hEE.trans h0)
    have V:=valid_of (s:=s) (n:=n) (S:=S) hL (z0 _ (by simp))
    have b1:=outB_zero (z0 (outB z 0 4096) (by simp))
    have Vm:=V.m
    have Vin:=V.in_
    have hcl:(cellsL L S).length = F.length:=cells_len V.lev V.in_
    have lim:=cells_lim V.lev S
    have liml:=lev_lim V.lev
    refine WL.no rfl <| WL.skip ?_
    refine WL.sr ?_
    refine WOL.ld rfl (load_row tp52 B2 rfl (Nat.le_of_ble_eq_true rfl)) ?_
    refine WOL.cl1 rfl rfl ((k85 H (s:=s) (n:=n) (r.hx Y5) V.lev (by omega) (by omega) V.in_ (f.on Y5)).mono ?_)
    rintro v h7 ⟨b7,rfl,o7,A7,X7⟩
    have Y7:=Y5.trans X7
    have cell:=fun i hi => V.cell (i:=i) hi
    have sl7:SlL encC 2 h7 (.slice (some ⟨b7,0,none⟩) F.length F.length) (cellsL L S):=SlL.own eC A7 hcl
    generalize hCC:cellsL L S = C at *
    refine WOL.as rfl <| WOL.nil <| keep [(1,_),(2,_),(4,_),(7,_)] ⟨rfl,rfl,rfl,rfl,trivial⟩ ?_
    refine WL.sr <| WOL.mv rfl ?_
    rw [← hcl] at sl7
    rw [← hcl]
    refine WOL.len rfl sl7 u135 ?_
    refine WOL.ms rfl rfl u135 tp134 (by decide) (by omega) fun h8 N8 => ?_
    have Y8:=Y7.trans N8.hx
    have y7:=Y7.next
    refine WOL.as rfl <| WOL.nil <| keep [(1,_),(2,_),(4,_),(7,_),(8,_)] ⟨rfl,rfl,rfl,rfl,rfl,trivial⟩ ?_
    refine WL.sr <| WOL.mv rfl <| WOL.mv rfl ?_
    obtain ⟨h9,cp,P9⟩:=copy_into (sT:=135) (k:=C.length) u135 tp134 N8.at_ (by rw [List.length_flatten]; simp) (SlC.hx sl7 N8.hx) (eC.all C) (f.hx Y8) y7
    refine WOL.cp rfl rfl cp ?_
    have X9:HX h7 h9:=P9.hx _ N8.hx (Nat.le_refl _)
    have A9:=P9.at_
    have Y9:=Y7.trans X9
    refine WOL.nil <| keep [(1,_),(2,_),(4,_),(7,_),(8,_)] ⟨rfl,rfl,rfl,rfl,rfl,trivial⟩ ?_
    refine WL.seq ?_
    have D2:=(B2.hx X7).hx X9
    refine WL.sr <| WOL.fa rfl (fa_of fo52_3) ?_
    refine WOL.ld rfl (load_one tp44 D2 rfl) ?_
    refine WOL.len rfl (r.s.hx Y9) u44 ?_
    refine WOL.mv rfl <| WOL.nil <| keep [(1,_),(2,_),(4,_),(7,_),(8,_),(30,_),(31,_),(32,_)] ⟨rfl,rfl,rfl,rfl,rfl,rfl,rfl,rfl,trivial⟩ ?_
    refine WL.block ?_
    refine WL.loop (fun q a hh => ∃ j:Nat,j ≤ S.length ∧ q = S.length - j ∧ HX h7 hh ∧ At hh h7.next (.cells (cat encC ((S.take j).foldl (fillS z C.length (fillC L)) C)) true true 134) ∧ Kn [(1,zi z),(2,ptr h.next),(4,ptr h1.next),(7,.slice (some ⟨b7,0,none⟩) C.length C.length),(8,.slice (some ⟨h7.next,0,none⟩) C.length C.length),(30,.slice bv2 S.length kv2),(31,zi S.length),(32,zi (j:Nat))] a) S.length (fun a q => ⟨0,by omega,by omega,X9,A9,q.sub ⟨rfl,rfl,rfl,rfl,rfl,rfl,rfl,rfl,trivial⟩⟩) ?_
    rintro q a hh ⟨j,hj,rfl,Xh,Ah,q⟩
    refine q.go ?_
    have Yh:=Y7.trans Xh
    have xh:=Xh.next
    refine WL.sr ?_
    refine WOL.bi (v:=.bool (decide ((j:Int) < S.length))) rfl rfl rfl ?_
    refine WOL.nil <| keep [(1,_),(2,_),(4,_),(7,_),(8,_),(30,_),(31,_),(32,_),(33,_)] ⟨rfl,rfl,rfl,rfl,rfl,rfl,rfl,rfl,rfl,trivial⟩ ?_
    refine WL.seq ?_
    by_cases hlt:j < S.length
    · rw [show decide ((j:Int) < (S.length:Int)) = true by simpa using hlt]
      refine WL.yes rfl <| WL.skip ?_
      have hS1:S[j]? = some S[j]:=List.getElem?_eq_getElem hlt
      obtain ⟨g1,g2,g3⟩:=Vin S[j] (List.getElem_mem hlt)
      have htk:(S.take (j + 1)).foldl (fillS z C.length (fillC L)) C = fillS z C.length (fillC L) ((S.take j).foldl (fillS z C.length (fillC L)) C) S[j]:=by
        rw [take_succ_get hS1,List.foldl_append]; rfl
      have hfl:=fills_len (z:=z) (m:=C.length) (g:=fillC L) (S:=S.take j) (D:=C)
      generalize S[j] = p at *
      obtain ⟨p1,p2⟩:=p
      obtain ⟨lo,rfl⟩:=Int.eq_ofNat_of_zero_le g1
      obtain ⟨hi,rfl⟩:=Int.eq_ofNat_of_zero_le (Int.le_trans g1 g2)
      have g2':lo ≤ hi:=Int.ofNat_le.1 g2
      have g3':hi ≤ F.length:=Int.ofNat_le.1 g3
      obtain ⟨b4,o,cc,fix,wr,el,e1,e2,e3,e4,e5⟩:=(r.s.hx Yh).at eS u44 tp48 hS1 .i64
      refine WL.seq ?_
      refine WL.block ?_
      refine WL.sr ?_
      refine WOL.ix rfl rfl e1 ?_
      refine WOL.ld rfl (load_row tp48 e2 e4 e3) ?_
      refine WOL.al tp48 fun i1 M1 => ?_
      refine WOL.sto rfl rfl tp48 M1.at_ rfl rfl (Nat.le_of_ble_eq_true rfl) rfl (f.hx (Yh.trans M1.hx)) Yh.next fun g P => ?_
      have Xg:HX h7 g:=P.hx _ (Xh.trans M1.hx) xh
      have Yg:=Y7.trans Xg
      have lth:=Ah.lt
      have Ag:=P.oth _ _ (by omega) (Ah.hx M1.hx)
      have G:At g hh.next (.cells [.int .i64 (lo:Nat),.int .i64 (hi:Nat)] true true 48):=P.at_
      refine WOL.nil <| keep [(1,_),(2,_),(4,_),(7,_),(8,_),(10,_),(30,_),(31,_),(32,_)] ⟨rfl,rfl,rfl,rfl,rfl,rfl,rfl,rfl,rfl,trivial⟩ ?_
      have fin:∀ {Q:Exit → Regs → TH → Prop} g',HX h7 g' → At g' h7.next (.cells (cat encC ((S.take (j + 1)).foldl (fillS z C.length (fillC L)) C)) true true 134) → ∀ a,Kn [(1,zi z),(2,ptr h.next),(4,ptr h1.next),(7,.slice (some ⟨b7,0,none⟩) C.length C.length),(8,.slice (some ⟨h7.next,0,none⟩) C.length C.length),(30,.slice bv2 S.length kv2),(31,zi S.length),(32,zi (j:Nat))] a → W Tryz.prog tp false (.reg r45_12) a g' (andThen (fun a hh => ∃ q',q' < S.length - j ∧ ∃ j:Nat,j ≤ S.length ∧ q' = S.length - j ∧ HX h7 hh ∧ At hh h7.next (.cells (cat encC ((S.take j).foldl (fillS z C.length (fillC L)) C)) true true 134) ∧ Kn [(1,zi z),(2,ptr h.next),(4,ptr h1.next),(7,.slice (some ⟨b7,0,none⟩) C.length C.length),(8,.slice (some ⟨h7.next,0,none⟩) C.length C.length),(30,.slice bv2 S.length kv2),(31,zi S.length),(32,zi (j:Nat))] a) Q):=by
        intro Q g' X' A'
        refine WL.reg ?_
        refine WOL.bi (v:=zi ((j + 1:Nat):Int)) rfl rfl (by show some (Value.int .i64 (fwrap .i64 ((j:Int) + 1))) = _; rw [fwrap_i64 (by omega) (by omega)]; rfl) ?_
        refine WOL.mv rfl <| WOL.nil ?_
        exact fun a q => ⟨S.length - (j + 1),by omega,j + 1,by omega,rfl,X',A',q.sub ⟨rfl,rfl,rfl,rfl,rfl,rfl,rfl,rfl,trivial⟩⟩
      have off:fillOn z C.length ((lo:Int),(hi:Int)) = false → (S.take (j + 1)).foldl (fillS z C.length (fillC L)) C = (S.take j).foldl (fillS z C.length (fillC L)) C:=fun e => by
        rw [htk]; unfold fillS; rw [e]; rfl
      have hon:fillOn z C.length ((lo:Int),(hi:Int)) = ((decide ((hi:Int) - lo ≤ z) && decide ((lo:Int) > 0)) && decide ((hi:Int) < C.length)):=rfl
      refine WL.sr <| WOL.fa rfl (fa_of fo48_1) ?_
      refine WOL.ld rfl (load_one tp3 G rfl) ?_
      refine WOL.fa rfl (fa_of fo48_0) ?_
      refine WOL.ld rfl (load_one tp3 G rfl) ?_
      refine WOL.sub rfl rfl (by omega) (by omega) ?_
      refine WOL.mv rfl ?_
      refine WOL.bi (v:=.bool (decide ((hi:Int) - lo ≤ z))) rfl rfl rfl ?_
      by_cases c1:(hi:Int) - lo ≤ z
      · rw [decide_eq_true c1] at hon ⊢
        refine WOL.mv rfl <| WOL.now (b:=true) rfl rfl <| WOL.fa rfl (fa_of fo48_0) <| WOL.now (b:=true) rfl rfl ?_
        refine WOL.ld rfl (load_one tp3 G rfl) ?_
        refine WOL.now (b:=true) rfl rfl ?_
        refine WOL.bi (v:=.bool (decide ((lo:Int) > 0))) rfl rfl rfl ?_
        refine WOL.pkt rfl rfl ?_
        by_cases c2:(lo:Int) > 0
        · rw [decide_eq_true c2] at hon ⊢
          refine WOL.mv rfl <| WOL.now (b:=true) rfl rfl <| WOL.fa rfl (fa_of fo48_1) <| WOL.now (b:=true) rfl rfl ?_
          refine WOL.ld rfl (load_one tp3 G rfl) ?_
          refine WOL.now (b:=true) rfl rfl <| WOL.mv rfl <| WOL.now (b:=true) rfl rfl ?_
          refine WOL.len rfl (sl7.hx Xg) u135 ?_
          refine WOL.now (b:=true) rfl rfl ?_
          refine WOL.bi (v:=.bool (decide ((hi:Int) < C.length))) rfl rfl rfl ?_
          refine WOL.pkt rfl rfl <| WOL.nil <| keep [(1,_),(2,_),(4,_),(7,_),(8,_),(10,_),(30,_),(31,_),(32,_),(54,_)] ⟨rfl,rfl,rfl,rfl,rfl,rfl,rfl,rfl,rfl,rfl,trivial⟩ ?_
          by_cases c3:(hi:Int) < C.length
          · rw [decide_eq_true c3] at hon ⊢
            have e0:(S.take (j + 1)).foldl (fillS z C.length (fillC L)) C = setN ((S.take j).foldl (fillS z C.length (fillC L)) C) lo (fun i => (fillG (L.getD (lo - 1) 0) (L.getD hi 0) (hi - lo) i,true)) (hi - lo):=by
              rw [htk]
              unfold fillS
              rw [hon]
              show setN _ ((lo:Int)).toNat (fillC L ((lo:Int),(hi:Int))) ((hi:Int) - lo).toNat = _
              have t1:((hi:Int) - lo).toNat = hi - lo:=by omega
              have t2:fillC L ((lo:Int),(hi:Int)) = fun i => (fillG (L.getD (lo - 1) 0) (L.getD hi 0) (hi - lo) i,true):=by
                funext i
                show (fillG (L.getD ((lo:Int) - 1).toNat 0) (L.getD ((hi:Int)).toNat 0) ((hi:Int) - lo).toNat i,true) = _
                rw [t1,show ((lo:Int) - 1).toNat = lo - 1 by omega,Int.toNat_natCast]
              rw [t1,t2,Int.toNat_natCast]
            obtain ⟨ka,ha⟩:=cell (lo - 1) (by omega)
            obtain ⟨kb,hb⟩:=cell hi (by omega)
            obtain ⟨ba,oa,ca,fa,wa,la,p1,p2,p3,p4,p5⟩:=(sl7.hx Xg).at eC u135 tp134 ha .i64
            obtain ⟨bb,ob,cb,fb,wb,lb,q1,q2,q3,q4,q5⟩:=(sl7.hx Xg).at eC u135 tp134 hb .i64
            refine WL.yes rfl ?_
            refine WL.reg <| WOL.mv rfl <| WOL.fa rfl (fa_of fo48_0) ?_
            refine WOL.ld rfl (load_one tp3 G rfl) ?_
            refine WOL.fa rfl (fa_of fo48_1) ?_
            refine WOL.ld rfl (load_one tp3 G rfl) ?_
            refine WOL.sl rfl rfl rfl (sliceT_at u135 tp134 (Nat.le_refl _) g2' (by omega) Ag (.inl rfl)) ?_
            refine WOL.mv rfl <| WOL.fa rfl (fa_of fo48_0) ?_
            refine WOL.ld rfl (load_one tp3 G rfl) ?_
            refine WOL.bi (v:=zi ((lo - 1:Nat):Int)) rfl rfl (by show some (Value.int .i64 (fwrap .i64 ((lo:Int) - 1))) = _; rw [fwrap_i64 (by omega) (by omega)]; congr 2; omega) ?_
            refine WOL.ix rfl rfl p1 ?_
            refine WOL.fa rfl (fa_of fo134_0) ?_
            refine WOL.ld rfl (load_one tp3 p2 (p5 0 (by decide))) ?_
            refine WOL.mv rfl <| WOL.fa rfl (fa_of fo48_1) ?_
            refine WOL.ld rfl (load_one tp3 G rfl) ?_
            refine WOL.ix rfl rfl q1 ?_
            refine WOL.fa rfl (fa_of fo134_0) ?_
            refine WOL.ld rfl (load_one tp3 q2 (q5 0 (by decide))) ?_
            rw [show 0 + lo * 2 = lo * 2 by omega]
            refine WOL.cl3 rfl rfl rfl rfl ((k105 H (p:=lo) (w:=hi - lo) (getD_lim liml (lo - 1)) (getD_lim liml hi) Ag (by rw [hfl]; omega) (by omega) (by omega) Xg ((f.on Y7).hx Xg) (Nat.le_refl _)).mono ?_)
            rintro v g' ⟨X',A'⟩
            refine WOL.nil ?_
            rw [← e0] at A'
            exact kto (fin g' X' A') ⟨rfl,rfl,rfl,rfl,rfl,rfl,rfl,rfl,trivial⟩
          · rw [decide_eq_false c3] at hon ⊢
            refine WL.no rfl <| WL.skip ?_
            rw [← off hon] at Ag
            exact kto (fin g Xg Ag) ⟨rfl,rfl,rfl,rfl,rfl,rfl,rfl,rfl,trivial⟩
        · rw [decide_eq_false c2] at hon ⊢
          refine WOL.mv rfl <| WOL.skp (b:=false) rfl rfl <| WOL.skp (b:=false) rfl rfl <| WOL.skp (b:=false) rfl rfl <| WOL.skp (b:=false) rfl rfl <| WOL.skp (b:=false) rfl rfl <| WOL.pkf rfl rfl <| WOL.nil <| keep [(1,_),(2,_),(4,_),(7,_),(8,_),(10,_),(30,_),(31,_),(32,_),(54,_)] ⟨rfl,rfl,rfl,rfl,rfl,rfl,rfl,rfl,rfl,rfl,trivial⟩ ?_
          refine WL.no rfl <| WL.skip ?_
          rw [← off (by rw [hon]; rfl)] at Ag
          exact kto (fin g Xg Ag) ⟨rfl,rfl,rfl,rfl,rfl,rfl,rfl,rfl,trivial⟩
      · rw [decide_eq_false c1] at hon ⊢
        refine WOL.mv rfl <| WOL.skp (b:=false) rfl rfl <| WOL.skp (b:=false) rfl rfl <| WOL.skp (b:=false) rfl rfl <| WOL.pkf rfl rfl ?_
        refine WOL.mv rfl <| WOL.skp (b:=false) rfl rfl <| WOL.skp (b:=false) rfl rfl <| WOL.skp (b:=false) rfl rfl <| WOL.skp (b:=false) rfl rfl <| WOL.skp (b:=false) rfl rfl <| WOL.pkf rfl rfl <| WOL.nil <| keep [(1,_),(2,_),(4,_),(7,_),(8,_),(10,_),(30,_),(31,_),(32,_),(54,_)] ⟨rfl,rfl,rfl,rfl,rfl,rfl,rfl,rfl,rfl,rfl,trivial⟩ ?_
        refine WL.no rfl <| WL.skip ?_
        rw [← off (by rw [hon]; rfl)] at Ag
        exact kto (fin g Xg Ag) ⟨rfl,rfl,rfl,rfl,rfl,rfl,rfl,rfl,trivial⟩
    · rw [show decide ((j:Int) < (S.length:Int)) = false by simpa using hlt]
      refine WL.no rfl <| WL.exit ?_
      obtain rfl:j = S.length:=by omega
      rw [List.take_length] at Ah
      have hfl:=fills_len (z:=z) (m:=C.length) (g:=fillC L) (S:=S) (D:=C)
      have slR:SlL encC 2 hh (.slice (some ⟨h7.next,0,none⟩) C.length C.length) (S.foldl (fillS z C.length (fillC L)) C):=SlL.own eC Ah hfl
      have E2:=(B2.hx X7).hx Xh
      refine WL.sr <| WOL.fa rfl (fa_of fo52_0) ?_
      refine WOL.ld rfl (load_one tp9 E2 rfl) ?_
      refine WOL.fa rfl (fa_of fo52_1) ?_
      refine WOL.ld rfl (load_one tp3 E2 rfl) ?_
      refine WOL.mv rfl ?_
      refine WOL.cl3 rfl rfl rfl rfl ((k89 H (s:=s) (n:=n) slR (fills_lim liml lim) (by rw [hfl]; omega) (f.on Yh)).mono ?_)
      rintro v h11 ⟨q1,q2,rfl,X11,O11⟩
      have Y11:=Yh.trans X11
      obtain ⟨bo1,k1,rfl⟩:=O11.r.f.form
      obtain ⟨bo2,k2,rfl⟩:=O11.r.s.form
      have yh:=Yh.next
      have x7:=X7.next
      refine WOL.sto rfl rfl tp52 (((B4.hx X7).hx Xh).hx X11) rfl rfl (Nat.le_of_ble_eq_true rfl) rfl (f.hx Y11) (by omega) fun h12 P12 => ?_
      refine WOL.as rfl <| WOL.nil ?_
      exact WL.ret (WL.endC1 (t:=4) (s:=5) rfl rfl (load_row tp52 P12.at_ rfl (Nat.le_of_ble_eq_true rfl)) ⟨P12.hx _ Y11 (by omega),.inr ⟨rfl,_,_,rfl,(O11.away P12 (by omega)).le (by omega)⟩⟩)
  · rw [h0]
    refine WL.yes rfl <| WL.sr <| WOL.bd rfl bd52z <| WOL.mv rfl ?_
    refine WOL.sto rfl rfl tp52 B4 rfl rfl (Nat.le_of_ble_eq_true rfl) rfl (f.hx Y5) (by omega) fun h9 P9 => ?_
    refine WOL.as rfl <| WOL.nil ?_
    exact WL.ret (WL.endC1 (t:=4) (s:=5) rfl rfl (load_row tp52 P9.at_ rfl (Nat.le_of_ble_eq_true rfl)) ⟨P9.hx _ Y5 (by omega),.inl ⟨by simpa using h0,rfl⟩⟩)
end Go.Tidy
namespace Go.Tidy
open Go Go.Proofs Tab
variable {tp:TProg}
theorem holeE_after {m:Nat}:∀ {S:List (Int × Int)} {prev:Int},holeE m prev S = 0 → ∀ p,p ∈ S → prev < p.1
  | [],_,_ => fun p hp => by cases hp
  | x :: r,prev,h => by
    have hlt:=holeE_lt h x (List.mem_cons_self ..)
    rw [holeE_cons] at h
    cases hb:badS m x with
    | true => rw [hb] at h; cases h
    | false =>
      rw [hb] at h
      by_cases hc:x.1 ≤ prev
      · rw [decide_eq_true hc] at h; cases h
      · rw [decide_eq_false hc] at h
        intro p hp
        rcases List.mem_cons.1 hp with rfl | hp
        · omega
        · have:=holeE_after (S:=r) (prev:=x.2) h p hp
          omega
end Go.Tidy
namespace Go.Tidy
open Go Go.Proofs Tab
theorem Samp.e0 {b:Nat} {n:Int} (s:Samp b n):SampleE b 0:=by
  obtain ⟨neg,q,h,h2,_⟩:=s.ok
  obtain ⟨m,k,hr,hq,hk⟩:=h
  obtain ⟨D,hD⟩:∃ D:Nat,2 ^ 149 = D:=⟨_,rfl⟩
  have hDp:0 < D:=by rw [← hD]; exact two_pow_pos 149
  have e1:=h2 D hD
  have hl:=s.lim
  have hU:m * 2 ^ (k + 4) = n.natAbs * D:=by rw [Nat.pow_add,← Nat.mul_assoc,← e1,hq]
  have ok:okU (m * 2 ^ (k + 4)) = true:=by
    rw [okU_eq hD]
    unfold okD
    rw [hU,decide_eq_true (Nat.mul_le_mul_right D hl),Nat.mul_div_cancel _ hDp]
    simp
  rcases single_cases b with h | ⟨s',h⟩ | ⟨neg',m',k',N⟩
  · rw [s.nan] at h; cases h
  · rw [hr] at h; cases h
  · have e:=hr.symm.trans N.read
    injection e with e1 e2 e3
    obtain rfl:k = k':=by omega
    subst e2
    have:=SampleE.num neg' m k N
    rw [ok] at this
    exact this
theorem serr_zero {F:List Nat} {L:List Int} (h:Lev F L):∃ es,SErr F es ∧ firstNZ es = 0:=by
  refine ⟨List.replicate F.length 0,⟨by simp,fun i b e hb he => ?_⟩,?_⟩
  · have hi:i < F.length:=(List.getElem?_eq_some_iff.1 hb).1
    have hiL:i < L.length:=by rw [← h.1]; exact hi
    have hx:L[i]? = some L[i]:=List.getElem?_eq_getElem hiL
    rw [List.getElem?_replicate,if_pos hi] at he
    cases he
    exact (h.2 i b _ hb hx).e0
  · have:∀ k,firstNZ (List.replicate k 0) = 0:=by
      intro k
      induction k with
      | zero => rfl
      | succ k ih => rw [List.replicate_succ]; show cond ((0:Int) != 0) 0 _ = 0; exact ih
    exact this _
def endOf (prev:Int):List (Int × Int) → Int
  | [] => prev
  | p :: r => endOf p.2 r
theorem endOf_le {i:Int}:∀ (S:List (Int × Int)) (prev:Int),prev ≤ i → (∀ p,p ∈ S → p.2 ≤ i) → endOf prev S ≤ i
  | [],_,h,_ => h
  | x :: r,prev,_,h => endOf_le r x.2 (h x (List.mem_cons_self ..)) fun p hp => h p (List.mem_cons_of_mem _ hp)
theorem holeE_snoc {m:Nat} (p:Int × Int):∀ (S:List (Int × Int)) (prev:Int),holeE m prev (S ++ [p]) = 0 ↔ holeE m prev S = 0 ∧ badS m p = false ∧ endOf prev S < p.1
  | [], prev => by
    show holeE m prev [p] = 0 ↔ _
    rw [holeE_cons]
    cases hb:badS m p with
    | true => simp
    | false =>
      by_cases hc:p.1 ≤ prev
      · rw [decide_eq_true hc]
        simp only [Bool.cond_false,Bool.cond_true,endOf]
        constructor
        · intro h; cases h
        · rintro ⟨_,_,h⟩; omega
      · rw [decide_eq_false hc]
        simp only [Bool.cond_false,endOf]
        exact ⟨fun _ => ⟨by trivial,by trivial,by omega⟩,fun _ => by trivial⟩
  | x :: r,prev => by
    show holeE m prev (x :: (r ++ [p])) = 0 ↔ _
    rw [holeE_cons,holeE_cons]
    cases hb:badS m x with
    | true => simp
    | false =>
      by_cases hc:x.1 ≤ prev
      · rw [decide_eq_true hc]; simp
      · rw [decide_eq_false hc]
        exact holeE_snoc p r x.2
theorem badS_no {m:Nat} {p:Int × Int}:badS m p = false ↔ 0 ≤ p.1 ∧ p.1 < p.2 ∧ p.2 ≤ m:=by
  unfold badS
  simp only [Bool.or_eq_false_iff,decide_eq_false_iff_not]
  omega
structure HoleI (B:List Bool) (i:Nat) (S:List (Int × Int)):Prop where
  h0:holeE B.length (-1) S = 0
  hi:∀ p,p ∈ S → p.2 ≤ (i:Int)
  hk:∀ x:Nat,x < i → S.any (inS x) = !B.getD x false
  ho:0 < i ∧ B.getD (i - 1) false = false → ∃ T a,S = T ++ [((a:Int),(i:Int))]
  hc:¬ (0 < i ∧ B.getD (i - 1) false = false) → endOf (-1) S < (i:Int)
theorem inS_past {S:List (Int × Int)} {i:Nat} (h:∀ p,p ∈ S → p.2 ≤ (i:Int)):S.any (inS i) = false:=by
  rw [List.any_eq_false]
  intro p hp
  have:=h p hp
  unfold inS
  rw [decide_eq_false (by omega:¬ (i:Int) < p.2),Bool.and_false]
  decide
theorem holeI (B:List Bool):∀ i,i ≤ B.length → HoleI B i (holesN B i)
  | 0,_ => ⟨rfl,fun p hp => (by cases hp),fun x hx => by omega,fun h => by omega,fun _ => (by show (-1:Int) < 0; decide)⟩
  | i + 1,hle => by
    obtain ⟨h0,hi,hk,ho,hc⟩:=holeI B i (by omega)
    show HoleI B (i + 1) (hstep B (holesN B i) i)
    generalize holesN B i = S at *
    have sub1:i + 1 - 1 = i:=by omega
    unfold hstep
    by_cases hb:B.getD i false = true
    · rw [if_pos hb]
      refine ⟨h0,fun p hp => by have:=hi p hp; omega,fun x hx => ?_,fun h => ?_,fun _ => ?_⟩
      · by_cases hxi:x < i
        · exact hk x hxi
        · obtain rfl:x = i:=by omega
          rw [inS_past hi,hb]; rfl
      · rw [sub1,hb] at h; cases h.2
      · have:=endOf_le S (-1) (show (-1:Int) ≤ (i:Int) by omega) hi
        omega
    · have hb':B.getD i false = false:=by simpa using hb
      rw [if_neg hb]
      by_cases hp:0 < i ∧ B.getD (i - 1) false = false
      · rw [if_pos hp]
        obtain ⟨T,a,rfl⟩:=ho hp
        obtain ⟨t0,t1,t2⟩:=(holeE_snoc _ T (-1)).1 h0
        have t1':=badS_no.1 t1
        have hS:(T ++ [(a,(i:Int))]).set ((T ++ [(a,(i:Int))]).length - 1) (((T ++ [(a,(i:Int))]).getD ((T ++ [(a,(i:Int))]).length - 1) (0,0)).1,(i:Int) + 1) = T ++ [(a,((i + 1:Nat):Int))]:=by
          simp
        rw [hS]
        refine ⟨(holeE_snoc _ T (-1)).2 ⟨t0,badS_no.2 ⟨t1'.1,?_,?_⟩,t2⟩,fun p hp => ?_,fun x hx => ?_,fun _ => ⟨T,a,rfl⟩,fun h => ?_⟩
        · have:a < (i:Int):=t1'.2.1
          show a < ((i + 1:Nat):Int)
          omega
        · show ((i + 1:Nat):Int) ≤ _
          omega
        · rcases List.mem_append.1 hp with hp | hp
          · have:=hi p (List.mem_append_left _ hp); omega
          · simp at hp; subst hp; exact Int.le_refl _
        · have ha:a < (i:Int):=t1'.2.1
          by_cases hxi:x < i
          · rw [← hk x hxi,List.any_append,List.any_append]
            congr 1
            simp only [List.any_cons,List.any_nil,Bool.or_false,inS]
            congr 1
            rw [decide_eq_true (by omega:(x:Int) < ((i + 1:Nat):Int)),decide_eq_true (by omega:(x:Int) < (i:Int))]
          · obtain rfl:x = i:=by omega
            rw [hb',List.any_append]
            simp only [List.any_cons,List.any_nil,Bool.or_false,inS]
            rw [decide_eq_true (by omega:(x:Int) ≥ a),decide_eq_true (by omega:(x:Int) < ((x + 1:Nat):Int))]
            simp
        · rw [sub1] at h
          exact absurd ⟨by omega,hb'⟩ h
      · rw [if_neg hp]
        have hc':=hc hp
        refine ⟨(holeE_snoc _ S (-1)).2 ⟨h0,badS_no.2 ⟨by show (0:Int) ≤ (i:Int); omega,by show (i:Int) < (i:Int) + 1; omega,by show (i:Int) + 1 ≤ _; omega⟩,hc'⟩,fun p hp => ?_,fun x hx => ?_,fun _ => ⟨S,(i:Int),rfl⟩,fun h => ?_⟩
        · rcases List.mem_append.1 hp with hp | hp
          · have:=hi p hp; omega
          · simp at hp; subst hp; show (i:Int) + 1 ≤ _; omega
        · rw [List.any_append]
          by_cases hxi:x < i
          · rw [← hk x hxi]
            simp only [List.any_cons,List.any_nil,Bool.or_false,inS]
            rw [decide_eq_false (by omega:¬ (x:Int) ≥ (i:Int))]
            simp
          · obtain rfl:x = i:=by omega
            rw [hb']
            simp only [List.any_cons,List.any_nil,Bool.or_false,inS]
            rw [decide_eq_true (by omega:(x:Int) ≥ (x:Int)),decide_eq_true (by omega:(x:Int) < (x:Int) + 1)]
            simp
        · rw [sub1] at h
          exact absurd ⟨by omega,hb'⟩ h
theorem known_holes (B:List Bool):knownL (holesOf B) B.length = B:=by
  have H:=holeI B B.length (Nat.le_refl _)
  apply List.ext_getElem?
  intro x
  by_cases hx:x < B.length
  · unfold knownL
    rw [List.getElem?_map,List.getElem?_range hx]
    show some (knownB (holesOf B) x) = _
    unfold knownB
    rw [show (holesOf B).any (inS x) = !B.getD x false from H.hk x hx,Bool.not_not,List.getD_eq_getElem?_getD,List.getElem?_eq_getElem hx]
    rfl
  · rw [List.getElem?_eq_none (by rw [knownL_len]; omega),List.getElem?_eq_none (by omega)]
theorem holes_ok (B:List Bool):holeE B.length (-1) (holesOf B) = 0:=(holeI B B.length (Nat.le_refl _)).h0
def DarkC (C:List (Int × Bool)):Prop:=∀ c,c ∈ C → c.2 = false → c.1 = 0
theorem made_run {s:ByteArray} {n:Int} {C:List (Int × Bool)} (hd:headE s n C.length = 0) (hn:n + C.length ≤ 100000000) (lim:∀ c,c ∈ C → c.1.natAbs ≤ 16384) (dk:DarkC C) :
    ∃ es,SErr (C.map fun c => smp c.1) es ∧ Lev (C.map fun c => smp c.1) (C.map fun c => c.1) ∧ runE s n (C.map fun c => smp c.1).length (holesOf (C.map fun c => c.2)) es (C.map fun c => c.1) = 0 ∧ Valid s n (C.map fun c => smp c.1) (holesOf (C.map fun c => c.2)) (C.map fun c => c.1) ∧ cellsL (C.map fun c => c.1) (holesOf (C.map fun c => c.2)) = C:=by
  have hL:=lev_smp lim
  obtain ⟨es,hE,h0⟩:=serr_zero hL
  have hlen:(C.map fun c => smp c.1).length = C.length:=by simp
  have hlen2:(C.map fun c => c.2).length = C.length:=by simp
  have ho:holeE C.length (-1) (holesOf (C.map fun c => c.2)) = 0:=by have:=holes_ok (C.map fun c => c.2); rwa [hlen2] at this
  have hK:knownL (holesOf (C.map fun c => c.2)) C.length = C.map fun c => c.2:=by have:=known_holes (C.map fun c => c.2); rwa [hlen2] at this
  have hin:=holeE_in ho
  have hform:(holesOf (C.map fun c => c.2)).any (anyIn (C.map fun c => c.1)) = false:=by
    cases hb:(holesOf (C.map fun c => c.2)).any (anyIn (C.map fun c => c.1)) with
    | false => rfl
    | true =>
      obtain ⟨j,x,hj,hx,hk⟩:=(form_iff hin).1 hb
      rw [List.getElem?_map] at hj
      cases hc:C[j]? with
      | none => rw [hc] at hj; cases hj
      | some c =>
        have hjl:j < C.length:=(List.getElem?_eq_some_iff.1 hc).1
        have hkj:(knownL (holesOf (C.map fun c => c.2)) C.length)[j]? = some (knownB (holesOf (C.map fun c => c.2)) j):=by
          unfold knownL
          rw [List.getElem?_map,List.getElem?_range hjl]; rfl
        rw [hK,List.getElem?_map,hc,hk] at hkj
        rw [hc] at hj
        exact absurd ((Option.some.inj hj).symm.trans (dk c (List.mem_of_getElem? hc) (Option.some.inj hkj))) hx
  obtain ⟨_,n0,n1,hm⟩:=headE_zero hd
  have hr:runE s n (C.map fun c => smp c.1).length (holesOf (C.map fun c => c.2)) es (C.map fun c => c.1) = 0:=by
    unfold runE tailE formE
    rw [hlen,hd,h0,ho,hform,decide_eq_false (by omega)]
    rfl
  refine ⟨es,hE,hL,hr,valid_of (fun _ => hL) hr,?_⟩
  rw [cells_eq hL (by rw [hlen]; exact hin),hlen,hK]
  apply List.ext_getElem?
  intro i
  cases hc:C[i]? with
  | none =>
    have:C.length ≤ i:=List.getElem?_eq_none_iff.1 hc
    rw [List.getElem?_eq_none (by rw [cellsK_ln (by simp)]; simp; omega)]
  | some c =>
    rw [cellsK_get (x:=c.1) (p:=c.2) (by rw [List.getElem?_map,hc]; rfl) (by rw [List.getElem?_map,hc]; rfl)]
    obtain ⟨x,k⟩:=c
    cases k with
    | true => rfl
    | false =>
      have h1:x = 0:=dk _ (List.mem_of_getElem? hc) rfl
      subst h1; rfl
theorem Valid.darkC {s:ByteArray} {n:Int} {F:List Nat} {S:List (Int × Int)} {L:List Int} (V:Valid s n F S L):DarkC (cellsL L S):=by
  rw [V.cells]
  intro c hc hk
  obtain ⟨i,hi,e⟩:=List.getElem_of_mem hc
  have kl:=V.kl
  rw [cellsK_ln kl] at hi
  have hx:L[i]? = some L[i]:=List.getElem?_eq_getElem hi
  have hp:(knownL S F.length)[i]? = some (knownL S F.length)[i]:=List.getElem?_eq_getElem (by omega)
  have hg:=cellsK_get hx hp
  rw [List.getElem?_eq_getElem (by rw [cellsK_ln kl]; exact hi),e] at hg
  have:=Option.some.inj hg
  cases hb:(knownL S F.length)[i] with
  | true => rw [hb] at this; rw [this] at hk; cases hk
  | false => rw [hb] at this; rw [this]; rfl
end Go.Tidy
namespace Go.Tidy
open Go Go.Proofs Tab
theorem known_no {S:List (Int × Int)} {x:Int}:knownB S x = false ↔ ∃ p,p ∈ S ∧ p.1 ≤ x ∧ x < p.2:=by
  unfold knownB
  rw [Bool.not_eq_false',List.any_eq_true]
  constructor
  · rintro ⟨p,hp,h⟩
    unfold inS at h
    simp only [Bool.and_eq_true,decide_eq_true_eq] at h
    exact ⟨p,hp,h.1,h.2⟩
  · rintro ⟨p,hp,h1,h2⟩
    refine ⟨p,hp,?_⟩
    unfold inS
    rw [decide_eq_true h1,decide_eq_true h2]; rfl
theorem holeE_tail {m:Nat} {prev:Int} {p:Int × Int} {r:List (Int × Int)} (h:holeE m prev (p :: r) = 0):badS m p = false ∧ prev < p.1 ∧ holeE m p.2 r = 0:=by
  rw [holeE_cons] at h
  cases hb:badS m p with
  | true => rw [hb] at h; cases h
  | false =>
    rw [hb] at h
    by_cases hc:p.1 ≤ prev
    · rw [decide_eq_true hc] at h; cases h
    · rw [decide_eq_false hc] at h
      exact ⟨rfl,by omega,h⟩
theorem known_tail {p:Int × Int} {r:List (Int × Int)} {x:Int} (hx:p.2 ≤ x):knownB (p :: r) x = knownB r x:=by
  unfold knownB
  rw [List.any_cons]
  unfold inS
  rw [decide_eq_false (by omega:¬ x < p.2),Bool.and_false,Bool.false_or]
theorem holes_first {m:Nat} {prev:Int} {p:Int × Int} {r:List (Int × Int)} (h:holeE m prev (p :: r) = 0) {x:Int} (hx:knownB (p :: r) x = false):p.1 ≤ x:=by
  obtain ⟨q,hq,h1,_⟩:=known_no.1 hx
  obtain ⟨b,_,t⟩:=holeE_tail h
  have:=badS_no.1 b
  rcases List.mem_cons.1 hq with rfl | hq
  · exact h1
  · have:=holeE_after t q hq
    omega
theorem holes_end {m:Nat} {prev:Int} {p:Int × Int} {r:List (Int × Int)} (h:holeE m prev (p :: r) = 0):knownB (p :: r) p.2 = true:=by
  cases hb:knownB (p :: r) p.2 with
  | true => rfl
  | false =>
    rw [known_tail (Int.le_refl _)] at hb
    obtain ⟨q,hq,h1,_⟩:=known_no.1 hb
    have:=holeE_after (holeE_tail h).2.2 q hq
    omega
theorem holes_uniq {m:Nat}:∀ {S T:List (Int × Int)} {prev:Int},-1 ≤ prev → holeE m prev S = 0 → holeE m prev T = 0 → (∀ x:Nat,prev < (x:Int) → knownB S x = knownB T x) → S = T
  | [],[],_,_,_,_,_ => rfl
  | [],q :: t,prev,h0,_,hT,h => by
    obtain ⟨b,a,_⟩:=holeE_tail hT
    have b':=badS_no.1 b
    obtain ⟨x,hx⟩:=Int.eq_ofNat_of_zero_le b'.1
    have h1:=h x (by omega)
    rw [show knownB (q :: t) (x:Int) = false from known_no.2 ⟨q,List.mem_cons_self ..,by omega,by omega⟩] at h1
    cases h1
  | p :: r,[],prev,h0,hS,_,h => by
    obtain ⟨b,a,_⟩:=holeE_tail hS
    have b':=badS_no.1 b
    obtain ⟨x,hx⟩:=Int.eq_ofNat_of_zero_le b'.1
    have h1:=h x (by omega)
    rw [show knownB (p :: r) (x:Int) = false from known_no.2 ⟨p,List.mem_cons_self ..,by omega,by omega⟩] at h1
    cases h1
  | p :: r,q :: t,prev,h0,hS,hT,h => by
    obtain ⟨b,a,tS⟩:=holeE_tail hS
    obtain ⟨c,d,tT⟩:=holeE_tail hT
    have b':=badS_no.1 b
    have c':=badS_no.1 c
    obtain ⟨p1,p2⟩:=p
    obtain ⟨q1,q2⟩:=q
    simp only at b' c' a d
    obtain ⟨x,rfl⟩:=Int.eq_ofNat_of_zero_le b'.1
    obtain ⟨y,rfl⟩:=Int.eq_ofNat_of_zero_le c'.1
    obtain ⟨u,rfl⟩:=Int.eq_ofNat_of_zero_le (show 0 ≤ p2 by omega)
    obtain ⟨v,rfl⟩:=Int.eq_ofNat_of_zero_le (show 0 ≤ q2 by omega)
    have e1:(y:Int) ≤ x:=holes_first hT (x:=(x:Int)) (by rw [← h x a]; exact known_no.2 ⟨_,List.mem_cons_self ..,Int.le_refl _,b'.2.1⟩)
    have e2:(x:Int) ≤ y:=holes_first hS (x:=(y:Int)) (by rw [h y d]; exact known_no.2 ⟨_,List.mem_cons_self ..,Int.le_refl _,c'.2.1⟩)
    obtain rfl:x = y:=by omega
    have f1:¬ (u:Int) < v:=fun hl => by
      have:=h u (by omega)
      rw [show knownB (((x:Int),(u:Int)) :: r) (u:Int) = true from holes_end hS,show knownB (((x:Int),(v:Int)) :: t) (u:Int) = false from known_no.2 ⟨_,List.mem_cons_self ..,by show (x:Int) ≤ u; omega,hl⟩] at this
      cases this
    have f2:¬ (v:Int) < u:=fun hl => by
      have:=h v (by omega)
      rw [show knownB (((x:Int),(v:Int)) :: t) (v:Int) = true from holes_end hT,show knownB (((x:Int),(u:Int)) :: r) (v:Int) = false from known_no.2 ⟨_,List.mem_cons_self ..,by show (x:Int) ≤ v; omega,hl⟩] at this
      cases this
    obtain rfl:u = v:=by omega
    congr 1
    refine holes_uniq (prev:=(u:Int)) (by omega) tS tT fun z hz => ?_
    have:=h z (by omega)
    rwa [known_tail (by show (u:Int) ≤ z; omega),known_tail (by show (u:Int) ≤ z; omega)] at this
theorem known_past {m:Nat} {S:List (Int × Int)} (hin:In m S) {x:Int} (hx:(m:Int) ≤ x):knownB S x = true:=by
  cases hb:knownB S x with
  | true => rfl
  | false =>
    obtain ⟨p,hp,h1,h2⟩:=known_no.1 hb
    have:=(hin p hp).2.2
    omega
theorem knownL_get {S:List (Int × Int)} {m i:Nat} (hi:i < m):(knownL S m)[i]? = some (knownB S i):=by
  unfold knownL
  rw [List.getElem?_map,List.getElem?_range hi]; rfl
theorem holesOf_get {K:List Bool} {i:Nat} (hi:i < K.length):K[i]? = some (knownB (holesOf K) i):=by
  have:=knownL_get (S:=holesOf K) hi
  rwa [known_holes] at this
theorem holes_back {m:Nat} {S:List (Int × Int)} (h:holeE m (-1) S = 0):holesOf (knownL S m) = S:=by
  have hl:=knownL_len S m
  have h2:=holes_ok (knownL S m)
  rw [hl] at h2
  refine holes_uniq (Int.le_refl _) h2 h fun x _ => ?_
  by_cases hx:x < m
  · have e1:=holesOf_get (K:=knownL S m) (i:=x) (by omega)
    rw [knownL_get hx] at e1
    exact (Option.some.inj e1).symm
  · rw [known_past (holeE_in h2) (by omega),known_past (holeE_in h) (by omega)]
theorem setN_in {α:Type} {l:List α} {p:Nat} {g:Nat → α} {q:Nat} (h1:p ≤ q) (h3:q < l.length):∀ w,q < p + w → (setN l p g w)[q]? = some (g (q - p))
  | 0,h => by omega
  | w + 1,h => by
    show ((setN l p g w).set _ _)[q]? = _
    by_cases hq:q = p + w
    · subst hq
      rw [List.getElem?_set_self (by rw [setN_len]; exact h3)]
      congr 2; omega
    · rw [List.getElem?_set_ne (by omega),setN_in h1 h3 w (by omega)]
theorem fills_known {α:Type} {z:Int} {m:Nat} {g:Int × Int → Nat → α} {i:Nat}:∀ {S:List (Int × Int)} {D:List α},In m S → knownB S i = true → (S.foldl (fillS z m g) D)[i]? = D[i]?
  | [],_,_,_ => rfl
  | p :: S,D,hin,hk => by
    have hp:=hin p (List.mem_cons_self ..)
    have hk':knownB S i = true:=by
      unfold knownB at hk ⊢
      rw [List.any_cons] at hk
      simp only [Bool.not_eq_true',Bool.or_eq_false_iff] at hk ⊢
      exact hk.2
    have hni:¬ (p.1 ≤ (i:Int) ∧ (i:Int) < p.2):=fun h => by
      rw [show knownB (p :: S) (i:Int) = false from known_no.2 ⟨p,List.mem_cons_self ..,h.1,h.2⟩] at hk
      cases hk
    rw [List.foldl_cons,fills_known (fun q hq => hin q (List.mem_cons_of_mem _ hq)) hk']
    unfold fillS
    cases fillOn z m p with
    | false => rfl
    | true => exact setN_out _ (by omega)
theorem fills_in {α:Type} {z:Int} {m:Nat} {g:Int × Int → Nat → α} {i:Nat} {p:Int × Int} (h1:p.1 ≤ (i:Int)) (h2:(i:Int) < p.2):∀ {S:List (Int × Int)} {D:List α} {prev:Int},D.length = m → holeE m prev S = 0 → p ∈ S → (S.foldl (fillS z m g) D)[i]? = cond (fillOn z m p) (some (g p (i - p.1.toNat))) D[i]?
  | [],_,_,_,_,h => by cases h
  | x :: S,D,prev,hD,hS,hp => by
    obtain ⟨b,a,t⟩:=holeE_tail hS
    have b':=badS_no.1 b
    have hin:=holeE_in t
    rw [List.foldl_cons]
    rcases List.mem_cons.1 hp with rfl | hp
    · have hk:knownB S i = true:=by
        cases hb:knownB S i with
        | true => rfl
        | false =>
          obtain ⟨q,hq,g1,_⟩:=known_no.1 hb
          have:=holeE_after t q hq
          omega
      rw [fills_known hin hk]
      unfold fillS
      cases fillOn z m p with
      | false => rfl
      | true => exact setN_in (by omega) (by omega) _ (by omega)
    · have ha:=holeE_after t p hp
      rw [fills_in h1 h2 (by rw [fillS_len]; exact hD) t hp]
      congr 1
      unfold fillS
      cases fillOn z m x with
      | false => rfl
      | true => exact setN_out _ (.inr (by omega))
end Go.Tidy
namespace Go.Tidy
open Go Go.Proofs Tab
variable {tp:TProg}
theorem Val.hx {s:ByteArray} {n:Int} {v1 v2:Value} {F:List Nat} {S:List (Int × Int)} {es L:List Int} {p1 p2:Int} {h hm g g':TH} {c3 c5 c12 c14 c18 c28 c29 c30:Nat} {sx:ByteArray} {nx:Int} {x1 x2:Value} {sy:ByteArray} {ny:Int} {y1 y2:Value} {ec ma mb:Int} {n1:Nat} {w1 w2:Value}
    (M:Val s n v1 v2 F S es L p1 p2 h hm g c3 c5 c12 c14 c18 c28 c29 c30 sx nx x1 x2 sy ny y1 y2 ec ma mb n1 w1 w2) (x:HX g g'):Val s n v1 v2 F S es L p1 p2 h hm g' c3 c5 c12 c14 c18 c28 c29 c30 sx nx x1 x2 sy ny y1 y2 ec ma mb n1 w1 w2 :=
  { M with x1_:=M.x1_.trans x,b28:=M.b28.hx x,b29:=M.b29.hx x,ro:=M.ro.hx x,b30:=M.b30.hx x }
end Go.Tidy
namespace Go.Tidy
open Go Go.Proofs Tab
variable {tp:TProg}
theorem short_small {s:ByteArray} {m k:Nat} (h:shortB s m k = true):m ≤ 4097 ∧ k ≤ 12:=by
  simp only [shortB,Bool.and_eq_true,Bool.or_eq_true,decide_eq_true_eq,beq_iff_eq] at h
  omega
end Go.Tidy
namespace Go.Tidy
open Go Go.Proofs Tab
variable {tp:TProg}
structure Cel (s:ByteArray) (n:Int) (F:List Nat) (es:List Int) (C:List (Int × Bool)):Prop where
  len:F.length = C.length
  e:SErr F es
  lev:Lev F (C.map fun c => c.1)
  r:runE s n F.length (holesOf (C.map fun c => c.2)) es (C.map fun c => c.1) = 0
  v:Valid s n F (holesOf (C.map fun c => c.2)) (C.map fun c => c.1)
  c:cellsL (C.map fun c => c.1) (holesOf (C.map fun c => c.2)) = C
def RunC (s:ByteArray) (n:Int) (h:TH) (v1 v2:Value) (C:List (Int × Bool)):Prop:=∃ F es,RunH h v1 v2 F (holesOf (C.map fun c => c.2)) ∧ Cel s n F es C
theorem RunC.hx {s:ByteArray} {n:Int} {h h':TH} {v1 v2:Value} {C:List (Int × Bool)} (r:RunC s n h v1 v2 C) (x:HX h h'):RunC s n h' v1 v2 C:=by
  obtain ⟨F,es,r,c⟩:=r
  exact ⟨F,es,r.hx x,c⟩
section
variable {s:ByteArray} {n:Int} {F:List Nat} {es L:List Int} {S:List (Int × Int)} {C:List (Int × Bool)}
theorem Cel.m (c:Cel s n F es C):C.length ≤ 4096:=by have:=c.v.m; rw [c.len] at this; exact this
theorem Cel.lim (c:Cel s n F es C):∀ x,x ∈ C → x.1.natAbs ≤ 16384:=by have:=c.v.lim; rwa [c.c] at this
theorem Cel.dk (c:Cel s n F es C):DarkC C:=by have:=c.v.darkC; rwa [c.c] at this
theorem Cel.holes (_:Cel s n F es C):(holesOf (C.map fun c => c.2)).length ≤ C.length:=by
  have:=holesN_len (C.map fun c => c.2) (C.map fun c => c.2).length
  show (holesN _ _).length ≤ _
  rwa [List.length_map] at this ⊢
theorem Cel.head (c:Cel s n F es C):headE s n C.length = 0:=by
  have:=c.r
  unfold runE at this
  rw [c.len] at this
  rcases nz_cases (headE s n C.length) with h | h
  · exact h
  · rw [h] at this; rw [show headE s n C.length = 0 from this] at h; cases h
theorem Cel.top (c:Cel s n F es C):n + C.length ≤ 100000000:=by have:=c.v.n1; rw [c.len] at this; exact this
theorem Valid.back (V:Valid s n F S L):((cellsL L S).map fun c => c.1) = L ∧ holesOf ((cellsL L S).map fun c => c.2) = S:=by
  have kl:=V.kl
  have ll:=V.lev.1
  constructor
  · apply List.ext_getElem?
    intro i
    rw [List.getElem?_map]
    by_cases hi:i < F.length
    · obtain ⟨k,hk⟩:=V.cell hi
      rw [hk,List.getElem?_eq_getElem (by omega:i < L.length)]
      simp [List.getD_eq_getElem?_getD,List.getElem?_eq_getElem (by omega:i < L.length)]
    · rw [List.getElem?_eq_none (by rw [cells_len V.lev V.in_]; omega),List.getElem?_eq_none (by omega)]
      rfl
  · rw [V.cells,cellsK_snd kl,holes_back V.hole]
theorem Cel.of (V:Valid s n F S L) (hE:SErr F es) (h0:runE s n F.length S es L = 0):Cel s n F es (cellsL L S):=by
  obtain ⟨b1,b2⟩:=V.back
  refine ⟨(cells_len V.lev V.in_).symm,hE,by rw [b1]; exact V.lev,by rw [b1,b2]; exact h0,by rw [b1,b2]; exact V,by rw [b1,b2]⟩
theorem Cel.made (hd:headE s n C.length = 0) (hn:n + C.length ≤ 100000000) (lim:∀ c,c ∈ C → c.1.natAbs ≤ 16384) (dk:DarkC C):∃ es,Cel s n (C.map fun c => smp c.1) es C:=by
  obtain ⟨es,e1,e2,e3,e4,e5⟩:=made_run hd hn lim dk
  exact ⟨es,by simp,e1,e2,e3,e4,e5⟩
theorem RunO.cel {B:Nat} {h:TH} {w1 w2:Value} (o:RunO B h w1 w2 (C.map fun c => smp c.1) (holesOf (C.map fun c => c.2))) (hd:headE s n C.length = 0) (hn:n + C.length ≤ 100000000) (lim:∀ c,c ∈ C → c.1.natAbs ≤ 16384) (dk:DarkC C):RunC s n h w1 w2 C:=by
  obtain ⟨es,c⟩:=Cel.made hd hn lim dk
  exact ⟨_,es,o.r,c⟩
end
section
variable {s:ByteArray} {n:Int} {h:TH} {v1 v2 w1 w2:Value} {C D:List (Int × Bool)}
def NewC (s:ByteArray) (n:Int) (C:List (Int × Bool)) (h:TH) (v:Value) (h':TH):Prop :=
  ∃ bo1 l1 k1 bo2 l2 k2,v = .tuple #[runV s n (.slice bo1 l1 k1) (.slice bo2 l2 k2),.int .i64 0] ∧ HX h h' ∧ RunC s n h' (.slice bo1 l1 k1) (.slice bo2 l2 k2) C ∧ Above h.next (.slice bo1 l1 k1) ∧ Above h.next (.slice bo2 l2 k2)
theorem RunR.new {h':TH} {v:Value} (r:RunR h h' v s n C 0) (hd:headE s n C.length = 0) (hn:n + C.length ≤ 100000000) (lim:∀ c,c ∈ C → c.1.natAbs ≤ 16384) (dk:DarkC C):NewC s n C h v h':=by
  obtain ⟨X,⟨he,_⟩ | ⟨_,w1,w2,rfl,O⟩⟩:=r
  · exact absurd rfl he
  · obtain ⟨bo1,k1,rfl⟩:=O.r.f.form
    obtain ⟨bo2,k2,rfl⟩:=O.r.s.form
    exact ⟨_,_,_,_,_,_,rfl,X,O.cel hd hn lim dk,O.o1,O.o2⟩
theorem c31 (H:Has tp) (r:RunC s n h v1 v2 C):CallW Tryz.prog tp (.func (.func 31) #[] #[]) #[runV s n v1 v2] h fun v h' => v = .int .i64 0 ∧ HX h h':=by
  obtain ⟨F,es,r,c⟩:=r
  have m:=c.m
  have l:=c.len
  have q:=c.holes
  refine (k31 H r c.e (fun _ => c.lev) (by omega) (by omega)).mono ?_
  rintro v h' ⟨rfl,x⟩
  rw [c.r]
  exact ⟨rfl,x⟩
theorem c25 (H:Has tp) (r:RunC s n h v1 v2 C) (f:Free0 h.next h):CallW Tryz.prog tp (.func (.func 25) #[] #[]) #[runV s n v1 v2] h fun v h' => ∃ w1 w2,v = runV s n w1 w2 ∧ HX h h' ∧ RunC s n h' w1 w2 C:=by
  obtain ⟨F,es,r,c⟩:=r
  have m:=c.m
  have l:=c.len
  have q:=c.holes
  refine (k25 H r (by omega) (by omega) f).mono ?_
  rintro v h' ⟨w1,w2,rfl,x,o⟩
  exact ⟨w1,w2,rfl,x,F,es,o.r,c⟩
theorem c28 (H:Has tp) (X:HasX tp) (r:RunC s n h v1 v2 C) (f:Free0 h.next h):CallW Tryz.prog tp (.func (.func 28) #[] #[]) #[runV s n v1 v2] h fun v h' => NewC s n C.reverse h v h':=by
  obtain ⟨F,es,r,c⟩:=r
  have m:=c.m
  have l:=c.len
  have q:=c.holes
  refine (k28 H X r c.e (fun _ => c.lev) (by omega) (by omega) f).mono ?_
  intro v h' R
  rw [c.r,c.c] at R
  exact R.new (by rw [List.length_reverse]; exact c.head) (by rw [List.length_reverse]; exact c.top) (fun x hx => c.lim x (List.mem_reverse.1 hx)) (fun x hx => c.dk x (List.mem_reverse.1 hx))
theorem c57 (H:Has tp) (r:RunC s n h v1 v2 C) (r':RunC s n h w1 w2 C):CallW Tryz.prog tp (.func (.func 57) #[] #[]) #[runV s n v1 v2,runV s n w1 w2] h fun v h' => v = .bool true ∧ HX h h':=by
  obtain ⟨F,es,r,c⟩:=r
  obtain ⟨F',es',r',c'⟩:=r'
  have m:=c.m
  have l:=c.len
  have q:=c.holes
  exact k57 H r.f r'.f c.lev c'.lev r.s r'.s (by omega) (by omega)
theorem c24 (H:Has tp) (X:HasX tp) {place:Int} (r:RunC s n h v1 v2 C) (h1:n ≤ place) (h2:place < n + C.length) (f:Free0 h.next h):CallW Tryz.prog tp (.func (.func 24) #[] #[]) #[runV s n v1 v2,.int .i64 place] h fun v h' => v = .tuple #[.float .f32 (smp (C.getD (place - n).toNat (0,false)).1),.bool (C.getD (place - n).toNat (0,false)).2,.int .i64 0] ∧ HX h h':=by
  obtain ⟨F,es,r,c⟩:=r
  have m:=c.m
  have l:=c.len
  have q:=c.holes
  refine (k24 H X r c.e (fun _ => c.lev) (by omega) (by omega) f).mono ?_
  rintro v h' ⟨rfl,x⟩
  refine ⟨?_,x⟩
  unfold atV
  rw [c.r,c.c,decide_eq_false (by omega),decide_eq_false (by rw [l]; omega)]
  rfl
theorem c29 (H:Has tp) (X:HasX tp) (r:RunC s n h v1 v2 C) (f:Free0 h.next h):CallW Tryz.prog tp (.func (.func 29) #[] #[]) #[runV s n v1 v2] h fun v h' => v = .tuple #[.int .i64 (sqL (knownV C)),.int .i64 0] ∧ HX h h':=by
  obtain ⟨F,es,r,c⟩:=r
  have m:=c.m
  have l:=c.len
  have q:=c.holes
  refine (k29 H X r c.e (fun _ => c.lev) (by omega) (by omega) f).mono ?_
  rintro v h' ⟨rfl,x⟩
  rw [c.r,c.c]
  exact ⟨rfl,x⟩
def meanT (sum:Int) (k:Nat):Value:=cond (k == 0) (.tuple #[ratio0,.int .i64 7]) (.tuple #[meanR sum k,.int .i64 0])
theorem c30 (H:Has tp) (X:HasX tp) (r:RunC s n h v1 v2 C) (f:Free0 h.next h):CallW Tryz.prog tp (.func (.func 30) #[] #[]) #[runV s n v1 v2] h fun v h' => v = meanT (sumL (knownV C)) (knownV C).length ∧ HX h h':=by
  obtain ⟨F,es,r,c⟩:=r
  have m:=c.m
  have l:=c.len
  have q:=c.holes
  refine (k30 H X r c.e (fun _ => c.lev) (by omega) (by omega) f).mono ?_
  rintro v h' ⟨rfl,x⟩
  rw [c.r,c.c]
  exact ⟨rfl,x⟩
def filC (z:Int) (C:List (Int × Bool)):List (Int × Bool):=(holesOf (C.map fun c => c.2)).foldl (fillS z C.length (fillC (C.map fun c => c.1))) C
theorem setN_dark {D:List (Int × Bool)} {p:Nat} {g:Nat → Int} (h:DarkC D) (w:Nat):DarkC (setN D p (fun i => (g i,true)) w):=fun c hc hk => by
  rcases setN_mem w hc with hc | ⟨j,_,rfl⟩
  · exact h c hc hk
  · cases hk
theorem fills_dark {L:List Int} {z:Int} {m:Nat}:∀ {S:List (Int × Int)} {D:List (Int × Bool)},DarkC D → DarkC (S.foldl (fillS z m (fillC L)) D)
  | [],_,h => h
  | p :: S,D,h => by
    rw [List.foldl_cons]
    refine fills_dark ?_
    unfold fillS
    cases fillOn z m p with
    | false => exact h
    | true => exact setN_dark h _
theorem c45 (H:Has tp) (X:HasX tp) {z:Int} (hz:0 ≤ z) (hz2:z ≤ 4096) (r:RunC s n h v1 v2 C) (f:Free0 h.next h):CallW Tryz.prog tp (.func (.func 45) #[] #[]) #[runV s n v1 v2,.int .i64 z] h fun v h' => NewC s n (filC z C) h v h':=by
  obtain ⟨F,es,r,c⟩:=r
  have m:=c.m
  have l:=c.len
  have q:=c.holes
  refine (k45 H X r c.e (fun _ => c.lev) (by omega) (by omega) f).mono ?_
  intro v h' R
  have ho:outB z 0 4096 = 0:=by unfold outB; rw [decide_eq_false (by omega),decide_eq_false (by omega)]; rfl
  rw [c.r,c.c,ho,l] at R
  have hl:(filC z C).length = C.length:=fills_len
  exact R.new (by rw [fills_len]; exact c.head) (by rw [fills_len]; exact c.top) (fills_lim (lev_lim c.lev) c.lim) (fills_dark c.dk)
end
end Go.Tidy
namespace Go.Tidy
open Go Go.Proofs Tab
variable {tp:TProg}
theorem filC_len {z:Int} {C:List (Int × Bool)}:(filC z C).length = C.length:=fills_len
end Go.Tidy
namespace Go.Tidy
open Go Go.Proofs Tab
variable {tp:TProg}
theorem headE_of {s:ByteArray} {n:Int} {m:Nat} (h1:nameB s = true) (h2:0 ≤ n) (h3:n ≤ 100000000) (h4:m ≤ 4096):headE s n m = 0:=by
  unfold headE outB
  rw [h1,decide_eq_false (by omega:¬ n < 0),decide_eq_false (by omega:¬ n > 100000000),decide_eq_false (by omega:¬ (m:Int) > 4096)]
  rfl
section
variable {s s':ByteArray} {n n':Int} {h:TH} {v1 v2 w1 w2:Value} {C D:List (Int × Bool)}
def partC (C:List (Int × Bool)) (lo hi:Nat):List (Int × Bool):=(C.drop lo).take (hi - lo)
theorem partC_len {lo hi:Nat} (h1:lo ≤ hi) (h2:hi ≤ C.length):(partC C lo hi).length = hi - lo:=by unfold partC; rw [List.length_take,List.length_drop]; omega
theorem partC_mem {lo hi:Nat} {c:Int × Bool} (h:c ∈ partC C lo hi):c ∈ C:=List.mem_of_mem_drop (List.mem_of_mem_take h)
theorem c27 (H:Has tp) (X:HasX tp) {lo hi:Nat} (h1:lo < hi) (h2:hi ≤ C.length) (r:RunC s n h v1 v2 C) (f:Free0 h.next h):CallW Tryz.prog tp (.func (.func 27) #[] #[]) #[runV s n v1 v2,.agg #[.int .i64 (n + lo),.int .i64 (n + hi)]] h fun v h' => NewC s (n + lo) (partC C lo hi) h v h':=by
  obtain ⟨F,es,r,c⟩:=r
  have m:=c.m
  have l:=c.len
  have q:=c.holes
  have n1:=c.top
  obtain ⟨e1,e2,e3,_⟩:=headE_zero c.head
  refine (k27 H X r c.e (fun _ => c.lev) (by omega) (by omega) f).mono ?_
  intro v h' R
  have ho:offB n F.length (n + lo,n + hi) = false:=by
    unfold offB
    rw [decide_eq_false (by show ¬ n + (lo:Int) < n; omega),decide_eq_false (by show ¬ n + (lo:Int) ≥ n + hi; omega),decide_eq_false (by show ¬ n + (hi:Int) > n + F.length; omega)]
    rfl
  rw [c.r,c.c,ho,show (n + (lo:Int) - n).toNat = lo by omega,show (n + (hi:Int) - n).toNat = hi by omega] at R
  have pl:=partC_len (C:=C) (by omega:lo ≤ hi) h2
  exact RunR.new (C:=partC C lo hi) R (headE_of e1 (by omega) (by omega) (by omega)) (by rw [pl]; omega) (fun x hx => c.lim x (partC_mem hx)) (fun x hx => c.dk x (partC_mem hx))
theorem c33 (H:Has tp) (r:RunC s n h v1 v2 C):CallW Tryz.prog tp (.func (.func 33) #[] #[]) #[runV s n v1 v2] h fun v h' => v = .int .i64 (n + C.length) ∧ HX h h':=by
  obtain ⟨F,es,r,c⟩:=r
  have m:=c.m
  have l:=c.len
  have n1:=c.top
  have n0:=c.v.n0
  refine (k33 H r.f n0 (by omega) (by omega)).mono ?_
  rintro v h' ⟨rfl,x⟩
  rw [l]
  exact ⟨rfl,x⟩
def knownC (C:List (Int × Bool)) (x:Int):Bool:=knownB (holesOf (C.map fun c => c.2)) x
theorem knownC_get {i:Nat} {c:Int × Bool} (hc:C[i]? = some c):knownC C i = c.2:=by
  have hi:i < (C.map fun c => c.2).length:=by rw [List.length_map]; exact (List.getElem?_eq_some_iff.1 hc).1
  have:=holesOf_get hi
  rw [List.getElem?_map,hc] at this
  exact (Option.some.inj this).symm
theorem c39 (H:Has tp) (x:Int) (r:RunC s n h v1 v2 C):CallW Tryz.prog tp (.func (.func 39) #[] #[]) #[runV s n v1 v2,.int .i64 x] h fun v h' => v = .bool (knownC C x) ∧ HX h h':=by
  obtain ⟨F,es,r,c⟩:=r
  have m:=c.m
  have q:=c.holes
  exact k39 H r.s (by omega)
theorem joinC_len (h1:n + C.length ≤ n'):((joinC n n' C D).length:Int) = n' + D.length - n:=by
  unfold joinC
  simp
  omega
theorem joinC_mem {c:Int × Bool} (h:c ∈ joinC n n' C D):c ∈ C ∨ c = (0,false) ∨ c ∈ D:=by
  unfold joinC at h
  simp only [List.mem_flatten,List.mem_cons,List.not_mem_nil,or_false] at h
  obtain ⟨l,rfl | rfl | rfl,hc⟩:=h
  · exact .inl hc
  · exact .inr (.inl (List.mem_replicate.1 hc).2)
  · exact .inr (.inr hc)
theorem c49 (H:Has tp) (X:HasX tp) (h1:n + C.length ≤ n') (h2:n' + D.length - n ≤ 4096) (r:RunC s n h v1 v2 C) (r':RunC s' n' h w1 w2 D) (f:Free0 h.next h):CallW Tryz.prog tp (.func (.func 49) #[] #[]) #[runV s n v1 v2,runV s' n' w1 w2] h fun v h' => NewC s n (joinC n n' C D) h v h':=by
  obtain ⟨F,es,r,c⟩:=r
  obtain ⟨F',es',r',c'⟩:=r'
  have m:=c.m
  have l:=c.len
  have q:=c.holes
  have m':=c'.m
  have l':=c'.len
  have q':=c'.holes
  have n1:=c'.top
  obtain ⟨e1,e2,e3,_⟩:=headE_zero c.head
  refine (k49 H X r r' c.e (fun _ => c.lev) c'.e (fun _ => c'.lev) (by omega) (by omega) (by omega) (by omega) f).mono ?_
  intro v h' R
  have ho:joinErr 0 0 n F.length n' F'.length = 0:=by
    unfold joinErr joinE
    rw [l,l',decide_eq_false (by omega:¬ n' < n + C.length),decide_eq_false (by omega:¬ n' + D.length - n > 4096)]
    rfl
  rw [c.r,c.c,c'.r,c'.c,ho] at R
  have jl:=joinC_len (D:=D) h1
  refine R.new (headE_of e1 e2 e3 (by omega)) (by omega) (fun x hx => ?_) (fun x hx hk => ?_)
  · rcases joinC_mem hx with h | rfl | h
    · exact c.lim x h
    · decide
    · exact c'.lim x h
  · rcases joinC_mem hx with h | rfl | h
    · exact c.dk x h hk
    · rfl
    · exact c'.dk x h hk
end
theorem join_parts {n:Int} {C:List (Int × Bool)} {k:Nat} (hk:k ≤ C.length):joinC n (n + k) (partC C 0 k) (partC C k C.length) = C:=by
  unfold joinC
  rw [partC_len (Nat.zero_le _) hk,show (n + (k:Int) - (n + ((k - 0:Nat):Int))).toNat = 0 by omega]
  unfold partC
  have e:List.take (C.length - k) (List.drop k C) = List.drop k C:=List.take_of_length_le (by rw [List.length_drop]; exact Nat.le_refl _)
  simp [e]
theorem join_gap {n:Int} {C:List (Int × Bool)} {j k:Nat} (h1:j ≤ k) (h2:k ≤ C.length):joinC n (n + k) (partC C 0 j) (partC C k C.length) = C.take j ++ (List.replicate (k - j) ((0:Int),false) ++ C.drop k):=by
  unfold joinC
  rw [partC_len (Nat.zero_le _) (by omega),show (n + (k:Int) - (n + ((j - 0:Nat):Int))).toNat = k - j by omega]
  unfold partC
  have e:List.take (C.length - k) (List.drop k C) = List.drop k C:=List.take_of_length_le (by rw [List.length_drop]; exact Nat.le_refl _)
  simp [e]
end Go.Tidy
namespace Go.Tidy
open Go Go.Proofs Tab
variable {tp:TProg}
theorem lev_some (F:List Nat):∃ es L,SErr F es ∧ (firstNZ es = 0 → Lev F L):=by
  obtain ⟨es,hE⟩:=serr_ex F
  by_cases h0:firstNZ es = 0
  · obtain ⟨L,hL⟩:=lev_ex F es hE (firstNZ_zero h0)
    exact ⟨es,L,hE,fun _ => hL⟩
  · exact ⟨es,[],hE,fun h => absurd h h0⟩
attribute [local irreducible] Ty valOf
end Go.Tidy
namespace Go.Tidy
open Go Go.Proofs Tab
variable {tp:TProg}
section
variable {P:Program} {h:TH} {K:Regs → TH → Prop} {rest:List TOper} {d:Option Tmp} {ty:TypeId} {i:Nat} {x y:Operand} {t u:TypeId} {L:Rg}
theorem WO.neb {a:Regs} {b c:Bool} (hu:P.underlying t = some .bool) (hx:getO a x = some (.bool b)) (hy:getO a y = some (.bool c)) (w:WO P tp rest (a.put d (.bool (b != c))) h K):WO P tp (⟨d,.binOp .neq t x y u,ty,none,[],i⟩ :: rest) a h K:=by
  have ex:=getO_eval hx
  have ey:=getO_eval hy
  refine WO.plainly rfl rfl rfl (by simp [fastOp,fastBin,ex,ey]) (by simp [valueOp,ex,ey,eqT_bool]) (plainOp_of (by rfl) (fun q hq => ?_) ?_ rfl) w
  · simp only [Op.operands] at hq
    simp at hq
    rcases hq with rfl | rfl
    · rw [ex]; rfl
    · rw [ey]; rfl
  · show pv P (execOp a.eval ⟨d, .binOp .neq t x y u, ty, "", #[], none⟩) = _
    simp [execOp,pv_bind,pv_map,pv_pure,ex,ey,eqGuard,binOp,pv_eqb hu]
    cases b <;> cases c <;> rfl
theorem WOL.neb {b c:Bool} (hu:P.underlying t = some .bool) (hx:getL L x = some (.bool b)) (hy:getL L y = some (.bool c)) (w:∀ a,Kn (putL L d (.bool (b != c))) a → WO P tp rest a h K):∀ a,Kn L a → WO P tp (⟨d,.binOp .neq t x y u,ty,none,[],i⟩ :: rest) a h K:=fun a k => WO.neb hu (k.o hx) (k.o hy) (w _ (k.put d _))
theorem WOL.fne {b c:Nat} {m n:Int} (s:Samp b m) (s':Samp c n) (hx:getL L x = some (.float .f32 b)) (hy:getL L y = some (.float .f32 c)) (w:∀ a,Kn (putL L d (.bool (!decide (m = n)))) a → WO P tp rest a h K):∀ a,Kn L a → WO P tp (⟨d,.binOp .neq t x y u,ty,none,[],i⟩ :: rest) a h K:=fun a k => WO.fcmp (k.o hx) (k.o hy) s.nan s'.nan (s.cmp s').2 (w _ (k.put d _))
end
section
variable {s:ByteArray} {n:Int} {g:TH} {v1 v2 p1 p2:Value} {C:List (Int × Bool)} {c2 c3 c5':Nat}
end
end Go.Tidy
namespace Go.Tidy
open Go Go.Proofs Tab
variable {tp:TProg}
theorem ne_same (z:Int):fastBin .neq (.int .i64 z) (.int .i64 z) = some (.bool false):=by
  show some (Value.bool (z != z)) = _
  simp
section
variable {s:ByteArray} {n:Int} {g:TH} {v1 v2 p1 p2:Value} {C D:List (Int × Bool)} {c2 c3 c5':Nat}
end
end Go.Tidy
namespace Go.Tidy
open Go Go.Proofs Tab
variable {tp:TProg}
section
variable {s:ByteArray} {n:Int} {g:TH} {v1 v2 p1 p2:Value} {C:List (Int × Bool)} {c2 c3 c5':Nat}
theorem RunC.lens (r:RunC s n g v1 v2 C):∃ F:List Nat,F.length = C.length ∧ SlL encF 1 g v1 F:=by
  obtain ⟨F,es,r,c⟩:=r
  exact ⟨F,c.len,r.f⟩
theorem RunC.relock (r:RunC s n g v1 v2 C) (M:List Nat):RunC s n (g.withLock M) v1 v2 C:=by
  obtain ⟨F,es,r,c⟩:=r
  exact ⟨F,es,r.relock' M,c⟩
theorem RunC.hx' {h':TH} (r:RunC s n g v1 v2 C) (x:HX g h') (M:List Nat):RunC s n (h'.withLock M) v1 v2 C:=(r.hx x).relock M
theorem RunC.small (r:RunC s n g v1 v2 C):C.length ≤ 4096 ∧ 0 ≤ n ∧ n + C.length ≤ 100000000 ∧ DarkC C ∧ ∀ x,x ∈ C → x.1.natAbs ≤ 16384:=by
  obtain ⟨F,es,r,c⟩:=r
  exact ⟨c.m,c.v.n0,c.top,c.dk,c.lim⟩
end
attribute [local irreducible] Ty valOf
end Go.Tidy
namespace Go.Tidy
open Go Go.Proofs Tab
variable {tp:TProg}
theorem RunC.away {s:ByteArray} {n:Int} {h h':TH} {v1 v2:Value} {C:List (Int × Bool)} {n0 c:Nat} {x:TB} (r:RunC s n h v1 v2 C) (a1:Above n0 v1) (a2:Above n0 v2) (p:Put h h' c x) (hc:c < n0):RunC s n h' v1 v2 C:=by
  obtain ⟨F,es,r,q⟩:=r
  exact ⟨F,es,(RunO.away (n0:=n0) ⟨r,a1,a2⟩ p hc).r,q⟩
theorem u5:Tryz.prog.underlying 5 = some (.int .u8):=by kernel_rfl
theorem u94:Tryz.prog.underlying 94 = some (.array 3 5):=by kernel_rfl
theorem tp5:Tp Tryz.prog 5 1 [.int .u8 0] false:=tp_of (by kernel_rfl) (by kernel_rfl) rfl
theorem ixC0 {c:Nat}:indexAddrT Tryz.prog 94 (.pointer (some ⟨c,0,none⟩)) (.int .i64 0) = some (.pointer (some ⟨c,0,none⟩)):=by kernel_rfl
theorem ixC1 {c:Nat}:indexAddrT Tryz.prog 94 (.pointer (some ⟨c,0,none⟩)) (.int .i64 1) = some (.pointer (some ⟨c,1,none⟩)):=by kernel_rfl
theorem ixC2 {c:Nat}:indexAddrT Tryz.prog 94 (.pointer (some ⟨c,0,none⟩)) (.int .i64 2) = some (.pointer (some ⟨c,2,none⟩)):=by kernel_rfl
theorem WOL.convU {P:Program} {tp:TProg} {h:TH} {K:Regs → TH → Prop} {rest:List TOper} {d:Option Tmp} {ty:TypeId} {i:Nat} {x:Operand} {L:Rg} {s t:TypeId} {ds:TypeDesc} {k:IntKind} {n:Int} (hs:P.underlying s = some ds) (ht:P.underlying t = some (.int .i64)) (hx:getL L x = some (.int k n)) (h1:0 ≤ n) (h2:n ≤ 255) (w:∀ a,Kn (putL L d (.int .i64 n)) a → WO P tp rest a h K):∀ a,Kn L a → WO P tp (⟨d,.convert s t x,ty,none,[],i⟩ :: rest) a h K:=fun a q => by
  refine WO.conv (q.o hx) rfl (conv_i2i hs ht) rfl ?_
  rw [show IntKind.i64.wrap n = n from IntWalk.i64_in _ (by omega)]
  exact w _ (q.put d _)
section
variable {s:ByteArray} {n:Int} {g:TH} {v1 v2:Value} {C:List (Int × Bool)} {c2 c3:Nat}
set_option maxHeartbeats 4000000 in
set_option maxRecDepth 100000 in
theorem k9a {x y z:Int} (hx:0 ≤ x ∧ x ≤ 255) (hy:0 ≤ y ∧ y ≤ 255) {rest:TCode} {Q:Exit → Regs → TH → Prop} (hC:3 ≤ C.length) (A2:At g c2 (.cells (runV s n v1 v2).cells.toList true true 46)) (A3:At g c3 (.cells [.int .u8 x,.int .u8 y,.int .u8 z] true true 94)) (r:RunC s n g v1 v2 C)
    (K:∀ j k:Nat,1 ≤ j → j < k → k < C.length → ∀ a,Kn [(2,ptr c2),(3,ptr c3),(5,zi (j:Nat)),(6,zi (k:Nat))] a → W Tryz.prog tp false rest a g Q) :
    ∀ a,Kn [(2,ptr c2),(3,ptr c3)] a → W Tryz.prog tp false (.seq (.reg r9_3) (.seq (.reg r9_4) rest)) a g Q:=by
  obtain ⟨F,hF,sF⟩:=r.lens
  obtain ⟨m,n0,n1,dk,lim⟩:=r.small
  refine WL.sr ?_
  refine WOL.ix rfl rfl ixC0 ?_
  refine WOL.ld rfl (load_one tp5 A3 rfl) ?_
  refine WOL.convU u5 u3 rfl hx.1 hx.2 ?_
  refine WOL.fa rfl (fa_of fo46_2) ?_
  refine WOL.ld rfl (load_one tp43 A2 rfl) ?_
  refine WOL.len rfl sF u43 ?_
  rw [hF]
  refine WOL.sub rfl rfl (by omega) (by omega) ?_
  refine WOL.rem rfl rfl hx.1 (by omega) ?_
  have m1:0 ≤ x % ((C.length:Int) - 2):=Int.emod_nonneg _ (by omega)
  have m2:x % ((C.length:Int) - 2) < (C.length:Int) - 2:=Int.emod_lt_of_pos _ (by omega)
  generalize x % ((C.length:Int) - 2) = t at *
  refine WOL.add rfl rfl (by omega) (by omega) ?_
  obtain ⟨j,hj⟩:∃ j:Nat,1 + t = (j:Int):=⟨(1 + t).toNat,by omega⟩
  rw [hj]
  refine WOL.as rfl <| WOL.nil <| keep [(2,_),(3,_),(5,_)] ⟨rfl,rfl,rfl,trivial⟩ ?_
  refine WL.sr <| WOL.mv rfl ?_
  refine WOL.add rfl rfl (by omega) (by omega) ?_
  refine WOL.ix rfl rfl ixC1 ?_
  refine WOL.ld rfl (load_one tp5 A3 rfl) ?_
  refine WOL.convU u5 u3 rfl hy.1 hy.2 ?_
  refine WOL.fa rfl (fa_of fo46_2) ?_
  refine WOL.ld rfl (load_one tp43 A2 rfl) ?_
  refine WOL.len rfl sF u43 ?_
  rw [hF]
  refine WOL.sub rfl rfl (by omega) (by omega) ?_
  refine WOL.mv rfl ?_
  refine WOL.sub rfl rfl (by omega) (by omega) ?_
  refine WOL.rem rfl rfl hy.1 (by omega) ?_
  have m3:0 ≤ y % ((C.length:Int) - 1 - (j:Int)):=Int.emod_nonneg _ (by omega)
  have m4:y % ((C.length:Int) - 1 - (j:Int)) < (C.length:Int) - 1 - (j:Int):=Int.emod_lt_of_pos _ (by omega)
  generalize y % ((C.length:Int) - 1 - (j:Int)) = u at *
  refine WOL.add rfl rfl (by omega) (by omega) ?_
  obtain ⟨k,hk⟩:∃ k:Nat,(j:Int) + 1 + u = (k:Int):=⟨((j:Int) + 1 + u).toNat,by omega⟩
  rw [hk]
  refine WOL.as rfl <| WOL.nil <| keep [(2,_),(3,_),(5,_),(6,_)] ⟨rfl,rfl,rfl,rfl,trivial⟩ ?_
  exact K j k (by omega) (by omega) (by omega)
set_option maxHeartbeats 4000000 in
set_option maxRecDepth 100000 in
theorem k9b (H:Has tp) (X:HasX tp) {j k:Nat} (h1:1 ≤ j) (h2:j < k) (h3:k < C.length) {rest:TCode} {Q:Exit → Regs → TH → Prop} (f:Free0 g.next g) (A2:At g c2 (.cells (runV s n v1 v2).cells.toList true true 46)) (r:RunC s n g v1 v2 C)
    (K:∀ h,HX g h → ∀ c7 c9 c11 p1 p2 q1 q2 u1 u2,At h c7 (.cells (runV s (n + (0:Nat)) p1 p2).cells.toList true true 52) → At h c9 (.cells (runV s (n + j) q1 q2).cells.toList true true 52) → At h c11 (.cells (runV s (n + k) u1 u2).cells.toList true true 52) →
      RunC s (n + (0:Nat)) h p1 p2 (partC C 0 j) → RunC s (n + j) h q1 q2 (partC C j C.length) → RunC s (n + k) h u1 u2 (partC C k C.length) →
      ∀ a,Kn [(2,ptr c2),(3,ptr c3),(5,zi (j:Nat)),(6,zi (k:Nat)),(7,ptr c7),(8,zi 0),(9,ptr c9),(10,zi 0),(11,ptr c11),(12,zi 0)] a → W Tryz.prog tp false rest a h Q) :
    ∀ a,Kn [(2,ptr c2),(3,ptr c3),(5,zi (j:Nat)),(6,zi (k:Nat))] a → W Tryz.prog tp false (.seq (.reg r9_5) (.seq (.reg r9_6) (.seq (.reg r9_7) rest))) a g Q:=by
  obtain ⟨m,n0,n1,dk,lim⟩:=r.small
  have lt2:=A2.lt
  refine WL.sr ?_
  refine WOL.ld rfl (load_row tp46 A2 rfl (Nat.le_of_ble_eq_true rfl)) ?_
  refine WOL.fa rfl (fa_of fo46_1) ?_
  refine WOL.ld rfl (load_one tp3 A2 rfl) ?_
  refine WOL.fa rfl (fa_of fo46_1) ?_
  refine WOL.ld rfl (load_one tp3 A2 rfl) ?_
  refine WOL.mv rfl ?_
  refine WOL.add rfl rfl (by omega) (by omega) ?_
  refine WOL.bd rfl bd48 <| WOL.al tp52 fun i1 N1 => ?_
  have e1:=N1.next
  have Y1:=N1.hx
  refine WOL.lq1 [g.next,c2,c2] rfl rfl rfl fun M hM => ((c25 H (r.hx' Y1 M) ((f.on Y1).held hM (fun b hb => by simp at hb; omega))).mono ?_)
  rintro v i2 ⟨w1,w2,rfl,X2,R2⟩
  replace R2:=R2.relock i1.lock
  replace X2:=X2.relock
  generalize i2.withLock i1.lock = i2 at *
  have Y2:=Y1.trans X2
  have y2:=X2.next
  have J:∀ M,(∀ l,l ∈ M → l ∈ [g.next] ∨ l ∈ i2.lock) → CallW Tryz.prog tp (.func (.func 27) #[] #[]) #[runV s n w1 w2,.agg #[.int .i64 n,.int .i64 (n + j)]] (i2.withLock M) fun v h' => NewC s (n + (0:Nat)) (partC C 0 j) (i2.withLock M) v h':=fun M hM => by
    have:=c27 H X (lo:=0) (hi:=j) (by omega) (by omega) (R2.relock M) ((f.on Y2).held hM (fun b hb => by simp at hb; omega))
    rwa [show n + ((0:Nat):Int) = n by simp] at this ⊢
  refine WOL.lq2 [g.next] rfl rfl rfl rfl fun M hM => (J M hM).mono ?_
  rintro v i3 ⟨bo1,l1,k1,bo2,l2,k2,rfl,X3,R3,a1,a2⟩
  replace R3:=R3.relock i2.lock
  replace X3:=X3.relock
  generalize i3.withLock i2.lock = i3 at *
  have Y3:=Y2.trans X3
  refine WOL.mv rfl <| WOL.ex rfl rfl <| WOL.ex rfl rfl ?_
  refine WOL.sto rfl rfl tp52 ((N1.at_.hx X2).hx X3) rfl rfl (Nat.le_of_ble_eq_true rfl) rfl (f.hx Y3) (Nat.le_refl _) fun i4 P4 => ?_
  have Y4:HX g i4:=P4.hx _ Y3 (Nat.le_refl _)
  have R4:=R3.away a1 a2 P4 (show g.next < i2.next by omega)
  have B7:=P4.at_
  have y4:=Y4.next
  refine WOL.as rfl <| WOL.nil <| keep [(2,_),(3,_),(5,_),(6,_),(7,_),(8,_)] ⟨rfl,rfl,rfl,rfl,rfl,rfl,trivial⟩ ?_
  refine WL.sr ?_
  refine WOL.ld rfl (load_row tp46 (A2.hx Y4) rfl (Nat.le_of_ble_eq_true rfl)) ?_
  refine WOL.fa rfl (fa_of fo46_1) ?_
  refine WOL.ld rfl (load_one tp3 (A2.hx Y4) rfl) ?_
  refine WOL.mv rfl ?_
  refine WOL.add rfl rfl (by omega) (by omega) ?_
  refine WOL.ld rfl (load_row tp46 (A2.hx Y4) rfl (Nat.le_of_ble_eq_true rfl)) ?_
  refine WOL.al tp52 fun i5 N5 => ?_
  have e5:=N5.next
  have Y5:=Y4.trans N5.hx
  refine WOL.lq1 [i4.next,c2,c2] rfl rfl rfl fun M hM => ((c25 H (r.hx' Y5 M) ((f.on Y5).held hM (fun b hb => by simp at hb; omega))).mono ?_)
  rintro v i6 ⟨w1,w2,rfl,X6,R6⟩
  replace R6:=R6.relock i5.lock
  replace X6:=X6.relock
  generalize i6.withLock i5.lock = i6 at *
  have Y6:=Y5.trans X6
  have y6:=X6.next
  refine WOL.lk1 rfl rfl fun M => ((c33 H (r.hx' Y6 M)).mono ?_)
  rintro v i7 ⟨rfl,X7⟩
  replace X7:=X7.relock
  generalize i7.withLock i6.lock = i7 at *
  have Y7:=Y6.trans X7
  have y7:=X7.next
  refine WOL.bd rfl bd48 ?_
  refine WOL.lq2 [i4.next] rfl rfl rfl rfl fun M hM => ((c27 H X (lo:=j) (hi:=C.length) (by omega) (by omega) ((R6.hx X7).relock M) ((f.on Y7).held hM (fun b hb => by simp at hb; omega))).mono ?_)
  rintro v i8 ⟨co1,j1,o1,co2,j2,o2,rfl,X8,R8,a3,a4⟩
  replace R8:=R8.relock i7.lock
  replace X8:=X8.relock
  generalize i8.withLock i7.lock = i8 at *
  have Y8:=Y7.trans X8
  refine WOL.mv rfl <| WOL.ex rfl rfl <| WOL.ex rfl rfl ?_
  refine WOL.sto rfl rfl tp52 (((N5.at_.hx X6).hx X7).hx X8) rfl rfl (Nat.le_of_ble_eq_true rfl) rfl (f.hx Y8) y4 fun i9 P9 => ?_
  have Z9:HX i4 i9:=P9.hx _ (((N5.hx.trans X6).trans X7).trans X8) (Nat.le_refl _)
  have Y9:=Y4.trans Z9
  have R9:=R8.away a3 a4 P9 (show i4.next < i7.next by omega)
  have B9:=P9.at_
  have y9:=Y9.next
  refine WOL.as rfl <| WOL.nil <| keep [(2,_),(3,_),(5,_),(6,_),(7,_),(8,_),(9,_),(10,_)] ⟨rfl,rfl,rfl,rfl,rfl,rfl,rfl,rfl,trivial⟩ ?_
  refine WL.sr ?_
  refine WOL.ld rfl (load_row tp46 (A2.hx Y9) rfl (Nat.le_of_ble_eq_true rfl)) ?_
  refine WOL.fa rfl (fa_of fo46_1) ?_
  refine WOL.ld rfl (load_one tp3 (A2.hx Y9) rfl) ?_
  refine WOL.mv rfl ?_
  refine WOL.add rfl rfl (by omega) (by omega) ?_
  refine WOL.ld rfl (load_row tp46 (A2.hx Y9) rfl (Nat.le_of_ble_eq_true rfl)) ?_
  refine WOL.al tp52 fun i10 N10 => ?_
  have e10:=N10.next
  have Y10:=Y9.trans N10.hx
  refine WOL.lq1 [i9.next,c2,c2] rfl rfl rfl fun M hM => ((c25 H (r.hx' Y10 M) ((f.on Y10).held hM (fun b hb => by simp at hb; omega))).mono ?_)
  rintro v i11 ⟨w1,w2,rfl,X11,R11⟩
  replace R11:=R11.relock i10.lock
  replace X11:=X11.relock
  generalize i11.withLock i10.lock = i11 at *
  have Y11:=Y10.trans X11
  have y11:=X11.next
  refine WOL.lk1 rfl rfl fun M => ((c33 H (r.hx' Y11 M)).mono ?_)
  rintro v i12 ⟨rfl,X12⟩
  replace X12:=X12.relock
  generalize i12.withLock i11.lock = i12 at *
  have Y12:=Y11.trans X12
  have y12:=X12.next
  refine WOL.bd rfl bd48 ?_
  refine WOL.lq2 [i9.next] rfl rfl rfl rfl fun M hM => ((c27 H X (lo:=k) (hi:=C.length) (by omega) (by omega) ((R11.hx X12).relock M) ((f.on Y12).held hM (fun b hb => by simp at hb; omega))).mono ?_)
  rintro v i13 ⟨do1,m1,o3,do2,m2,o4,rfl,X13,R13,a5,a6⟩
  replace R13:=R13.relock i12.lock
  replace X13:=X13.relock
  generalize i13.withLock i12.lock = i13 at *
  have Y13:=Y12.trans X13
  refine WOL.mv rfl <| WOL.ex rfl rfl <| WOL.ex rfl rfl ?_
  refine WOL.sto rfl rfl tp52 (((N10.at_.hx X11).hx X12).hx X13) rfl rfl (Nat.le_of_ble_eq_true rfl) rfl (f.hx Y13) y9 fun i14 P14 => ?_
  have Z14:HX i9 i14:=P14.hx _ (((N10.hx.trans X11).trans X12).trans X13) (Nat.le_refl _)
  have R14:=R13.away a5 a6 P14 (show i9.next < i12.next by omega)
  refine WOL.as rfl <| WOL.nil ?_
  have K':=K i14 (Y9.trans Z14) g.next i4.next i9.next _ _ _ _ _ _ (by rw [show n + ((0:Nat):Int) = n by simp] at B7 ⊢; exact (B7.hx Z9).hx Z14) (B9.hx Z14) P14.at_ ((R4.hx Z9).hx Z14) (R9.hx Z14) R14
  exact kto K' ⟨rfl,rfl,rfl,rfl,rfl,rfl,rfl,rfl,rfl,rfl,trivial⟩
end
end Go.Tidy
namespace Go.Tidy
open Go Go.Proofs Tab
variable {tp:TProg}
def gapC (C:List (Int × Bool)) (j k:Nat):List (Int × Bool):=C.take j ++ (List.replicate (k - j) ((0:Int),false) ++ C.drop k)
theorem gapC_len {C:List (Int × Bool)} {j k:Nat} (h1:j ≤ k) (h2:k ≤ C.length):(gapC C j k).length = C.length:=by
  unfold gapC
  simp
  omega
theorem fo52_1':fieldOff Tryz.prog 52 1 = some 1:=by kernel_rfl
section
variable {s:ByteArray} {n:Int} {g:TH} {v1 v2:Value} {C:List (Int × Bool)} {c2 c3:Nat}
set_option maxHeartbeats 4000000 in
set_option maxRecDepth 100000 in
theorem k9c (H:Has tp) (X:HasX tp) {j k:Nat} (h1:1 ≤ j) (h2:j < k) (h3:k < C.length) {c7 c9 c11:Nat} {p1 p2 q1 q2 u1 u2:Value} {rest:TCode} {Q:Exit → Regs → TH → Prop} (f:Free0 g.next g) (A2:At g c2 (.cells (runV s n v1 v2).cells.toList true true 46)) (r:RunC s n g v1 v2 C)
    (B7:At g c7 (.cells (runV s (n + (0:Nat)) p1 p2).cells.toList true true 52)) (B9:At g c9 (.cells (runV s (n + j) q1 q2).cells.toList true true 52)) (B11:At g c11 (.cells (runV s (n + k) u1 u2).cells.toList true true 52))
    (R7:RunC s (n + (0:Nat)) g p1 p2 (partC C 0 j)) (R9:RunC s (n + j) g q1 q2 (partC C j C.length)) (R11:RunC s (n + k) g u1 u2 (partC C k C.length))
    (K:∀ h,HX g h → ∀ c15 w1 w2,At h c15 (.cells (runV s n w1 w2).cells.toList true true 52) → RunC s n h w1 w2 (gapC C j k) →
      ∀ a,Kn [(2,ptr c2),(3,ptr c3),(5,zi (j:Nat)),(6,zi (k:Nat)),(15,ptr c15)] a → W Tryz.prog tp false rest a h Q) :
    ∀ a,Kn [(2,ptr c2),(3,ptr c3),(5,zi (j:Nat)),(6,zi (k:Nat)),(7,ptr c7),(8,zi 0),(9,ptr c9),(10,zi 0),(11,ptr c11),(12,zi 0)] a → W Tryz.prog tp false (.seq (.seq (.reg r9_8) (.cond (.tmp 134) (.seq (.reg r9_9) .ret) .skip)) (.seq (.reg r9_10) (.seq (.reg r9_11) (.seq (.seq (.reg r9_12) (.cond (.tmp 183) (.seq (.reg r9_13) .ret) .skip)) rest)))) a g Q:=by
  obtain ⟨m,n0,n1,dk,lim⟩:=r.small
  have e0:n + ((0:Nat):Int) = n:=by simp
  rw [e0] at B7 R7
  have l7:(partC C 0 j).length = j:=by rw [partC_len (Nat.zero_le _) (by omega)]; omega
  have l9:(partC C j C.length).length = C.length - j:=partC_len (by omega) (Nat.le_refl _)
  have l11:(partC C k C.length).length = C.length - k:=partC_len (by omega) (Nat.le_refl _)
  refine WL.seq ?_
  refine WL.sr <| WOL.mv rfl ?_
  refine WOL.bi (v:=.bool false) rfl rfl rfl ?_
  refine WOL.mv rfl <| WOL.now (b:=false) rfl rfl <| WOL.mv rfl <| WOL.now (b:=false) rfl rfl ?_
  refine WOL.bi (v:=.bool false) rfl rfl rfl ?_
  refine WOL.pkf rfl rfl <| WOL.mv rfl <| WOL.now (b:=false) rfl rfl <| WOL.mv rfl <| WOL.now (b:=false) rfl rfl ?_
  refine WOL.bi (v:=.bool false) rfl rfl rfl ?_
  refine WOL.pkf rfl rfl <| WOL.mv rfl <| WOL.now (b:=false) rfl rfl ?_
  refine WOL.ld rfl (load_row tp52 B7 rfl (Nat.le_of_ble_eq_true rfl)) ?_
  refine WOL.now (b:=false) rfl rfl ?_
  refine WOL.cl1 rfl rfl ((c31 H R7).mono ?_)
  rintro v i1 ⟨rfl,X1⟩
  refine WOL.now (b:=false) rfl rfl ?_
  refine WOL.bi (v:=.bool false) rfl rfl rfl ?_
  refine WOL.pkf rfl rfl <| WOL.mv rfl <| WOL.now (b:=false) rfl rfl ?_
  refine WOL.ld rfl (load_row tp52 (B9.hx X1) rfl (Nat.le_of_ble_eq_true rfl)) ?_
  refine WOL.now (b:=false) rfl rfl ?_
  refine WOL.cl1 rfl rfl ((c31 H (R9.hx X1)).mono ?_)
  rintro v i2 ⟨rfl,X2⟩
  have Y2:=X1.trans X2
  refine WOL.now (b:=false) rfl rfl ?_
  refine WOL.bi (v:=.bool false) rfl rfl rfl ?_
  refine WOL.pkf rfl rfl <| WOL.mv rfl <| WOL.now (b:=false) rfl rfl ?_
  refine WOL.ld rfl (load_row tp52 (B11.hx Y2) rfl (Nat.le_of_ble_eq_true rfl)) ?_
  refine WOL.now (b:=false) rfl rfl ?_
  refine WOL.cl1 rfl rfl ((c31 H (R11.hx Y2)).mono ?_)
  rintro v i3 ⟨rfl,X3⟩
  have Y3:=Y2.trans X3
  refine WOL.now (b:=false) rfl rfl ?_
  refine WOL.bi (v:=.bool false) rfl rfl rfl ?_
  refine WOL.pkf rfl rfl <| WOL.nil <| keep [(2,_),(3,_),(5,_),(6,_),(7,_),(9,_),(11,_),(134,_)] ⟨rfl,rfl,rfl,rfl,rfl,rfl,rfl,rfl,trivial⟩ ?_
  refine WL.no rfl <| WL.skip ?_
  have y3:=Y3.next
  have lt7:=B7.lt
  have lt9:=B9.lt
  have lt11:=B11.lt
  -- both parts
  refine WL.sr ?_
  refine WOL.ld rfl (load_row tp52 (B7.hx Y3) rfl (Nat.le_of_ble_eq_true rfl)) ?_
  refine WOL.ld rfl (load_row tp52 (B9.hx Y3) rfl (Nat.le_of_ble_eq_true rfl)) ?_
  refine WOL.al tp52 fun i4 N4 => ?_
  have e4:=N4.next
  have Y4:=Y3.trans N4.hx
  refine WOL.lq1 [i3.next,c9] rfl rfl rfl fun M hM => ((c25 H (R7.hx' Y4 M) ((f.on Y4).held hM (fun b hb => by simp at hb; omega))).mono ?_)
  rintro v i5 ⟨w1,w2,rfl,X5,S5⟩
  replace S5:=S5.relock i4.lock
  replace X5:=X5.relock
  generalize i5.withLock i4.lock = i5 at *
  have Y5:=Y4.trans X5
  have y5:=X5.next
  refine WOL.lq1 [i3.next] rfl rfl rfl fun M hM => ((c25 H (R9.hx' Y5 M) ((f.on Y5).held hM (fun b hb => by simp at hb; omega))).mono ?_)
  rintro v i6 ⟨w3,w4,rfl,X6,S6⟩
  replace S6:=S6.relock i5.lock
  replace X6:=X6.relock
  generalize i6.withLock i5.lock = i6 at *
  have Y6:=Y5.trans X6
  have y6:=X6.next
  refine WOL.lq2 [i3.next] rfl rfl rfl rfl fun M hM => ((c49 H X (by rw [l7]; omega) (by rw [l9]; omega) ((S5.hx X6).relock M) (S6.relock M) ((f.on Y6).held hM (fun b hb => by simp at hb; omega))).mono ?_)
  rintro v i7 ⟨bo1,x1,y1,bo2,x2,y2,rfl,X7,S7,a1,a2⟩
  rw [join_parts (by omega)] at S7
  replace S7:=S7.relock i6.lock
  replace X7:=X7.relock
  generalize i7.withLock i6.lock = i7 at *
  have Y7:=Y6.trans X7
  refine WOL.mv rfl <| WOL.ex rfl rfl <| WOL.ex rfl rfl ?_
  refine WOL.sto rfl rfl tp52 (((N4.at_.hx X5).hx X6).hx X7) rfl rfl (Nat.le_of_ble_eq_true rfl) rfl (f.hx Y7) y3 fun i8 P8 => ?_
  have Z8:HX i3 i8:=P8.hx _ (((N4.hx.trans X5).trans X6).trans X7) (Nat.le_refl _)
  have Y8:=Y3.trans Z8
  have S8:=S7.away a1 a2 P8 (show i3.next < i6.next by omega)
  have B13:=P8.at_
  have y8:=Y8.next
  refine WOL.as rfl <| WOL.nil <| keep [(2,_),(3,_),(5,_),(6,_),(7,_),(11,_),(13,_),(14,_)] ⟨rfl,rfl,rfl,rfl,rfl,rfl,rfl,rfl,trivial⟩ ?_
  -- without the middle
  refine WL.sr ?_
  refine WOL.ld rfl (load_row tp52 (B7.hx Y8) rfl (Nat.le_of_ble_eq_true rfl)) ?_
  refine WOL.ld rfl (load_row tp52 (B11.hx Y8) rfl (Nat.le_of_ble_eq_true rfl)) ?_
  refine WOL.al tp52 fun i9 N9 => ?_
  have e9:=N9.next
  have Y9:=Y8.trans N9.hx
  refine WOL.lq1 [i8.next,c11] rfl rfl rfl fun M hM => ((c25 H (R7.hx' Y9 M) ((f.on Y9).held hM (fun b hb => by simp at hb; omega))).mono ?_)
  rintro v i10 ⟨w5,w6,rfl,X10,S10⟩
  replace S10:=S10.relock i9.lock
  replace X10:=X10.relock
  generalize i10.withLock i9.lock = i10 at *
  have Y10:=Y9.trans X10
  have y10:=X10.next
  refine WOL.lq1 [i8.next] rfl rfl rfl fun M hM => ((c25 H (R11.hx' Y10 M) ((f.on Y10).held hM (fun b hb => by simp at hb; omega))).mono ?_)
  rintro v i11 ⟨w7,w8,rfl,X11,S11⟩
  replace S11:=S11.relock i10.lock
  replace X11:=X11.relock
  generalize i11.withLock i10.lock = i11 at *
  have Y11:=Y10.trans X11
  have y11:=X11.next
  refine WOL.lq2 [i8.next] rfl rfl rfl rfl fun M hM => ((c49 H X (by rw [l7]; omega) (by rw [l11]; omega) ((S10.hx X11).relock M) (S11.relock M) ((f.on Y11).held hM (fun b hb => by simp at hb; omega))).mono ?_)
  rintro v i12 ⟨co1,x3,y3',co2,x4,y4',rfl,X12,S12,a3,a4⟩
  rw [join_gap (by omega) (by omega)] at S12
  replace S12:RunC s n i12 _ _ (gapC C j k):=S12
  replace S12:=S12.relock i11.lock
  replace X12:=X12.relock
  generalize i12.withLock i11.lock = i12 at *
  have Y12:=Y11.trans X12
  refine WOL.mv rfl <| WOL.ex rfl rfl <| WOL.ex rfl rfl ?_
  refine WOL.sto rfl rfl tp52 (((N9.at_.hx X10).hx X11).hx X12) rfl rfl (Nat.le_of_ble_eq_true rfl) rfl (f.hx Y12) y8 fun i13 P13 => ?_
  have Z13:HX i8 i13:=P13.hx _ (((N9.hx.trans X10).trans X11).trans X12) (Nat.le_refl _)
  have Y13:=Y8.trans Z13
  have S13:=S12.away a3 a4 P13 (show i8.next < i11.next by omega)
  have B15:=P13.at_
  refine WOL.as rfl <| WOL.nil <| keep [(2,_),(3,_),(5,_),(6,_),(13,_),(14,_),(15,_),(16,_)] ⟨rfl,rfl,rfl,rfl,rfl,rfl,rfl,rfl,trivial⟩ ?_
  refine WL.seq ?_
  refine WL.sr <| WOL.mv rfl ?_
  refine WOL.bi (v:=.bool false) rfl rfl rfl ?_
  refine WOL.mv rfl <| WOL.now (b:=false) rfl rfl <| WOL.mv rfl <| WOL.now (b:=false) rfl rfl ?_
  refine WOL.bi (v:=.bool false) rfl rfl rfl ?_
  refine WOL.pkf rfl rfl <| WOL.mv rfl <| WOL.now (b:=false) rfl rfl ?_
  refine WOL.ld rfl (load_row tp52 (B13.hx Z13) rfl (Nat.le_of_ble_eq_true rfl)) ?_
  refine WOL.now (b:=false) rfl rfl ?_
  refine WOL.ld rfl (load_row tp46 (A2.hx Y13) rfl (Nat.le_of_ble_eq_true rfl)) ?_
  refine WOL.now (b:=false) rfl rfl ?_
  refine WOL.cl2 rfl rfl rfl ((c57 H (S8.hx Z13) (r.hx Y13)).mono ?_)
  rintro v i14 ⟨rfl,X14⟩
  have Y14:=Y13.trans X14
  refine WOL.now (b:=false) rfl rfl <| WOL.nt rfl <| WOL.pkf rfl rfl <| WOL.mv rfl <| WOL.now (b:=false) rfl rfl ?_
  refine WOL.ld rfl (load_row tp52 (B15.hx X14) rfl (Nat.le_of_ble_eq_true rfl)) ?_
  refine WOL.now (b:=false) rfl rfl ?_
  refine WOL.cl1 rfl rfl ((c31 H (S13.hx X14)).mono ?_)
  rintro v i15 ⟨rfl,X15⟩
  have Y15:=Y14.trans X15
  have V15:=X14.trans X15
  obtain ⟨G,hG,sG⟩:=(S13.hx V15).lens
  obtain ⟨F,hF,sF⟩:=(r.hx Y15).lens
  rw [gapC_len (by omega) (by omega)] at hG
  refine WOL.now (b:=false) rfl rfl ?_
  refine WOL.bi (v:=.bool false) rfl rfl rfl ?_
  refine WOL.pkf rfl rfl <| WOL.mv rfl <| WOL.now (b:=false) rfl rfl <| WOL.fa rfl (fa_of fo52_2) <| WOL.now (b:=false) rfl rfl ?_
  refine WOL.ld rfl (load_one tp43 (B15.hx V15) rfl) ?_
  refine WOL.now (b:=false) rfl rfl ?_
  refine WOL.len rfl sG u43 ?_
  refine WOL.now (b:=false) rfl rfl <| WOL.fa rfl (fa_of fo46_2) <| WOL.now (b:=false) rfl rfl ?_
  refine WOL.ld rfl (load_one tp43 (A2.hx Y15) rfl) ?_
  refine WOL.now (b:=false) rfl rfl ?_
  refine WOL.len rfl sF u43 ?_
  refine WOL.now (b:=false) rfl rfl ?_
  rw [hG,hF]
  refine WOL.bi rfl rfl (ne_same _) ?_
  refine WOL.pkf rfl rfl <| WOL.mv rfl <| WOL.now (b:=false) rfl rfl <| WOL.fa rfl (fa_of fo52_1') <| WOL.now (b:=false) rfl rfl ?_
  refine WOL.ld rfl (load_one tp3 (B15.hx V15) rfl) ?_
  refine WOL.now (b:=false) rfl rfl <| WOL.fa rfl (fa_of fo46_1) <| WOL.now (b:=false) rfl rfl ?_
  refine WOL.ld rfl (load_one tp3 (A2.hx Y15) rfl) ?_
  refine WOL.now (b:=false) rfl rfl ?_
  refine WOL.bi rfl rfl (ne_same _) ?_
  refine WOL.pkf rfl rfl <| WOL.nil <| keep [(2,_),(3,_),(5,_),(6,_),(15,_),(183,_)] ⟨rfl,rfl,rfl,rfl,rfl,rfl,trivial⟩ ?_
  refine WL.no rfl <| WL.skip ?_
  exact kto (K i15 Y15 _ _ _ (B15.hx V15) (S13.hx V15)) ⟨rfl,rfl,rfl,rfl,rfl,trivial⟩
end
end Go.Tidy
namespace Go.Tidy
open Go Go.Proofs Tab
variable {tp:TProg}
theorem gapC_in {C:List (Int × Bool)} {j k i:Nat} (h1:j ≤ i) (h2:i < k) (h3:k ≤ C.length):(gapC C j k).getD i (0,false) = (0,false):=by
  unfold gapC
  rw [List.getD_eq_getElem?_getD,List.getElem?_append_right (by rw [List.length_take]; omega),List.length_take,Nat.min_eq_left (by omega),List.getElem?_append_left (by rw [List.length_replicate]; omega),List.getElem?_replicate,if_pos (by omega)]
  rfl
theorem gapC_out {C:List (Int × Bool)} {j k i:Nat} (hj:j ≤ k) (h:i < j ∨ k ≤ i) (h3:k ≤ C.length):(gapC C j k).getD i (0,false) = C.getD i (0,false):=by
  unfold gapC
  rw [List.getD_eq_getElem?_getD,List.getD_eq_getElem?_getD]
  congr 1
  rcases h with h | h
  · rw [List.getElem?_append_left (by rw [List.length_take]; omega),List.getElem?_take_of_lt h]
  · rw [List.getElem?_append_right (by rw [List.length_take]; omega),List.length_take,Nat.min_eq_left (by omega),List.getElem?_append_right (by rw [List.length_replicate]; omega),List.length_replicate,List.getElem?_drop]
    congr 1
    omega
section
variable {s:ByteArray} {n:Int} {g:TH} {v1 v2:Value} {C:List (Int × Bool)} {c2 c3:Nat}
set_option maxHeartbeats 4000000 in
set_option maxRecDepth 100000 in
theorem k9d (H:Has tp) (X:HasX tp) {j k:Nat} (hj1:1 ≤ j) (hjk:j < k) (hk3:k < C.length) {c15:Nat} {w1 w2:Value} {rest:TCode} {Q:Exit → Regs → TH → Prop} (f:Free0 g.next g) (A2:At g c2 (.cells (runV s n v1 v2).cells.toList true true 46)) (r:RunC s n g v1 v2 C)
    (B15:At g c15 (.cells (runV s n w1 w2).cells.toList true true 52)) (R15:RunC s n g w1 w2 (gapC C j k))
    (K:∀ h,HX g h → ∀ a,Kn [(2,ptr c2),(3,ptr c3)] a → W Tryz.prog tp false rest a h Q) :
    ∀ a,Kn [(2,ptr c2),(3,ptr c3),(5,zi (j:Nat)),(6,zi (k:Nat)),(15,ptr c15)] a → W Tryz.prog tp false (.seq (.seq (.reg r9_14) (.block 0 (.loop (.seq (.reg r9_15) (.seq (.cond (.tmp 188) .skip (.exit 0)) (.seq (.block 1 (.seq (.reg r9_16) (.seq (.reg r9_17) (.seq (.reg r9_18) (.seq (.seq (.reg r9_19) (.cond (.tmp 217) (.seq (.reg r9_20) .ret) .skip)) (.seq (.reg r9_21) (.cond (.tmp 225) (.seq (.reg r9_22) (.cond (.tmp 230) (.seq (.reg r9_23) .ret) .skip)) (.seq (.reg r9_24) (.cond (.tmp 238) (.seq (.reg r9_25) .ret) .skip))))))))) (.reg r9_26))))))) rest) a g Q:=by
  obtain ⟨F,hF,sF⟩:=r.lens
  obtain ⟨m,n0,n1,dk,lim⟩:=r.small
  have lt2:=A2.lt
  have gl:=gapC_len (C:=C) (j:=j) (k:=k) (by omega) (by omega)
  refine WL.seq ?_
  refine WL.sr <| WOL.fa rfl (fa_of fo46_2) ?_
  refine WOL.ld rfl (load_one tp43 A2 rfl) ?_
  refine WOL.len rfl sF u43 ?_
  rw [hF]
  refine WOL.mv rfl <| WOL.nil <| keep [(2,_),(3,_),(5,_),(6,_),(15,_),(186,_),(187,_)] ⟨rfl,rfl,rfl,rfl,rfl,rfl,rfl,trivial⟩ ?_
  refine WL.block ?_
  refine WL.loop (fun q a h2 => ∃ i:Nat,i ≤ C.length ∧ q = C.length - i ∧ HX g h2 ∧ Kn [(2,ptr c2),(3,ptr c3),(5,zi (j:Nat)),(6,zi (k:Nat)),(15,ptr c15),(186,zi C.length),(187,zi (i:Nat))] a) C.length (fun a q => ⟨0,by omega,by omega,HX.refl _,q.sub ⟨rfl,rfl,rfl,rfl,rfl,rfl,rfl,trivial⟩⟩) ?_
  rintro q a h2 ⟨i,hi,rfl,X2,q⟩
  refine q.go ?_
  refine WL.sr ?_
  refine WOL.bi (v:=.bool (decide ((i:Int) < C.length))) rfl rfl rfl ?_
  refine WOL.nil <| keep [(2,_),(3,_),(5,_),(6,_),(15,_),(186,_),(187,_),(188,_)] ⟨rfl,rfl,rfl,rfl,rfl,rfl,rfl,rfl,trivial⟩ ?_
  refine WL.seq ?_
  by_cases hlt:i < C.length
  · rw [show decide ((i:Int) < (C.length:Int)) = true by simpa using hlt]
    refine WL.yes rfl <| WL.skip ?_
    refine WL.seq ?_
    refine WL.block ?_
    refine WL.sr <| WOL.mv rfl <| WOL.as rfl <| WOL.nil <| keep [(2,_),(3,_),(5,_),(6,_),(15,_),(17,_),(186,_),(187,_)] ⟨rfl,rfl,rfl,rfl,rfl,rfl,rfl,rfl,trivial⟩ ?_
    refine WL.sr ?_
    refine WOL.ld rfl (load_row tp46 (A2.hx X2) rfl (Nat.le_of_ble_eq_true rfl)) ?_
    refine WOL.fa rfl (fa_of fo46_1) ?_
    refine WOL.ld rfl (load_one tp3 (A2.hx X2) rfl) ?_
    refine WOL.mv rfl ?_
    refine WOL.add rfl rfl (by omega) (by omega) ?_
    refine WOL.lq1 [c2] rfl rfl rfl fun M hM => ((c25 H (r.hx' X2 M) ((f.on X2).held hM (fun b hb => by simp at hb; have:=X2.next; omega))).mono ?_)
    rintro v h3 ⟨y1,y2,rfl,X3,R3⟩
    replace R3:=R3.relock h2.lock
    replace X3:=X3.relock
    generalize h3.withLock h2.lock = h3 at *
    have Y3:=X2.trans X3
    refine WOL.cl2 rfl rfl rfl ((c24 H X R3 (by omega) (by omega) (f.on Y3)).mono ?_)
    rintro v h4 ⟨rfl,X4⟩
    have Y4:=Y3.trans X4
    rw [show (n + (i:Int) - n).toNat = i by omega]
    refine WOL.mv rfl <| WOL.ex rfl rfl <| WOL.ex rfl rfl <| WOL.ex rfl rfl <| WOL.as rfl <| WOL.as rfl <| WOL.as rfl <| WOL.nil <| keep [(2,_),(3,_),(5,_),(6,_),(15,_),(17,_),(18,_),(19,_),(20,_),(186,_),(187,_)] ⟨rfl,rfl,rfl,rfl,rfl,rfl,rfl,rfl,rfl,rfl,rfl,trivial⟩ ?_
    refine WL.sr ?_
    refine WOL.ld rfl (load_row tp52 (B15.hx Y4) rfl (Nat.le_of_ble_eq_true rfl)) ?_
    refine WOL.fa rfl (fa_of fo46_1) ?_
    refine WOL.ld rfl (load_one tp3 (A2.hx Y4) rfl) ?_
    refine WOL.mv rfl ?_
    refine WOL.add rfl rfl (by omega) (by omega) ?_
    refine WOL.lq1 [c2] rfl rfl rfl fun M hM => ((c25 H (R15.hx' Y4 M) ((f.on Y4).held hM (fun b hb => by simp at hb; have:=Y4.next; omega))).mono ?_)
    rintro v h5 ⟨y1,y2,rfl,X5,R5⟩
    replace R5:=R5.relock h4.lock
    replace X5:=X5.relock
    generalize h5.withLock h4.lock = h5 at *
    have Y5:=Y4.trans X5
    refine WOL.cl2 rfl rfl rfl ((c24 H X R5 (by omega) (by omega) (f.on Y5)).mono ?_)
    rintro v h6 ⟨rfl,X6⟩
    have Y6:=Y5.trans X6
    rw [show (n + (i:Int) - n).toNat = i by omega]
    refine WOL.mv rfl <| WOL.ex rfl rfl <| WOL.ex rfl rfl <| WOL.ex rfl rfl <| WOL.as rfl <| WOL.as rfl <| WOL.as rfl <| WOL.nil <| keep [(2,_),(3,_),(5,_),(6,_),(15,_),(17,_),(18,_),(19,_),(20,_),(21,_),(22,_),(23,_),(186,_),(187,_)] ⟨rfl,rfl,rfl,rfl,rfl,rfl,rfl,rfl,rfl,rfl,rfl,rfl,rfl,rfl,trivial⟩ ?_
    have hc:C.getD i (0,false) ∈ C:=by
      rw [List.getD_eq_getElem?_getD,List.getElem?_eq_getElem hlt]
      exact List.getElem_mem hlt
    have hl:=lim _ hc
    have sm:=(smp_ok hl).2.2
    refine WL.seq ?_
    refine WL.sr <| WOL.mv rfl ?_
    refine WOL.bi (v:=.bool false) rfl rfl rfl ?_
    refine WOL.mv rfl <| WOL.now (b:=false) rfl rfl <| WOL.mv rfl <| WOL.now (b:=false) rfl rfl ?_
    refine WOL.bi (v:=.bool false) rfl rfl rfl ?_
    refine WOL.pkf rfl rfl <| WOL.nil <| keep [(2,_),(3,_),(5,_),(6,_),(15,_),(17,_),(18,_),(19,_),(21,_),(22,_),(186,_),(187,_),(217,_)] ⟨rfl,rfl,rfl,rfl,rfl,rfl,rfl,rfl,rfl,rfl,rfl,rfl,rfl,trivial⟩ ?_
    refine WL.no rfl <| WL.skip ?_
    refine WL.sr <| WOL.mv rfl <| WOL.mv rfl ?_
    refine WOL.bi (v:=.bool (decide ((i:Int) ≥ j))) rfl rfl rfl ?_
    have fin:∀ a,Kn [(2,ptr c2),(3,ptr c3),(5,zi (j:Nat)),(6,zi (k:Nat)),(15,ptr c15),(186,zi C.length),(187,zi (i:Nat))] a → W Tryz.prog tp false (.reg r9_26) a h6 (andThen (fun a h => ∃ q',q' < C.length - i ∧ ∃ i:Nat,i ≤ C.length ∧ q' = C.length - i ∧ HX g h ∧ Kn [(2,ptr c2),(3,ptr c3),(5,zi (j:Nat)),(6,zi (k:Nat)),(15,ptr c15),(186,zi C.length),(187,zi (i:Nat))] a) (leaves 0 (andThen (fun a h => W Tryz.prog tp false rest a h Q) Q))):=by
      refine WL.reg ?_
      refine WOL.bi (v:=zi ((i + 1:Nat):Int)) rfl rfl (by show some (Value.int .i64 (fwrap .i64 ((i:Int) + 1))) = _; rw [fwrap_i64 (by omega) (by omega)]; rfl) ?_
      refine WOL.mv rfl <| WOL.nil ?_
      exact fun a q => ⟨C.length - (i + 1),by omega,i + 1,by omega,rfl,Y6,q.sub ⟨rfl,rfl,rfl,rfl,rfl,rfl,rfl,trivial⟩⟩
    have same:(i < j ∨ k ≤ i) → ∀ a,Kn [(2,ptr c2),(3,ptr c3),(5,zi (j:Nat)),(6,zi (k:Nat)),(15,ptr c15),(18,.float .f32 (smp (C.getD i (0,false)).1)),(19,.bool (C.getD i (0,false)).2),(21,.float .f32 (smp ((gapC C j k).getD i (0,false)).1)),(22,.bool ((gapC C j k).getD i (0,false)).2),(186,zi C.length),(187,zi (i:Nat))] a →
        W Tryz.prog tp false (.seq (.reg r9_24) (.cond (.tmp 238) (.seq (.reg r9_25) .ret) .skip)) a h6 (leaves 1 (andThen (fun a h => W Tryz.prog tp false (.reg r9_26) a h (andThen (fun a h => ∃ q',q' < C.length - i ∧ ∃ i:Nat,i ≤ C.length ∧ q' = C.length - i ∧ HX g h ∧ Kn [(2,ptr c2),(3,ptr c3),(5,zi (j:Nat)),(6,zi (k:Nat)),(15,ptr c15),(186,zi C.length),(187,zi (i:Nat))] a) (leaves 0 (andThen (fun a h => W Tryz.prog tp false rest a h Q) Q)))) (andThen (fun a h => ∃ q',q' < C.length - i ∧ ∃ i:Nat,i ≤ C.length ∧ q' = C.length - i ∧ HX g h ∧ Kn [(2,ptr c2),(3,ptr c3),(5,zi (j:Nat)),(6,zi (k:Nat)),(15,ptr c15),(186,zi C.length),(187,zi (i:Nat))] a) (leaves 0 (andThen (fun a h => W Tryz.prog tp false rest a h Q) Q))))):=by
      intro ho
      rw [gapC_out (by omega) ho (by omega)]
      refine WL.sr <| WOL.mv rfl <| WOL.mv rfl ?_
      refine WOL.fne sm sm rfl rfl ?_
      rw [show (!decide ((C.getD i (0,false)).1 = (C.getD i (0,false)).1)) = false by simp]
      refine WOL.mv rfl <| WOL.now (b:=false) rfl rfl <| WOL.mv rfl <| WOL.now (b:=false) rfl rfl <| WOL.mv rfl <| WOL.now (b:=false) rfl rfl ?_
      refine WOL.neb u4 rfl rfl ?_
      rw [show ((C.getD i (0,false)).2 != (C.getD i (0,false)).2) = false by simp]
      refine WOL.pkf rfl rfl <| WOL.nil ?_
      refine WL.no rfl <| WL.skip ?_
      exact kto fin ⟨rfl,rfl,rfl,rfl,rfl,rfl,rfl,trivial⟩
    by_cases c1:(i:Int) ≥ j
    · rw [decide_eq_true c1]
      refine WOL.mv rfl <| WOL.now (b:=true) rfl rfl <| WOL.mv rfl <| WOL.now (b:=true) rfl rfl <| WOL.mv rfl <| WOL.now (b:=true) rfl rfl ?_
      refine WOL.bi (v:=.bool (decide ((i:Int) < k))) rfl rfl rfl ?_
      refine WOL.pkt rfl rfl <| WOL.nil <| keep [(2,_),(3,_),(5,_),(6,_),(15,_),(18,_),(19,_),(21,_),(22,_),(186,_),(187,_),(225,_)] ⟨rfl,rfl,rfl,rfl,rfl,rfl,rfl,rfl,rfl,rfl,rfl,rfl,trivial⟩ ?_
      by_cases c4:(i:Int) < k
      · rw [decide_eq_true c4,gapC_in (by omega) (by omega) (by omega)]
        refine WL.yes rfl ?_
        refine WL.sr <| WOL.mv rfl <| WOL.mv rfl <| WOL.now (b:=false) rfl rfl <| WOL.mv rfl <| WOL.now (b:=false) rfl rfl ?_
        refine WOL.fne (m:=0) (by rw [smp_zero]; exact zero_samp) zero_samp rfl rfl ?_
        refine WOL.pkf rfl rfl <| WOL.nil ?_
        refine WL.no rfl <| WL.skip ?_
        exact kto fin ⟨rfl,rfl,rfl,rfl,rfl,rfl,rfl,trivial⟩
      · rw [decide_eq_false c4]
        refine WL.no rfl ?_
        exact kto (same (.inr (by omega))) ⟨rfl,rfl,rfl,rfl,rfl,rfl,rfl,rfl,rfl,rfl,rfl,trivial⟩
    · rw [decide_eq_false c1]
      refine WOL.mv rfl <| WOL.skp (b:=false) rfl rfl <| WOL.skp (b:=false) rfl rfl <| WOL.skp (b:=false) rfl rfl <| WOL.pkf rfl rfl <| WOL.nil <| keep [(2,_),(3,_),(5,_),(6,_),(15,_),(18,_),(19,_),(21,_),(22,_),(186,_),(187,_),(225,_)] ⟨rfl,rfl,rfl,rfl,rfl,rfl,rfl,rfl,rfl,rfl,rfl,rfl,trivial⟩ ?_
      refine WL.no rfl ?_
      exact kto (same (.inl (by omega))) ⟨rfl,rfl,rfl,rfl,rfl,rfl,rfl,rfl,rfl,rfl,rfl,trivial⟩
  · rw [show decide ((i:Int) < (C.length:Int)) = false by simpa using hlt]
    refine WL.no rfl <| WL.exit ?_
    exact kto (K h2 X2) ⟨rfl,rfl,trivial⟩
end
end Go.Tidy
namespace Go.Tidy
open Go Go.Proofs Tab
variable {tp:TProg}
section
variable {s:ByteArray} {n:Int} {g:TH} {v1 v2:Value} {C:List (Int × Bool)} {c2 c3:Nat}
set_option maxHeartbeats 4000000 in
set_option maxRecDepth 100000 in
theorem k9e (H:Has tp) (X:HasX tp) {x y z:Int} (hz:0 ≤ z ∧ z ≤ 255) {rest:TCode} {Q:Exit → Regs → TH → Prop} (f:Free0 g.next g) (A2:At g c2 (.cells (runV s n v1 v2).cells.toList true true 46)) (A3:At g c3 (.cells [.int .u8 x,.int .u8 y,.int .u8 z] true true 94)) (r:RunC s n g v1 v2 C)
    (K:∀ h,HX g h → ∀ c25 w1 w2,At h c25 (.cells (runV s n w1 w2).cells.toList true true 52) → RunC s n h w1 w2 (filC (z % 6) C) → ∀ a,Kn [(2,ptr c2),(24,zi (z % 6)),(25,ptr c25)] a → W Tryz.prog tp false rest a h Q) :
    ∀ a,Kn [(2,ptr c2),(3,ptr c3)] a → W Tryz.prog tp false (.seq (.reg r9_27) (.seq (.reg r9_28) (.seq (.seq (.reg r9_29) (.cond (.tmp 266) (.seq (.reg r9_30) .ret) .skip)) rest))) a g Q:=by
  obtain ⟨F,hF,sF⟩:=r.lens
  refine WL.sr ?_
  refine WOL.ix rfl rfl ixC2 ?_
  refine WOL.ld rfl (load_one tp5 A3 rfl) ?_
  refine WOL.convU u5 u3 rfl hz.1 hz.2 ?_
  refine WOL.rem rfl rfl hz.1 (by decide) ?_
  have m1:0 ≤ z % 6:=Int.emod_nonneg _ (by decide)
  have m2:z % 6 < 6:=Int.emod_lt_of_pos _ (by decide)
  generalize z % 6 = t at *
  refine WOL.as rfl <| WOL.nil <| keep [(2,_),(24,_)] ⟨rfl,rfl,trivial⟩ ?_
  refine WL.sr ?_
  refine WOL.ld rfl (load_row tp46 A2 rfl (Nat.le_of_ble_eq_true rfl)) ?_
  refine WOL.cl1 rfl rfl ((c25 H r f).mono ?_)
  rintro v h1 ⟨w1,w2,rfl,X1,R1⟩
  refine WOL.mv rfl ?_
  refine WOL.cl2 rfl rfl rfl ((c45 H X (z:=t) (by omega) (by omega) R1 (f.on X1)).mono ?_)
  rintro v h2 ⟨bo1,l1,k1,bo2,l2,k2,rfl,X2,R2,_,_⟩
  have Y2:=X1.trans X2
  have y2:=Y2.next
  refine WOL.mv rfl <| WOL.ex rfl rfl <| WOL.ex rfl rfl <| WOL.al tp52 fun h3 N3 => ?_
  refine WOL.sto rfl rfl tp52 N3.at_ rfl rfl (Nat.le_of_ble_eq_true rfl) rfl (f.hx (Y2.trans N3.hx)) y2 fun h4 P4 => ?_
  have Z4:HX h2 h4:=P4.hx _ N3.hx (Nat.le_refl _)
  have Y4:=Y2.trans Z4
  have B25:=P4.at_
  have R25:=R2.hx Z4
  refine WOL.as rfl <| WOL.nil <| keep [(2,_),(24,_),(25,_),(26,_)] ⟨rfl,rfl,rfl,rfl,trivial⟩ ?_
  refine WL.seq ?_
  refine WL.sr <| WOL.mv rfl ?_
  refine WOL.bi (v:=.bool false) rfl rfl rfl ?_
  refine WOL.mv rfl <| WOL.now (b:=false) rfl rfl ?_
  refine WOL.ld rfl (load_row tp52 B25 rfl (Nat.le_of_ble_eq_true rfl)) ?_
  refine WOL.now (b:=false) rfl rfl ?_
  refine WOL.cl1 rfl rfl ((c31 H R25).mono ?_)
  rintro v h5 ⟨rfl,X5⟩
  have Y5:=Y4.trans X5
  obtain ⟨G,hG,sG⟩:=(R25.hx X5).lens
  rw [filC_len] at hG
  refine WOL.now (b:=false) rfl rfl ?_
  refine WOL.bi (v:=.bool false) rfl rfl rfl ?_
  refine WOL.pkf rfl rfl <| WOL.mv rfl <| WOL.now (b:=false) rfl rfl <| WOL.fa rfl (fa_of fo52_2) <| WOL.now (b:=false) rfl rfl ?_
  refine WOL.ld rfl (load_one tp43 (B25.hx X5) rfl) ?_
  refine WOL.now (b:=false) rfl rfl ?_
  refine WOL.len rfl sG u43 ?_
  refine WOL.now (b:=false) rfl rfl <| WOL.fa rfl (fa_of fo46_2) <| WOL.now (b:=false) rfl rfl ?_
  refine WOL.ld rfl (load_one tp43 (A2.hx Y5) rfl) ?_
  refine WOL.now (b:=false) rfl rfl ?_
  refine WOL.len rfl (SlC.hx sF Y5) u43 ?_
  refine WOL.now (b:=false) rfl rfl ?_
  rw [hG,hF]
  refine WOL.bi rfl rfl (ne_same _) ?_
  refine WOL.pkf rfl rfl <| WOL.nil <| keep [(2,_),(24,_),(25,_),(266,_)] ⟨rfl,rfl,rfl,rfl,trivial⟩ ?_
  refine WL.no rfl <| WL.skip ?_
  exact kto (K h5 Y5 _ _ _ (B25.hx X5) (R25.hx X5)) ⟨rfl,rfl,rfl,trivial⟩
end
end Go.Tidy
namespace Go.Tidy
open Go Go.Proofs Tab
variable {tp:TProg}
section
variable {s:ByteArray} {n:Int} {g:TH} {v1 v2:Value} {C:List (Int × Bool)} {c2 c3:Nat}
theorem RunC.samp (r:RunC s n g v1 v2 C):∃ F:List Nat,F.length = C.length ∧ SlL encF 1 g v1 F ∧ ∀ (i b:Nat) (c:Int × Bool),F[i]? = some b → C[i]? = some c → Samp b c.1:=by
  obtain ⟨F,es,r,q⟩:=r
  exact ⟨F,q.len,r.f,fun i b c hb hc => q.lev.2 i b c.1 hb (by rw [List.getElem?_map,hc]; rfl)⟩
theorem filC_known {z:Int} {i:Nat} {c:Int × Bool} (hc:C[i]? = some c) (hk:c.2 = true):(filC z C)[i]? = some c:=by
  unfold filC
  have hS:=holes_ok (C.map fun c => c.2)
  rw [List.length_map] at hS
  rw [fills_known (holeE_in hS) (by have:=knownC_get hc; unfold knownC at this; rw [this]; exact hk),hc]
set_option maxHeartbeats 4000000 in
set_option maxRecDepth 100000 in
theorem k9g (H:Has tp) (A:Awk tp) {t:Int} {c25':Nat} {w1 w2:Value} (A2:At g c2 (.cells (runV s n v1 v2).cells.toList true true 46)) (r:RunC s n g v1 v2 C) (B25:At g c25' (.cells (runV s n w1 w2).cells.toList true true 52)) (R25:RunC s n g w1 w2 (filC t C)) :
    ∀ a,Kn [(2,ptr c2),(25,ptr c25')] a → W Tryz.prog tp false (.seq (.seq (.reg r9_44) (.block 6 (.loop (.seq (.reg r9_45) (.seq (.cond (.tmp 359) .skip (.exit 6)) (.seq (.block 7 (.seq (.reg r9_46) (.seq (.reg r9_47) (.cond (.tmp 380) (.seq (.reg r9_48) .ret) .skip)))) (.reg r9_49))))))) (.seq (.reg r9_50) .ret)) a g (Fin Tryz.prog [.tmp 4] fun v _ => v = .bool true):=by
  obtain ⟨F,hF,sF,sp⟩:=r.samp
  obtain ⟨G,hG,sG,sq⟩:=R25.samp
  obtain ⟨m,n0,n1,dk,lim⟩:=r.small
  rw [filC_len] at hG
  refine WL.seq ?_
  refine WL.sr <| WOL.fa rfl (fa_of fo46_2) ?_
  refine WOL.ld rfl (load_one tp43 A2 rfl) ?_
  refine WOL.len rfl sF u43 ?_
  rw [hF]
  refine WOL.mv rfl <| WOL.nil <| keep [(2,_),(25,_),(356,_),(357,_),(358,_)] ⟨rfl,rfl,rfl,rfl,rfl,trivial⟩ ?_
  refine WL.block ?_
  refine WL.loop (fun q a h2 => ∃ i:Nat,i ≤ C.length ∧ q = C.length - i ∧ HX g h2 ∧ Kn [(2,ptr c2),(25,ptr c25'),(356,v1),(357,zi C.length),(358,zi (i:Nat))] a) C.length (fun a q => ⟨0,by omega,by omega,HX.refl _,q.sub ⟨rfl,rfl,rfl,rfl,rfl,trivial⟩⟩) ?_
  rintro q a h2 ⟨i,hi,rfl,X2,q⟩
  refine q.go ?_
  refine WL.sr ?_
  refine WOL.bi (v:=.bool (decide ((i:Int) < C.length))) rfl rfl rfl ?_
  refine WOL.nil <| keep [(2,_),(25,_),(356,_),(357,_),(358,_),(359,_)] ⟨rfl,rfl,rfl,rfl,rfl,rfl,trivial⟩ ?_
  refine WL.seq ?_
  by_cases hlt:i < C.length
  · rw [show decide ((i:Int) < (C.length:Int)) = true by simpa using hlt]
    refine WL.yes rfl <| WL.skip ?_
    have hc:C[i]? = some C[i]:=List.getElem?_eq_getElem hlt
    have hb:F[i]? = some F[i]:=List.getElem?_eq_getElem (by omega)
    have hd:G[i]? = some G[i]:=List.getElem?_eq_getElem (by omega)
    have s1:=sp i _ _ hb hc
    have s2:C[i].2 = true → Samp G[i] C[i].1:=fun hk => sq i _ _ hd (filC_known hc hk)
    have k1:=knownC_get hc
    have k2:C[i].2 = true → knownC (filC t C) i = true:=fun hk => by rw [knownC_get (filC_known hc hk),hk]
    generalize C[i] = c at *
    generalize F[i] = fb at *
    generalize G[i] = gb at *
    obtain ⟨b,o,cc,fix,wr,el,e1,e2,e3,e4,e5⟩:=(sF.hx X2).at eF u43 tp25 hb .i64
    refine WL.seq ?_
    refine WL.block ?_
    refine WL.sr <| WOL.mv rfl ?_
    refine WOL.ix rfl rfl e1 ?_
    refine WOL.ld rfl (load_one tp25 e2 (e5 0 (by decide))) ?_
    refine WOL.as rfl <| WOL.as rfl <| WOL.nil <| keep [(2,_),(25,_),(32,_),(33,_),(356,_),(357,_),(358,_)] ⟨rfl,rfl,rfl,rfl,rfl,rfl,rfl,trivial⟩ ?_
    refine WL.sr ?_
    refine WOL.ld rfl (load_row tp46 (A2.hx X2) rfl (Nat.le_of_ble_eq_true rfl)) ?_
    refine WOL.mv rfl ?_
    refine WOL.cl2 rfl rfl rfl ((c39 H (i:Int) (r.hx X2)).mono ?_)
    rintro v h3 ⟨rfl,X3⟩
    have Y3:=X2.trans X3
    rw [k1]
    have fin:∀ g',HX g g' → ∀ a,Kn [(2,ptr c2),(25,ptr c25'),(356,v1),(357,zi C.length),(358,zi (i:Nat)),(380,.bool false)] a → W Tryz.prog tp false (.cond (.tmp 380) (.seq (.reg r9_48) .ret) .skip) a g' (leaves 7 (andThen (fun a h => W Tryz.prog tp false (.reg r9_49) a h (andThen (fun a h => ∃ q',q' < C.length - i ∧ ∃ i:Nat,i ≤ C.length ∧ q' = C.length - i ∧ HX g h ∧ Kn [(2,ptr c2),(25,ptr c25'),(356,v1),(357,zi C.length),(358,zi (i:Nat))] a) (leaves 6 (andThen (fun a h => W Tryz.prog tp false (.seq (.reg r9_50) .ret) a h (Fin Tryz.prog [.tmp 4] fun v _ => v = .bool true)) (Fin Tryz.prog [.tmp 4] fun v _ => v = .bool true))))) (andThen (fun a h => ∃ q',q' < C.length - i ∧ ∃ i:Nat,i ≤ C.length ∧ q' = C.length - i ∧ HX g h ∧ Kn [(2,ptr c2),(25,ptr c25'),(356,v1),(357,zi C.length),(358,zi (i:Nat))] a) (leaves 6 (andThen (fun a h => W Tryz.prog tp false (.seq (.reg r9_50) .ret) a h (Fin Tryz.prog [.tmp 4] fun v _ => v = .bool true)) (Fin Tryz.prog [.tmp 4] fun v _ => v = .bool true)))))):=by
      intro g' Y'
      refine WL.no rfl <| WL.skip ?_
      refine WL.reg ?_
      refine WOL.bi (v:=zi ((i + 1:Nat):Int)) rfl rfl (by show some (Value.int .i64 (fwrap .i64 ((i:Int) + 1))) = _; rw [fwrap_i64 (by omega) (by omega)]; rfl) ?_
      refine WOL.mv rfl <| WOL.nil ?_
      exact fun a q => ⟨C.length - (i + 1),by omega,i + 1,by omega,rfl,Y',q.sub ⟨rfl,rfl,rfl,rfl,rfl,trivial⟩⟩
    cases hk:c.2 with
    | false =>
      refine WOL.mv rfl ?_
      refine WOL.skp (b:=false) rfl rfl <| WOL.skp (b:=false) rfl rfl <| WOL.skp (b:=false) rfl rfl <| WOL.skp (b:=false) rfl rfl <| WOL.skp (b:=false) rfl rfl ?_
      refine WOL.gu rfl rfl <| WOL.gu rfl rfl <| WOL.gu rfl rfl <| WOL.gu rfl rfl <| WOL.gu rfl rfl <| WOL.gu rfl rfl <| WOL.gu rfl rfl ?_
      refine WOL.skp (b:=false) rfl rfl <| WOL.pkf rfl rfl <| WOL.nil ?_
      exact kto (fin h3 Y3) ⟨rfl,rfl,rfl,rfl,rfl,rfl,trivial⟩
    | true =>
      have s2:=s2 hk
      have k2:=k2 hk
      refine WOL.mv rfl <| WOL.now (b:=true) rfl rfl ?_
      refine WOL.ld rfl (load_row tp52 (B25.hx Y3) rfl (Nat.le_of_ble_eq_true rfl)) ?_
      refine WOL.now (b:=true) rfl rfl <| WOL.mv rfl <| WOL.now (b:=true) rfl rfl ?_
      refine WOL.cl2 rfl rfl rfl ((c39 H (i:Int) (R25.hx Y3)).mono ?_)
      rintro v h4 ⟨rfl,X4⟩
      have Y4:=Y3.trans X4
      rw [k2]
      refine WOL.now (b:=true) rfl rfl <| WOL.nt rfl <| WOL.now (b:=true) rfl rfl <| WOL.mv rfl ?_
      refine WOL.now (b:=false) rfl rfl <| WOL.fa rfl (fa_of fo52_2) <| WOL.now (b:=false) rfl rfl ?_
      refine WOL.ld rfl (load_one tp43 (B25.hx Y4) rfl) ?_
      refine WOL.now (b:=false) rfl rfl <| WOL.mv rfl <| WOL.now (b:=false) rfl rfl ?_
      obtain ⟨b',o',cc',fix',wr',el',g1,g2,g3,g4,g5⟩:=(sG.hx Y4).at eF u43 tp25 hd .i64
      refine WOL.ix rfl rfl g1 <| WOL.now (b:=false) rfl rfl ?_
      refine WOL.ld rfl (load_one tp25 g2 (g5 0 (by decide))) ?_
      refine WOL.now (b:=false) rfl rfl <| WOL.mv rfl <| WOL.now (b:=false) rfl rfl ?_
      refine WOL.fne s2 s1 rfl rfl ?_
      rw [show (!decide (c.1 = c.1)) = false by simp]
      refine WOL.now (b:=true) rfl rfl <| WOL.pkf rfl rfl <| WOL.pkt rfl rfl <| WOL.nil ?_
      exact kto (fin h4 Y4) ⟨rfl,rfl,rfl,rfl,rfl,rfl,trivial⟩
  · rw [show decide ((i:Int) < (C.length:Int)) = false by simpa using hlt]
    refine WL.no rfl <| WL.exit ?_
    refine WL.sr <| WOL.cl0 rfl ((k11 A h2).mono ?_)
    rintro v h3 ⟨rfl,rfl⟩
    refine WOL.as rfl <| WOL.nil <| keep [(4,_)] ⟨rfl,trivial⟩ ?_
    exact WL.done rfl rfl
end
end Go.Tidy
namespace Go.Tidy
open Go Go.Proofs Tab
variable {tp:TProg}
theorem Samp.order {b c:Nat} {n m:Int} (s:Samp b n) (t:Samp c m):Ieee.single.order b c = some (compare n m):=by
  obtain ⟨neg,q,h1,h2,h3⟩:=s.ok
  obtain ⟨neg',q',g1,g2,g3⟩:=t.ok
  obtain ⟨D,hD⟩:∃ D:Nat,2 ^ 149 = D:=⟨_,rfl⟩
  have hDp:0 < D:=by rw [← hD]; exact two_pow_pos 149
  have e1:=h2 D hD
  have e2:=g2 D hD
  have a1:sg neg q * (16:Nat) = n * (D:Nat):=by rw [← sg_mul,e1,sg_mul,h3]
  have a2:sg neg' q' * (16:Nat) = m * (D:Nat):=by rw [← sg_mul,e2,sg_mul,g3]
  rw [h1.order g1]
  generalize sg neg q = x at *
  generalize sg neg' q' = y at *
  have hDi:(0:Int) < (D:Int):=by omega
  have hlt:x < y ↔ n < m:=by
    constructor
    · intro hq
      have:n * (D:Int) < m * (D:Int):=by rw [← a1,← a2]; omega
      exact Int.lt_of_mul_lt_mul_right this (by omega)
    · intro hq
      have:n * (D:Int) < m * (D:Int):=Int.mul_lt_mul_of_pos_right hq hDi
      rw [← a1,← a2] at this
      omega
  have heq:x = y ↔ n = m:=by
    constructor
    · intro hq
      rw [hq,a2] at a1
      exact (Int.eq_of_mul_eq_mul_right (by omega) a1).symm
    · intro hq
      rw [hq,← a2] at a1
      omega
  congr 1
  show compareOfLessAndEq _ _ = compareOfLessAndEq _ _
  unfold compareOfLessAndEq
  simp only [hlt,heq]
theorem cmp_lt {n m:Int}:(some (compare n m) == some Ordering.lt) = decide (n < m):=by
  show (some (compareOfLessAndEq n m) == some Ordering.lt) = _
  unfold compareOfLessAndEq
  by_cases h:n < m
  · simp [h]
  · by_cases h2:n = m
    · simp [h2]
    · simp [h,h2]
theorem cmp_gt {n m:Int}:(some (compare n m) == some Ordering.gt) = decide (m < n):=by
  show (some (compareOfLessAndEq n m) == some Ordering.gt) = _
  unfold compareOfLessAndEq
  by_cases h:n < m
  · simp [h]; omega
  · by_cases h2:n = m
    · simp [h2]
    · have:m < n:=by omega
      simp [h,h2,this]
section
variable {P:Program} {h:TH} {K:Regs → TH → Prop} {rest:List TOper} {d:Option Tmp} {ty:TypeId} {i:Nat} {x y:Operand} {t u:TypeId} {L:Rg}
theorem WOL.flt {b c:Nat} {m n:Int} (s:Samp b m) (s':Samp c n) (hx:getL L x = some (.float .f32 b)) (hy:getL L y = some (.float .f32 c)) (w:∀ a,Kn (putL L d (.bool (decide (m < n)))) a → WO P tp rest a h K):∀ a,Kn L a → WO P tp (⟨d,.binOp .lss t x y u,ty,none,[],i⟩ :: rest) a h K:=fun a k => WO.fcmp (k.o hx) (k.o hy) s.nan s'.nan (by show some (Ieee.single.order b c == some .lt) = some (decide (m < n)); rw [s.order s',cmp_lt]) (w _ (k.put d _))
theorem WOL.fgt {b c:Nat} {m n:Int} (s:Samp b m) (s':Samp c n) (hx:getL L x = some (.float .f32 b)) (hy:getL L y = some (.float .f32 c)) (w:∀ a,Kn (putL L d (.bool (decide (n < m)))) a → WO P tp rest a h K):∀ a,Kn L a → WO P tp (⟨d,.binOp .gtr t x y u,ty,none,[],i⟩ :: rest) a h K:=fun a k => WO.fcmp (k.o hx) (k.o hy) s.nan s'.nan (by show some (Ieee.single.order b c == some .gt) = some (decide (n < m)); rw [s.order s',cmp_gt]) (w _ (k.put d _))
theorem WOL.fmin {b c:Nat} {m n:Int} (s:Samp b m) (s':Samp c n) (hx:getL L x = some (.float .f32 b)) (hy:getL L y = some (.float .f32 c)) (w:∀ r,Samp r (min m n) → ∀ a,Kn (putL L d (.float .f32 r)) a → WO P tp rest a h K):∀ a,Kn L a → WO P tp (⟨d,.call ⟨.builtin .min,#[x,y],#[t,u]⟩,ty,none,[],i⟩ :: rest) a h K:=by
  intro a k
  have ex:=getO_eval (k.o hx)
  have ey:=getO_eval (k.o hy)
  obtain ⟨r,hr,q⟩:∃ r,Samp r (min m n) ∧ pv P (Builtin.min_ #[t,u] ty #[.float .f32 b,.float .f32 c]) = some (.float .f32 r):=by
    have ho:FloatKind.f32.format.order b c = some (compare m n):=s.order s'
    cases hc:compare m n with
    | lt =>
      have hl:m < n:=by
        have:=cmp_lt (n:=m) (m:=n); rw [hc] at this; simpa using this.symm
      refine ⟨b,by rw [Int.min_eq_left (by omega)]; exact s,?_⟩
      simp [Builtin.min_,Builtin.min2,ho,hc,pv_pure]
    | gt =>
      have hl:n < m:=by
        have:=cmp_gt (n:=m) (m:=n); rw [hc] at this; simpa using this.symm
      refine ⟨c,by rw [Int.min_eq_right (by omega)]; exact s',?_⟩
      simp [Builtin.min_,Builtin.min2,ho,hc,pv_pure]
    | eq =>
      have hl:m = n:=(cmp_iff m n).1 hc
      subst hl
      refine ⟨if (FloatKind.f32.decode b).neg then b else c,by rw [Int.min_self]; split; exact s; exact s',?_⟩
      simp [Builtin.min_,Builtin.min2,ho,hc,pv_pure]
  refine WO.plainly rfl rfl rfl rfl rfl (plainOp_of rfl (fun p hp => ?_) ?_ (plain_float hr.nan)) (w r hr _ (k.put d _))
  · simp only [Op.operands,Call.operands] at hp
    simp at hp
    rcases hp with rfl | rfl
    · rw [ex]; exact plain_float s.nan
    · rw [ey]; exact plain_float s'.nan
  · simp [toOper,execOp,resolve,invoke,builtin,pv_map,ex,ey,q]
theorem WOL.fmax {b c:Nat} {m n:Int} (s:Samp b m) (s':Samp c n) (hx:getL L x = some (.float .f32 b)) (hy:getL L y = some (.float .f32 c)) (w:∀ r,Samp r (max m n) → ∀ a,Kn (putL L d (.float .f32 r)) a → WO P tp rest a h K):∀ a,Kn L a → WO P tp (⟨d,.call ⟨.builtin .max,#[x,y],#[t,u]⟩,ty,none,[],i⟩ :: rest) a h K:=by
  intro a k
  have ex:=getO_eval (k.o hx)
  have ey:=getO_eval (k.o hy)
  obtain ⟨r,hr,q⟩:∃ r,Samp r (max m n) ∧ pv P (Builtin.max_ #[t,u] ty #[.float .f32 b,.float .f32 c]) = some (.float .f32 r):=by
    have ho:FloatKind.f32.format.order b c = some (compare m n):=s.order s'
    cases hc:compare m n with
    | lt =>
      have hl:m < n:=by
        have:=cmp_lt (n:=m) (m:=n); rw [hc] at this; simpa using this.symm
      refine ⟨c,by rw [Int.max_eq_right (by omega)]; exact s',?_⟩
      simp [Builtin.max_,Builtin.max2,ho,hc,pv_pure]
    | gt =>
      have hl:n < m:=by
        have:=cmp_gt (n:=m) (m:=n); rw [hc] at this; simpa using this.symm
      refine ⟨b,by rw [Int.max_eq_left (by omega)]; exact s,?_⟩
      simp [Builtin.max_,Builtin.max2,ho,hc,pv_pure]
    | eq =>
      have hl:m = n:=(cmp_iff m n).1 hc
      subst hl
      refine ⟨if (FloatKind.f32.decode b).neg then c else b,by rw [Int.max_self]; split; exact s'; exact s,?_⟩
      simp [Builtin.max_,Builtin.max2,ho,hc,pv_pure]
  refine WO.plainly rfl rfl rfl rfl rfl (plainOp_of rfl (fun p hp => ?_) ?_ (plain_float hr.nan)) (w r hr _ (k.put d _))
  · simp only [Op.operands,Call.operands] at hp
    simp at hp
    rcases hp with rfl | rfl
    · rw [ex]; exact plain_float s.nan
    · rw [ey]; exact plain_float s'.nan
  · simp [toOper,execOp,resolve,invoke,builtin,pv_map,ex,ey,q]
end
theorem fillG_btw {a b:Int} {w i:Nat} (hi:i < w):min a b ≤ fillG a b w i ∧ fillG a b w i ≤ max a b:=by
  have e:a * ((w:Int) + 1) + (b - a) * ((i:Int) + 1) = a * ((w - i:Nat):Int) + b * ((i + 1:Nat):Int):=by
    obtain ⟨c,rfl⟩:∃ c,w = i + c:=⟨w - i,by omega⟩
    rw [show i + c - i = c by omega,Int.sub_mul,Int.natCast_add,Int.natCast_add,Int.mul_add,Int.mul_add,Int.mul_add,Int.mul_add,Int.mul_add]
    omega
  have m1:min a b ≤ a:=Int.min_le_left a b
  have m2:min a b ≤ b:=Int.min_le_right a b
  have m3:a ≤ max a b:=Int.le_max_left a b
  have m4:b ≤ max a b:=Int.le_max_right a b
  generalize min a b = lo at *
  generalize max a b = hh at *
  have l1:lo * ((w - i:Nat):Int) ≤ a * ((w - i:Nat):Int):=Int.mul_le_mul_of_nonneg_right m1 (by omega)
  have l2:lo * ((i + 1:Nat):Int) ≤ b * ((i + 1:Nat):Int):=Int.mul_le_mul_of_nonneg_right m2 (by omega)
  have g1:a * ((w - i:Nat):Int) ≤ hh * ((w - i:Nat):Int):=Int.mul_le_mul_of_nonneg_right m3 (by omega)
  have g2:b * ((i + 1:Nat):Int) ≤ hh * ((i + 1:Nat):Int):=Int.mul_le_mul_of_nonneg_right m4 (by omega)
  have hs:∀ z:Int,z * ((w - i:Nat):Int) + z * ((i + 1:Nat):Int) = z * ((w:Int) + 1):=fun z => by
    rw [← Int.mul_add]; congr 1; omega
  have s1:=hs lo
  have s2:=hs hh
  have t1:lo * (2 * ((w:Int) + 1)) = 2 * (lo * ((w:Int) + 1)):=by rw [Int.mul_left_comm]
  have t2:(hh + 1) * (2 * ((w:Int) + 1)) = 2 * (hh * ((w:Int) + 1)) + 2 * ((w:Int) + 1):=by rw [Int.add_mul,Int.mul_left_comm]; omega
  unfold fillG rnd
  rw [e]
  generalize a * ((w - i:Nat):Int) = u at *
  generalize b * ((i + 1:Nat):Int) = v at *
  generalize lo * ((w - i:Nat):Int) = u1 at *
  generalize lo * ((i + 1:Nat):Int) = v1 at *
  generalize hh * ((w - i:Nat):Int) = u2 at *
  generalize hh * ((i + 1:Nat):Int) = v2 at *
  constructor
  · refine Int.le_ediv_of_mul_le (by omega) ?_
    omega
  · have:(2 * (u + v) + ((w:Int) + 1)) / (2 * ((w:Int) + 1)) < hh + 1:=Int.ediv_lt_of_lt_mul (by omega) (by omega)
    omega
end Go.Tidy
namespace Go.Tidy
open Go Go.Proofs Tab
variable {tp:TProg}
section
variable {s:ByteArray} {n:Int} {g:TH} {v1 v2:Value} {C:List (Int × Bool)} {c2 c3:Nat}
theorem holesC_ok:holeE C.length (-1) (holesOf (C.map fun c => c.2)) = 0:=by
  have:=holes_ok (C.map fun c => c.2)
  rwa [List.length_map] at this
theorem holesC_in {p:Int × Int} (hp:p ∈ holesOf (C.map fun c => c.2)):0 ≤ p.1 ∧ p.1 < p.2 ∧ p.2 ≤ C.length:=by
  have go:∀ {S:List (Int × Int)} {prev:Int},holeE C.length prev S = 0 → p ∈ S → 0 ≤ p.1 ∧ p.1 < p.2 ∧ p.2 ≤ C.length:=by
    intro S
    induction S with
    | nil => intro _ _ h; cases h
    | cons q S ih =>
      intro prev h hp
      obtain ⟨b,_,t⟩:=holeE_tail h
      rcases List.mem_cons.1 hp with rfl | hp
      · exact badS_no.1 b
      · exact ih t hp
  exact go holesC_ok hp
theorem getDC {i:Nat} {c:Int × Bool} (h:C[i]? = some c):(C.map fun c => c.1).getD i 0 = c.1:=by
  rw [List.getD_eq_getElem?_getD,List.getElem?_map,h]; rfl
theorem filC_hole {t:Int} {lo hi x:Nat} (hp:((lo:Int),(hi:Int)) ∈ holesOf (C.map fun c => c.2)) (h1:lo ≤ x) (h2:x < hi) :
    knownC (filC t C) x = fillOn t C.length ((lo:Int),(hi:Int)) ∧ (knownC (filC t C) x = true → 0 < lo ∧ hi < C.length ∧ ∃ (y:Int) (a b:Int × Bool),(filC t C)[x]? = some (y,true) ∧ C[lo - 1]? = some a ∧ C[hi]? = some b ∧ min a.1 b.1 ≤ y ∧ y ≤ max a.1 b.1):=by
  have hin:=holesC_in hp
  simp only at hin
  have hx:x < C.length:=by omega
  have hc:C[x]? = some C[x]:=List.getElem?_eq_getElem hx
  have hd:C[x].2 = false:=by
    rw [← knownC_get hc]
    exact known_no.2 ⟨_,hp,by simpa using h1,by simpa using h2⟩
  have e:=fills_in (z:=t) (g:=fillC (C.map fun c => c.1)) (D:=C) (i:=x) (p:=((lo:Int),(hi:Int))) (by simpa using h1) (by simpa using h2) rfl holesC_ok hp
  have e:(filC t C)[x]? = cond (fillOn t C.length ((lo:Int),(hi:Int))) (some (fillC (C.map fun c => c.1) ((lo:Int),(hi:Int)) (x - lo))) C[x]?:=e
  cases ho:fillOn t C.length ((lo:Int),(hi:Int)) with
  | false =>
    rw [ho,hc] at e
    have e:(filC t C)[x]? = some C[x]:=e
    rw [knownC_get e,hd]
    exact ⟨rfl,fun h => by cases h⟩
  | true =>
    rw [ho] at e
    have e:(filC t C)[x]? = some (fillC (C.map fun c => c.1) ((lo:Int),(hi:Int)) (x - lo)):=e
    rw [knownC_get e]
    refine ⟨rfl,fun _ => ?_⟩
    unfold fillOn at ho
    simp only [Bool.and_eq_true,decide_eq_true_eq] at ho
    obtain ⟨⟨_,ho1⟩,ho2⟩:=ho
    have l0:0 < lo:=by omega
    have l1:hi < C.length:=by omega
    have ha:C[lo - 1]? = some C[lo - 1]:=List.getElem?_eq_getElem (by omega)
    have hb:C[hi]? = some C[hi]:=List.getElem?_eq_getElem l1
    refine ⟨l0,l1,_,_,_,e,ha,hb,?_⟩
    show min C[lo - 1].1 C[hi].1 ≤ fillG ((C.map fun c => c.1).getD ((lo:Int) - 1).toNat 0) ((C.map fun c => c.1).getD ((hi:Int)).toNat 0) ((hi:Int) - lo).toNat (x - lo) ∧ fillG ((C.map fun c => c.1).getD ((lo:Int) - 1).toNat 0) ((C.map fun c => c.1).getD ((hi:Int)).toNat 0) ((hi:Int) - lo).toNat (x - lo) ≤ max C[lo - 1].1 C[hi].1
    rw [show ((lo:Int) - 1).toNat = lo - 1 by omega,show ((hi:Int)).toNat = hi by omega,getDC ha,getDC hb]
    exact fillG_btw (by omega)
set_option maxHeartbeats 4000000 in
set_option maxRecDepth 100000 in
theorem k9p (H:Has tp) {t:Int} {lo hi x c25' c28:Nat} {w1 w2:Value} {u1 u2 u3:Value} {e:Bool} {Q:Exit → Regs → TH → Prop} (A2:At g c2 (.cells (runV s n v1 v2).cells.toList true true 46)) (r:RunC s n g v1 v2 C) (B25:At g c25' (.cells (runV s n w1 w2).cells.toList true true 52)) (R25:RunC s n g w1 w2 (filC t C)) (A28:At g c28 (.cells [zi (lo:Nat),zi (hi:Nat)] true true 48))
    (hp:((lo:Int),(hi:Int)) ∈ holesOf (C.map fun c => c.2)) (h1:lo ≤ x) (h2:x < hi) (he:e = (decide (lo = 0) || decide (hi = C.length)))
    (K:∀ h,HX g h → ∀ a,Kn [(2,ptr c2),(24,zi t),(25,ptr c25'),(28,ptr c28),(29,.bool e),(30,zi (x:Nat)),(268,u1),(269,u2),(270,u3)] a → Q .normal a h) :
    ∀ a,Kn [(2,ptr c2),(24,zi t),(25,ptr c25'),(28,ptr c28),(29,.bool e),(30,zi (x:Nat)),(268,u1),(269,u2),(270,u3)] a → W Tryz.prog tp false (.block 5 (.seq (.reg r9_37) (.seq (.seq (.reg r9_38) (.cond (.tmp 308) (.seq (.reg r9_39) .ret) .skip)) (.seq (.reg r9_40) (.cond (.tmp 353) (.seq (.reg r9_41) .ret) .skip))))) a g Q:=by
  obtain ⟨F,hF,sF,sp⟩:=r.samp
  obtain ⟨G,hG,sG,sq⟩:=R25.samp
  obtain ⟨m,n0,n1,dk,lim⟩:=r.small
  rw [filC_len] at hG
  have hin:=holesC_in hp
  simp only at hin
  obtain ⟨q1,q2⟩:=filC_hole (t:=t) hp h1 h2
  have fo:fillOn t C.length ((lo:Int),(hi:Int)) = (!e && decide ((hi:Int) - lo ≤ t)):=by
    rw [he]
    unfold fillOn
    cases h3:decide (lo = 0) with
    | true => rw [decide_eq_true_eq] at h3; subst h3; simp
    | false =>
      rw [decide_eq_false_iff_not] at h3
      cases h4:decide (hi = C.length) with
      | true => rw [decide_eq_true_eq] at h4; rw [h4]; simp
      | false =>
        rw [decide_eq_false_iff_not] at h4
        rw [show decide (((lo:Int),(hi:Int)).1 > 0) = true by simpa using (by omega:0 < lo),show decide (((lo:Int),(hi:Int)).2 < (C.length:Int)) = true by simpa using (by omega:hi < C.length)]
        simp
  rw [fo] at q1
  refine WL.block ?_
  refine WL.sr ?_
  refine WOL.ld rfl (load_row tp52 B25 rfl (Nat.le_of_ble_eq_true rfl)) ?_
  refine WOL.mv rfl ?_
  refine WOL.cl2 rfl rfl rfl ((c39 H (x:Int) R25).mono ?_)
  rintro v h3 ⟨rfl,X3⟩
  refine WOL.as rfl <| WOL.nil <| keep [(2,_),(24,_),(25,_),(28,_),(29,_),(30,_),(268,_),(269,_),(270,_),(31,_)] ⟨rfl,rfl,rfl,rfl,rfl,rfl,rfl,rfl,rfl,rfl,trivial⟩ ?_
  rw [q1] at q2 ⊢
  have A28':=A28.hx X3
  refine WL.seq ?_
  have go:∀ a,Kn [(2,ptr c2),(24,zi t),(25,ptr c25'),(28,ptr c28),(29,.bool e),(30,zi (x:Nat)),(268,u1),(269,u2),(270,u3),(31,.bool (!e && decide ((hi:Int) - lo ≤ t)))] a → W Tryz.prog tp false (.seq (.reg r9_40) (.cond (.tmp 353) (.seq (.reg r9_41) .ret) .skip)) a h3 (leaves 5 Q):=by
    refine WL.sr <| WOL.mv rfl <| WOL.mv rfl ?_
    cases hk:(!e && decide ((hi:Int) - lo ≤ t)) with
    | false =>
      refine WOL.skp (b:=false) rfl rfl <| WOL.skp (b:=false) rfl rfl <| WOL.skp (b:=false) rfl rfl <| WOL.skp (b:=false) rfl rfl <| WOL.skp (b:=false) rfl rfl <| WOL.skp (b:=false) rfl rfl <| WOL.skp (b:=false) rfl rfl <| WOL.skp (b:=false) rfl rfl <| WOL.skp (b:=false) rfl rfl <| WOL.skp (b:=false) rfl rfl <| WOL.skp (b:=false) rfl rfl <| WOL.skp (b:=false) rfl rfl <| WOL.skp (b:=false) rfl rfl <| WOL.skp (b:=false) rfl rfl <| WOL.skp (b:=false) rfl rfl <| WOL.skp (b:=false) rfl rfl <| WOL.skp (b:=false) rfl rfl <| WOL.skp (b:=false) rfl rfl <| WOL.skp (b:=false) rfl rfl <| WOL.skp (b:=false) rfl rfl <| WOL.skp (b:=false) rfl rfl ?_
      refine WOL.gu rfl rfl <| WOL.gu rfl rfl <| WOL.gu rfl rfl <| WOL.gu rfl rfl <| WOL.gu rfl rfl <| WOL.gu rfl rfl <| WOL.gu rfl rfl <| WOL.gu rfl rfl <| WOL.gu rfl rfl <| WOL.gu rfl rfl <| WOL.gu rfl rfl <| WOL.gu rfl rfl <| WOL.gu rfl rfl <| WOL.gu rfl rfl <| WOL.gu rfl rfl <| WOL.gu rfl rfl <| WOL.gu rfl rfl <| WOL.gu rfl rfl <| WOL.gu rfl rfl <| WOL.gu rfl rfl ?_
      refine WOL.skp (b:=false) rfl rfl <| WOL.pkf rfl rfl <| WOL.nil <| keep [(2,_),(24,_),(25,_),(28,_),(29,_),(30,_),(268,_),(269,_),(270,_),(353,_)] ⟨rfl,rfl,rfl,rfl,rfl,rfl,rfl,rfl,rfl,rfl,trivial⟩ ?_
      refine WL.no rfl <| WL.skip ?_
      exact fun a q => K h3 X3 a (q.sub ⟨rfl,rfl,rfl,rfl,rfl,rfl,rfl,rfl,rfl,trivial⟩)
    | true =>
      obtain ⟨l0,l1,y,a',b',e1,e2,e3,e4,e5⟩:=q2 hk
      have hy:G[x]? = some G[x]:=List.getElem?_eq_getElem (by omega)
      have hl:F[lo - 1]? = some F[lo - 1]:=List.getElem?_eq_getElem (by omega)
      have hh:F[hi]? = some F[hi]:=List.getElem?_eq_getElem (by omega)
      have s1:=sq x _ _ hy e1
      have s2:=sp (lo - 1) _ _ hl e2
      have s3:=sp hi _ _ hh e3
      generalize G[x] = gy at *
      generalize F[lo - 1] = fl at *
      generalize F[hi] = fh at *
      obtain ⟨b1,o1,cc1,fix1,wr1,el1,i1,i2,i3,i4,i5⟩:=(sG.hx X3).at eF u43 tp25 hy .i64
      obtain ⟨b2,o2,cc2,fix2,wr2,el2,j1,j2,j3,j4,j5⟩:=(sF.hx X3).at eF u43 tp25 hl .i64
      obtain ⟨b3,o3,cc3,fix3,wr3,el3,k1,k2,k3,k4,k5⟩:=(sF.hx X3).at eF u43 tp25 hh .i64
      have sj:fastBin .sub (zi (lo:Nat)) (zi 1) = some (zi ((lo - 1:Nat):Int)):=by show some (Value.int .i64 (fwrap .i64 ((lo:Int) - 1))) = _; rw [fwrap_i64 (by omega) (by omega)]; congr 2; omega
      refine WOL.now (b:=true) rfl rfl <| WOL.fa rfl (fa_of fo52_2) <| WOL.now (b:=true) rfl rfl ?_
      refine WOL.ld rfl (load_one tp43 (B25.hx X3) rfl) <| WOL.now (b:=true) rfl rfl ?_
      refine WOL.mv rfl <| WOL.now (b:=true) rfl rfl <| WOL.ix rfl rfl i1 <| WOL.now (b:=true) rfl rfl ?_
      refine WOL.ld rfl (load_one tp25 i2 (i5 0 (by decide))) <| WOL.now (b:=true) rfl rfl ?_
      refine WOL.fa rfl (fa_of fo46_2) <| WOL.now (b:=true) rfl rfl ?_
      refine WOL.ld rfl (load_one tp43 (A2.hx X3) rfl) <| WOL.now (b:=true) rfl rfl ?_
      refine WOL.fa rfl (fa_of fo48_0) <| WOL.now (b:=true) rfl rfl ?_
      refine WOL.ld rfl (load_one tp3 A28' rfl) <| WOL.now (b:=true) rfl rfl ?_
      refine WOL.bi rfl rfl sj <| WOL.now (b:=true) rfl rfl <| WOL.ix rfl rfl j1 <| WOL.now (b:=true) rfl rfl ?_
      refine WOL.ld rfl (load_one tp25 j2 (j5 0 (by decide))) <| WOL.now (b:=true) rfl rfl ?_
      refine WOL.fa rfl (fa_of fo46_2) <| WOL.now (b:=true) rfl rfl ?_
      refine WOL.ld rfl (load_one tp43 (A2.hx X3) rfl) <| WOL.now (b:=true) rfl rfl ?_
      refine WOL.fa rfl (fa_of fo48_1) <| WOL.now (b:=true) rfl rfl ?_
      refine WOL.ld rfl (load_one tp3 A28' rfl) <| WOL.now (b:=true) rfl rfl ?_
      refine WOL.ix rfl rfl k1 <| WOL.now (b:=true) rfl rfl ?_
      refine WOL.ld rfl (load_one tp25 k2 (k5 0 (by decide))) <| WOL.now (b:=true) rfl rfl ?_
      refine WOL.fmin s2 s3 rfl rfl fun r1 R1 => WOL.now (b:=true) rfl rfl ?_
      refine WOL.flt s1 R1 rfl rfl <| WOL.now (b:=true) rfl rfl ?_
      rw [show decide (y < min a'.1 b'.1) = false by simpa using e4]
      refine WOL.mv rfl ?_
      refine WOL.now (b:=false) rfl rfl <| WOL.fa rfl (fa_of fo52_2) <| WOL.now (b:=false) rfl rfl ?_
      refine WOL.ld rfl (load_one tp43 (B25.hx X3) rfl) <| WOL.now (b:=false) rfl rfl ?_
      refine WOL.mv rfl <| WOL.now (b:=false) rfl rfl <| WOL.ix rfl rfl i1 <| WOL.now (b:=false) rfl rfl ?_
      refine WOL.ld rfl (load_one tp25 i2 (i5 0 (by decide))) <| WOL.now (b:=false) rfl rfl ?_
      refine WOL.fa rfl (fa_of fo46_2) <| WOL.now (b:=false) rfl rfl ?_
      refine WOL.ld rfl (load_one tp43 (A2.hx X3) rfl) <| WOL.now (b:=false) rfl rfl ?_
      refine WOL.fa rfl (fa_of fo48_0) <| WOL.now (b:=false) rfl rfl ?_
      refine WOL.ld rfl (load_one tp3 A28' rfl) <| WOL.now (b:=false) rfl rfl ?_
      refine WOL.bi rfl rfl sj <| WOL.now (b:=false) rfl rfl <| WOL.ix rfl rfl j1 <| WOL.now (b:=false) rfl rfl ?_
      refine WOL.ld rfl (load_one tp25 j2 (j5 0 (by decide))) <| WOL.now (b:=false) rfl rfl ?_
      refine WOL.fa rfl (fa_of fo46_2) <| WOL.now (b:=false) rfl rfl ?_
      refine WOL.ld rfl (load_one tp43 (A2.hx X3) rfl) <| WOL.now (b:=false) rfl rfl ?_
      refine WOL.fa rfl (fa_of fo48_1) <| WOL.now (b:=false) rfl rfl ?_
      refine WOL.ld rfl (load_one tp3 A28' rfl) <| WOL.now (b:=false) rfl rfl ?_
      refine WOL.ix rfl rfl k1 <| WOL.now (b:=false) rfl rfl ?_
      refine WOL.ld rfl (load_one tp25 k2 (k5 0 (by decide))) <| WOL.now (b:=false) rfl rfl ?_
      refine WOL.fmax s2 s3 rfl rfl fun r2 R2 => WOL.now (b:=false) rfl rfl ?_
      refine WOL.fgt s1 R2 rfl rfl ?_
      rw [show decide (max a'.1 b'.1 < y) = false by simpa using e5]
      refine WOL.now (b:=true) rfl rfl <| WOL.pkf rfl rfl <| WOL.pkt rfl rfl <| WOL.nil <| keep [(2,_),(24,_),(25,_),(28,_),(29,_),(30,_),(268,_),(269,_),(270,_),(353,_)] ⟨rfl,rfl,rfl,rfl,rfl,rfl,rfl,rfl,rfl,rfl,trivial⟩ ?_
      refine WL.no rfl <| WL.skip ?_
      exact fun a q => K h3 X3 a (q.sub ⟨rfl,rfl,rfl,rfl,rfl,rfl,rfl,rfl,rfl,trivial⟩)
  refine WL.sr <| WOL.mv rfl <| WOL.mv rfl <| WOL.nt rfl <| WOL.mv rfl ?_
  cases e with
  | true =>
    refine WOL.skp (b:=false) rfl rfl <| WOL.skp (b:=false) rfl rfl <| WOL.skp (b:=false) rfl rfl <| WOL.skp (b:=false) rfl rfl <| WOL.skp (b:=false) rfl rfl <| WOL.skp (b:=false) rfl rfl <| WOL.skp (b:=false) rfl rfl ?_
    refine WOL.pkf rfl rfl ?_
    refine WOL.neb (b:=false) (c:=false) u4 rfl rfl <| WOL.nil <| keep [(2,_),(24,_),(25,_),(28,_),(29,_),(30,_),(268,_),(269,_),(270,_),(31,_),(308,_)] ⟨rfl,rfl,rfl,rfl,rfl,rfl,rfl,rfl,rfl,rfl,rfl,trivial⟩ ?_
    refine WL.no rfl <| WL.skip ?_
    exact kto go ⟨rfl,rfl,rfl,rfl,rfl,rfl,rfl,rfl,rfl,rfl,trivial⟩
  | false =>
    refine WOL.now (b:=true) rfl rfl <| WOL.fa rfl (fa_of fo48_1) <| WOL.now (b:=true) rfl rfl ?_
    refine WOL.ld rfl (load_one tp3 A28' rfl) <| WOL.now (b:=true) rfl rfl ?_
    refine WOL.fa rfl (fa_of fo48_0) <| WOL.now (b:=true) rfl rfl ?_
    refine WOL.ld rfl (load_one tp3 A28' rfl) <| WOL.now (b:=true) rfl rfl ?_
    refine WOL.sub rfl rfl (by omega) (by omega) <| WOL.now (b:=true) rfl rfl <| WOL.mv rfl <| WOL.now (b:=true) rfl rfl ?_
    refine WOL.bi (v:=.bool (decide ((hi:Int) - lo ≤ t))) rfl rfl rfl <| WOL.pkt rfl rfl ?_
    refine WOL.neb (b:=decide ((hi:Int) - lo ≤ t)) (c:=decide ((hi:Int) - lo ≤ t)) u4 rfl rfl <| WOL.nil <| keep [(2,_),(24,_),(25,_),(28,_),(29,_),(30,_),(268,_),(269,_),(270,_),(31,_),(308,_)] ⟨rfl,rfl,rfl,rfl,rfl,rfl,rfl,rfl,rfl,rfl,rfl,trivial⟩ ?_
    rw [show (decide ((hi:Int) - lo ≤ t) != decide ((hi:Int) - lo ≤ t)) = false by simp]
    refine WL.no rfl <| WL.skip ?_
    exact kto go ⟨rfl,rfl,rfl,rfl,rfl,rfl,rfl,rfl,rfl,rfl,trivial⟩
set_option maxHeartbeats 4000000 in
set_option maxRecDepth 100000 in
theorem k9h (H:Has tp) {t:Int} {lo hi c25' c28:Nat} {w1 w2 u1 u2 u3:Value} {e:Bool} {Q:Exit → Regs → TH → Prop} (A2:At g c2 (.cells (runV s n v1 v2).cells.toList true true 46)) (r:RunC s n g v1 v2 C) (B25:At g c25' (.cells (runV s n w1 w2).cells.toList true true 52)) (R25:RunC s n g w1 w2 (filC t C)) (A28:At g c28 (.cells [zi (lo:Nat),zi (hi:Nat)] true true 48))
    (hp:((lo:Int),(hi:Int)) ∈ holesOf (C.map fun c => c.2)) (he:e = (decide (lo = 0) || decide (hi = C.length)))
    (K:∀ h,HX g h → ∀ a,Kn [(2,ptr c2),(24,zi t),(25,ptr c25'),(268,u1),(269,u2),(270,u3)] a → Q .normal a h) :
    ∀ a,Kn [(2,ptr c2),(24,zi t),(25,ptr c25'),(28,ptr c28),(29,.bool e),(268,u1),(269,u2),(270,u3)] a → W Tryz.prog tp false (.seq (.reg r9_35) (.block 4 (.loop (.seq (.seq (.reg r9_36) (.cond (.tmp 290) .skip (.exit 4))) (.seq (.block 5 (.seq (.reg r9_37) (.seq (.seq (.reg r9_38) (.cond (.tmp 308) (.seq (.reg r9_39) .ret) .skip)) (.seq (.reg r9_40) (.cond (.tmp 353) (.seq (.reg r9_41) .ret) .skip))))) (.reg r9_42)))))) a g Q:=by
  obtain ⟨m,n0,n1,dk,lim⟩:=r.small
  have hin:=holesC_in hp
  simp only at hin
  refine WL.sr <| WOL.fa rfl (fa_of fo48_0) ?_
  refine WOL.ld rfl (load_one tp3 A28 rfl) ?_
  refine WOL.as rfl <| WOL.nil <| keep [(2,_),(24,_),(25,_),(28,_),(29,_),(30,_),(268,_),(269,_),(270,_)] ⟨rfl,rfl,rfl,rfl,rfl,rfl,rfl,rfl,rfl,trivial⟩ ?_
  refine WL.block ?_
  refine WL.loop (fun q a h5 => ∃ x:Nat,lo ≤ x ∧ x ≤ hi ∧ q = hi - x ∧ HX g h5 ∧ Kn [(2,ptr c2),(24,zi t),(25,ptr c25'),(28,ptr c28),(29,.bool e),(30,zi (x:Nat)),(268,u1),(269,u2),(270,u3)] a) (hi - lo) (fun a q => ⟨lo,by omega,by omega,rfl,HX.refl _,q.sub ⟨rfl,rfl,rfl,rfl,rfl,rfl,rfl,rfl,rfl,trivial⟩⟩) ?_
  rintro q a h5 ⟨x,hx1,hx2,rfl,X5,q⟩
  refine q.go ?_
  refine WL.seq <| WL.sr <| WOL.mv rfl <| WOL.fa rfl (fa_of fo48_1) ?_
  refine WOL.ld rfl (load_one tp3 (A28.hx X5) rfl) ?_
  refine WOL.bi (v:=.bool (decide ((x:Int) < (hi:Int)))) rfl rfl rfl ?_
  refine WOL.nil <| keep [(2,_),(24,_),(25,_),(28,_),(29,_),(30,_),(268,_),(269,_),(270,_),(290,_)] ⟨rfl,rfl,rfl,rfl,rfl,rfl,rfl,rfl,rfl,rfl,trivial⟩ ?_
  by_cases hxh:x < hi
  · rw [show decide ((x:Int) < (hi:Int)) = true by simpa using hxh]
    refine WL.yes rfl <| WL.skip ?_
    refine WL.seq ?_
    refine kto (k9p H (x:=x) (u1:=u1) (u2:=u2) (u3:=u3) (A2.hx X5) (r.hx X5) (B25.hx X5) (R25.hx X5) (A28.hx X5) hp hx1 hxh he fun h6 X6 => ?_) ⟨rfl,rfl,rfl,rfl,rfl,rfl,rfl,rfl,rfl,trivial⟩
    refine WL.reg ?_
    refine WOL.mv rfl <| WOL.add rfl rfl (by omega) (by omega) <| WOL.as rfl <| WOL.nil ?_
    exact fun a q => ⟨hi - (x + 1),by omega,x + 1,by omega,by omega,rfl,X5.trans X6,q.sub ⟨rfl,rfl,rfl,rfl,rfl,rfl,rfl,rfl,rfl,trivial⟩⟩
  · rw [show decide ((x:Int) < (hi:Int)) = false by simpa using hxh]
    refine WL.no rfl <| WL.exit ?_
    exact fun a q => K h5 X5 a (q.sub ⟨rfl,rfl,rfl,rfl,rfl,rfl,trivial⟩)
set_option maxHeartbeats 4000000 in
set_option maxRecDepth 100000 in
theorem k9f (H:Has tp) {t:Int} {c25':Nat} {w1 w2:Value} {rest:TCode} {Q:Exit → Regs → TH → Prop} (f:Free0 g.next g) (A2:At g c2 (.cells (runV s n v1 v2).cells.toList true true 46)) (r:RunC s n g v1 v2 C) (B25:At g c25' (.cells (runV s n w1 w2).cells.toList true true 52)) (R25:RunC s n g w1 w2 (filC t C))
    (K:∀ h,HX g h → ∀ a,Kn [(2,ptr c2),(25,ptr c25')] a → W Tryz.prog tp false rest a h Q) :
    ∀ a,Kn [(2,ptr c2),(24,zi t),(25,ptr c25')] a → W Tryz.prog tp false (.seq (.seq (.reg r9_31) (.block 2 (.loop (.seq (.reg r9_32) (.seq (.cond (.tmp 271) .skip (.exit 2)) (.seq (.block 3 (.seq (.reg r9_33) (.seq (.reg r9_34) (.seq (.reg r9_35) (.block 4 (.loop (.seq (.seq (.reg r9_36) (.cond (.tmp 290) .skip (.exit 4))) (.seq (.block 5 (.seq (.reg r9_37) (.seq (.seq (.reg r9_38) (.cond (.tmp 308) (.seq (.reg r9_39) .ret) .skip)) (.seq (.reg r9_40) (.cond (.tmp 353) (.seq (.reg r9_41) .ret) .skip))))) (.reg r9_42))))))))) (.reg r9_43))))))) rest) a g Q:=by
  obtain ⟨m,n0,n1,dk,lim⟩:=r.small
  obtain ⟨F,hF,sF,_⟩:=r.samp
  have sS:SlL encS 2 g v2 (holesOf (C.map fun c => c.2)):=by obtain ⟨_,_,q,_⟩:=r; exact q.s
  have hS:=holesN_len (C.map fun c => c.2) (C.map fun c => c.2).length
  have hS:(holesOf (C.map fun c => c.2)).length ≤ C.length:=by rw [List.length_map] at hS; unfold holesOf; rw [List.length_map]; exact hS
  have hall:∀ p,p ∈ holesOf (C.map fun c => c.2) → p ∈ holesOf (C.map fun c => c.2):=fun p h => h
  generalize hSS:holesOf (C.map fun c => c.2) = S at sS hS
  refine WL.seq ?_
  refine WL.sr <| WOL.fa rfl (fa_of fo46_3) ?_
  refine WOL.ld rfl (load_one tp44 A2 rfl) ?_
  refine WOL.len rfl sS u44 ?_
  refine WOL.mv rfl <| WOL.nil <| keep [(2,_),(24,_),(25,_),(268,_),(269,_),(270,_)] ⟨rfl,rfl,rfl,rfl,rfl,rfl,trivial⟩ ?_
  refine WL.block ?_
  refine WL.loop (fun q a h2 => ∃ j:Nat,j ≤ S.length ∧ q = S.length - j ∧ HX g h2 ∧ Kn [(2,ptr c2),(24,zi t),(25,ptr c25'),(268,v2),(269,zi S.length),(270,zi (j:Nat))] a) S.length (fun a q => ⟨0,by omega,by omega,HX.refl _,q.sub ⟨rfl,rfl,rfl,rfl,rfl,rfl,trivial⟩⟩) ?_
  rintro q a h2 ⟨j,hj,rfl,X2,q⟩
  refine q.go ?_
  refine WL.sr ?_
  refine WOL.bi (v:=.bool (decide ((j:Int) < S.length))) rfl rfl rfl ?_
  refine WOL.nil <| keep [(2,_),(24,_),(25,_),(268,_),(269,_),(270,_),(271,_)] ⟨rfl,rfl,rfl,rfl,rfl,rfl,rfl,trivial⟩ ?_
  refine WL.seq ?_
  by_cases hlt:j < S.length
  · rw [show decide ((j:Int) < (S.length:Int)) = true by simpa using hlt]
    refine WL.yes rfl <| WL.skip ?_
    have hp:S[j]? = some S[j]:=List.getElem?_eq_getElem hlt
    have hm:S[j] ∈ holesOf (C.map fun c => c.2):=by rw [hSS]; exact List.getElem_mem hlt
    have hin:=holesC_in hm
    obtain ⟨lo,hlo⟩:=Int.eq_ofNat_of_zero_le hin.1
    obtain ⟨hi,hhi⟩:=Int.eq_ofNat_of_zero_le (show 0 ≤ S[j].2 by omega)
    have hpe:S[j] = ((lo:Int),(hi:Int)):=Prod.ext hlo hhi
    rw [hpe] at hp hm hin
    clear hlo hhi hpe
    simp only at hin
    obtain ⟨b,o,cc,fix,wr,el,e1,e2,e3,e4,e5⟩:=(sS.hx X2).at eS u44 tp48 hp .i64
    refine WL.seq ?_
    refine WL.block ?_
    refine WL.sr <| WOL.ix rfl rfl e1 ?_
    refine WOL.ld rfl (load_row tp48 e2 e4 e3) ?_
    refine WOL.al tp48 fun h3 N3 => ?_
    have Y3:=X2.trans N3.hx
    refine WOL.sto rfl rfl tp48 N3.at_ rfl rfl (Nat.le_of_ble_eq_true rfl) rfl (f.hx Y3) X2.next fun h4 P4 => ?_
    have A28:At h4 h2.next (.cells [zi (lo:Nat),zi (hi:Nat)] true true 48):=P4.at_
    have Y4:HX g h4:=P4.hx _ Y3 X2.next
    generalize h2.next = c28 at *
    refine WOL.nil <| keep [(2,_),(24,_),(25,_),(28,_),(268,_),(269,_),(270,_)] ⟨rfl,rfl,rfl,rfl,rfl,rfl,rfl,trivial⟩ ?_
    refine WL.sr <| WOL.fa rfl (fa_of fo48_0) ?_
    refine WOL.ld rfl (load_one tp3 A28 rfl) ?_
    refine WOL.bi (v:=.bool (decide ((lo:Int) = 0))) rfl rfl rfl <| WOL.mv rfl ?_
    have fin2:∀ e:Bool,e = (decide (lo = 0) || decide (hi = C.length)) → ∀ {Q:Exit → Regs → TH → Prop} (K2:∀ h,HX g h → ∀ a,Kn [(2,ptr c2),(24,zi t),(25,ptr c25'),(268,v2),(269,zi S.length),(270,zi (j:Nat))] a → Q .normal a h),∀ a,Kn [(2,ptr c2),(24,zi t),(25,ptr c25'),(28,ptr c28),(29,.bool e),(268,v2),(269,zi S.length),(270,zi (j:Nat))] a → W Tryz.prog tp false (.seq (.reg r9_35) (.block 4 (.loop (.seq (.seq (.reg r9_36) (.cond (.tmp 290) .skip (.exit 4))) (.seq (.block 5 (.seq (.reg r9_37) (.seq (.seq (.reg r9_38) (.cond (.tmp 308) (.seq (.reg r9_39) .ret) .skip)) (.seq (.reg r9_40) (.cond (.tmp 353) (.seq (.reg r9_41) .ret) .skip))))) (.reg r9_42)))))) a h4 Q:=fun e he Q K2 =>
      k9h H (A2.hx Y4) (r.hx Y4) (B25.hx Y4) (R25.hx Y4) A28 hm he fun h5 X5 => K2 h5 (Y4.trans X5)
    have fin3:∀ {Q:Exit → Regs → TH → Prop} h5,HX g h5 → ∀ a,Kn [(2,ptr c2),(24,zi t),(25,ptr c25'),(268,v2),(269,zi S.length),(270,zi (j:Nat))] a → W Tryz.prog tp false (.reg r9_43) a h5 (andThen (fun a h => ∃ q',q' < S.length - j ∧ ∃ j:Nat,j ≤ S.length ∧ q' = S.length - j ∧ HX g h ∧ Kn [(2,ptr c2),(24,zi t),(25,ptr c25'),(268,v2),(269,zi S.length),(270,zi (j:Nat))] a) Q):=by
      intro Q h5 Y5
      refine WL.reg ?_
      refine WOL.bi (v:=zi ((j + 1:Nat):Int)) rfl rfl (by show some (Value.int .i64 (fwrap .i64 ((j:Int) + 1))) = _; rw [fwrap_i64 (by omega) (by omega)]; rfl) ?_
      refine WOL.mv rfl <| WOL.nil ?_
      exact fun a q => ⟨S.length - (j + 1),by omega,j + 1,by omega,rfl,Y5,q.sub ⟨rfl,rfl,rfl,rfl,rfl,rfl,trivial⟩⟩
    by_cases hz:lo = 0
    · rw [show decide ((lo:Int) = 0) = true from decide_eq_true (by omega)]
      refine WOL.skp (b:=true) rfl rfl <| WOL.skp (b:=true) rfl rfl <| WOL.skp (b:=true) rfl rfl <| WOL.skp (b:=true) rfl rfl <| WOL.skp (b:=true) rfl rfl <| WOL.skp (b:=true) rfl rfl ?_
      refine WOL.pkt rfl rfl <| WOL.as rfl <| WOL.nil <| keep [(2,_),(24,_),(25,_),(28,_),(29,_),(268,_),(269,_),(270,_)] ⟨rfl,rfl,rfl,rfl,rfl,rfl,rfl,rfl,trivial⟩ ?_
      exact kto (fin2 true (by rw [decide_eq_true hz]; rfl) fun h5 Y5 => fin3 h5 Y5) ⟨rfl,rfl,rfl,rfl,rfl,rfl,rfl,rfl,trivial⟩
    · rw [show decide ((lo:Int) = 0) = false from decide_eq_false (by omega)]
      refine WOL.now (b:=false) rfl rfl <| WOL.fa rfl (fa_of fo48_1) <| WOL.now (b:=false) rfl rfl ?_
      refine WOL.ld rfl (load_one tp3 A28 rfl) <| WOL.now (b:=false) rfl rfl ?_
      refine WOL.fa rfl (fa_of fo46_2) <| WOL.now (b:=false) rfl rfl ?_
      refine WOL.ld rfl (load_one tp43 (A2.hx Y4) rfl) <| WOL.now (b:=false) rfl rfl ?_
      refine WOL.len rfl (sF.hx Y4) u43 <| WOL.now (b:=false) rfl rfl ?_
      rw [hF]
      refine WOL.bi (v:=.bool (decide ((hi:Int) = (C.length:Int)))) rfl rfl rfl ?_
      refine WOL.pkf rfl rfl <| WOL.as rfl <| WOL.nil <| keep [(2,_),(24,_),(25,_),(28,_),(29,_),(268,_),(269,_),(270,_)] ⟨rfl,rfl,rfl,rfl,rfl,rfl,rfl,rfl,trivial⟩ ?_
      exact kto (fin2 _ (by rw [decide_eq_false hz,Bool.false_or]; exact decide_eq_decide.2 (by omega)) fun h5 Y5 => fin3 h5 Y5) ⟨rfl,rfl,rfl,rfl,rfl,rfl,rfl,rfl,trivial⟩
  · rw [show decide ((j:Int) < (S.length:Int)) = false by simpa using hlt]
    refine WL.no rfl <| WL.exit ?_
    exact kto (K h2 X2) ⟨rfl,rfl,trivial⟩
end
end Go.Tidy
namespace Go.Tidy
open Go Go.Proofs Tab
variable {tp:TProg}
def r9v:TCode:=(.seq (.reg r9_3) (.seq (.reg r9_4) (.seq (.reg r9_5) (.seq (.reg r9_6) (.seq (.reg r9_7) (.seq (.seq (.reg r9_8) (.cond (.tmp 134) (.seq (.reg r9_9) .ret) .skip)) (.seq (.reg r9_10) (.seq (.reg r9_11) (.seq (.seq (.reg r9_12) (.cond (.tmp 183) (.seq (.reg r9_13) .ret) .skip)) (.seq (.seq (.reg r9_14) (.block 0 (.loop (.seq (.reg r9_15) (.seq (.cond (.tmp 188) .skip (.exit 0)) (.seq (.block 1 (.seq (.reg r9_16) (.seq (.reg r9_17) (.seq (.reg r9_18) (.seq (.seq (.reg r9_19) (.cond (.tmp 217) (.seq (.reg r9_20) .ret) .skip)) (.seq (.reg r9_21) (.cond (.tmp 225) (.seq (.reg r9_22) (.cond (.tmp 230) (.seq (.reg r9_23) .ret) .skip)) (.seq (.reg r9_24) (.cond (.tmp 238) (.seq (.reg r9_25) .ret) .skip))))))))) (.reg r9_26))))))) (.seq (.reg r9_27) (.seq (.reg r9_28) (.seq (.seq (.reg r9_29) (.cond (.tmp 266) (.seq (.reg r9_30) .ret) .skip)) (.seq (.seq (.reg r9_31) (.block 2 (.loop (.seq (.reg r9_32) (.seq (.cond (.tmp 271) .skip (.exit 2)) (.seq (.block 3 (.seq (.reg r9_33) (.seq (.reg r9_34) (.seq (.reg r9_35) (.block 4 (.loop (.seq (.seq (.reg r9_36) (.cond (.tmp 290) .skip (.exit 4))) (.seq (.block 5 (.seq (.reg r9_37) (.seq (.seq (.reg r9_38) (.cond (.tmp 308) (.seq (.reg r9_39) .ret) .skip)) (.seq (.reg r9_40) (.cond (.tmp 353) (.seq (.reg r9_41) .ret) .skip))))) (.reg r9_42))))))))) (.reg r9_43))))))) (.seq (.seq (.reg r9_44) (.block 6 (.loop (.seq (.reg r9_45) (.seq (.cond (.tmp 359) .skip (.exit 6)) (.seq (.block 7 (.seq (.reg r9_46) (.seq (.reg r9_47) (.cond (.tmp 380) (.seq (.reg r9_48) .ret) .skip)))) (.reg r9_49))))))) (.seq (.reg r9_50) .ret))))))))))))))))
theorem c9_eq:c9 = .seq (.reg r9_0) (.seq (.seq (.reg r9_1) (.cond (.tmp 47) (.seq (.reg r9_2) .ret) .skip)) r9v):=rfl
section
variable {s:ByteArray} {n:Int} {g:TH} {v1 v2:Value} {C:List (Int × Bool)} {c2 c3:Nat}
theorem k9main (H:Has tp) (X:HasX tp) (A:Awk tp) {x y z:Int} (hx:0 ≤ x ∧ x ≤ 255) (hy:0 ≤ y ∧ y ≤ 255) (hz:0 ≤ z ∧ z ≤ 255) (hC:3 ≤ C.length) (f:Free0 g.next g) (A2:At g c2 (.cells (runV s n v1 v2).cells.toList true true 46)) (A3:At g c3 (.cells [.int .u8 x,.int .u8 y,.int .u8 z] true true 94)) (r:RunC s n g v1 v2 C) :
    ∀ a,Kn [(2,ptr c2),(3,ptr c3)] a → W Tryz.prog tp false r9v a g (Fin Tryz.prog [.tmp 4] fun v _ => v = .bool true):=by
  unfold r9v
  refine k9a hx hy hC A2 A3 r fun j k h1 h2 h3 => ?_
  refine k9b H X h1 h2 h3 f A2 r fun h X1 c7 c9 c11 p1 p2 q1 q2 u1 u2 B7 B9 B11 R7 R9 R11 => ?_
  refine k9c H X h1 h2 h3 (f.on X1) (A2.hx X1) (r.hx X1) B7 B9 B11 R7 R9 R11 fun h' X2 c15 w1 w2 B15 R15 => ?_
  have Y2:=X1.trans X2
  refine k9d H X h1 h2 h3 (f.on Y2) (A2.hx Y2) (r.hx Y2) B15 R15 fun h3 X3 => ?_
  have Y3:=Y2.trans X3
  refine k9e H X hz (f.on Y3) (A2.hx Y3) (A3.hx Y3) (r.hx Y3) fun h4 X4 c25' w3 w4 B25 R25 => ?_
  have Y4:=Y3.trans X4
  refine k9f H (f.on Y4) (A2.hx Y4) (r.hx Y4) B25 R25 fun h5 X5 => ?_
  have Y5:=Y4.trans X5
  exact k9g H A (A2.hx Y5) (r.hx Y5) (B25.hx X5) (R25.hx X5)
end
set_option maxHeartbeats 2000000 in
set_option maxRecDepth 100000 in
theorem k9all (H:Has tp) (X:HasX tp) (A:Awk tp) {s:ByteArray} {n x y z:Int} (hx:0 ≤ x ∧ x ≤ 255) (hy:0 ≤ y ∧ y ≤ 255) (hz:0 ≤ z ∧ z ≤ 255) {v1 v2:Value} {F:List Nat} {S:List (Int × Int)} {h:TH} (r:RunH h v1 v2 F S) (f:Free0 h.next h) :
    CallW Tryz.prog tp (.func (.func 9) #[] #[]) #[runV s n v1 v2,.agg #[.int .u8 x,.int .u8 y,.int .u8 z]] h fun v _ => v = .bool true:=by
  refine CallW.fnL (H.fn 9 f9 rfl rfl) ?_
  show ∀ a,Kn _ a → W Tryz.prog tp false c9 a h _
  rw [c9_eq]
  obtain ⟨bv1,kv1,rfl⟩:=r.f.form
  obtain ⟨bv2,kv2,rfl⟩:=r.s.form
  refine WL.sr <| WOL.box rfl fun h1 N1 => ?_
  refine WOL.box rfl fun h2 N2 => ?_
  refine WOL.as rfl <| WOL.nil <| keep [(2,_),(3,_)] ⟨rfl,rfl,trivial⟩ ?_
  have X2:=N1.hx.trans N2.hx
  have A2:=N1.at_.hx N2.hx
  have A3:=N2.at_
  have exit:∀ g,∀ a,Kn [(47,.bool true)] a → W Tryz.prog tp false (.cond (Ot 47) (.seq (.reg r9_2) .ret) .skip) a g (andThen (fun a h => W Tryz.prog tp false r9v a h (Fin Tryz.prog f9.results fun v _ => v = .bool true)) (Fin Tryz.prog f9.results fun v _ => v = .bool true)):=by
    intro g
    refine WL.yes rfl <| WL.sr <| WOL.cl0 rfl ((k11 A g).mono ?_)
    rintro v h4 ⟨rfl,rfl⟩
    refine WOL.as rfl <| WOL.nil ?_
    exact WL.ret (WL.end_ rfl rfl)
  refine WL.seq ?_
  refine WL.sr ?_
  refine WOL.ld rfl (load_row tp46 A2 rfl (Nat.le_of_ble_eq_true rfl)) ?_
  refine WOL.cl1 rfl rfl ((k23 H (s:=s) (n:=n) (r.f.hx X2) (r.s.hx X2)).mono ?_)
  rintro v h3 ⟨rfl,X3⟩
  have Y3:=X2.trans X3
  refine WOL.nt rfl <| WOL.mv rfl ?_
  cases hb:shortB s F.length S.length with
  | false =>
    refine WOL.skp (b:=true) rfl rfl <| WOL.skp (b:=true) rfl rfl <| WOL.skp (b:=true) rfl rfl <| WOL.pkt rfl rfl <| WOL.mv rfl ?_
    refine WOL.skp (b:=true) rfl rfl <| WOL.skp (b:=true) rfl rfl <| WOL.skp (b:=true) rfl rfl <| WOL.skp (b:=true) rfl rfl <| WOL.pkt rfl rfl <| WOL.nil ?_
    exact kto (exit h3) ⟨rfl,trivial⟩
  | true =>
    obtain ⟨hF,hS⟩:=short_small hb
    obtain ⟨es,L,hE,hL⟩:=lev_some F
    refine WOL.now (b:=false) rfl rfl ?_
    refine WOL.ld rfl (load_row tp46 (A2.hx X3) rfl (Nat.le_of_ble_eq_true rfl)) ?_
    refine WOL.now (b:=false) rfl rfl ?_
    refine WOL.cl1 rfl rfl ((k31 H (s:=s) (n:=n) (r.hx Y3) hE hL (by omega) (by omega)).mono ?_)
    rintro v h4 ⟨rfl,X4⟩
    have Y4:=Y3.trans X4
    refine WOL.now (b:=false) rfl rfl ?_
    refine WOL.bi rfl rfl nzero ?_
    rcases nz_cases (runE s n F.length S es L) with h0 | h0
    · have V:=valid_of hL h0
      have c:=Cel.of V hE h0
      obtain ⟨_,b2⟩:=V.back
      have R:RunC s n h4 (.slice bv1 F.length kv1) (.slice bv2 S.length kv2) (cellsL L S):=⟨F,es,by rw [b2]; exact r.hx Y4,c⟩
      rw [h0]
      refine WOL.pkf rfl rfl <| WOL.mv rfl ?_
      refine WOL.now (b:=false) rfl rfl <| WOL.fa rfl (fa_of fo46_2) <| WOL.now (b:=false) rfl rfl ?_
      refine WOL.ld rfl (load_one tp43 ((A2.hx X3).hx X4) rfl) <| WOL.now (b:=false) rfl rfl ?_
      refine WOL.len rfl (r.f.hx Y4) u43 <| WOL.now (b:=false) rfl rfl ?_
      refine WOL.bi (v:=.bool (decide ((F.length:Int) < 3))) rfl rfl rfl ?_
      refine WOL.pkf rfl rfl <| WOL.nil <| keep [(2,_),(3,_),(47,_)] ⟨rfl,rfl,rfl,trivial⟩ ?_
      by_cases hl:F.length < 3
      · rw [show decide ((F.length:Int) < 3) = true from decide_eq_true (by omega)]
        exact kto (exit h4) ⟨rfl,trivial⟩
      · rw [show decide ((F.length:Int) < 3) = false from decide_eq_false (by omega)]
        refine WL.no rfl <| WL.skip ?_
        exact kto (k9main H X A hx hy hz (by rw [← c.len]; omega) (f.on Y4) ((A2.hx X3).hx X4) ((A3.hx X3).hx X4) R) ⟨rfl,rfl,trivial⟩
    · rw [h0]
      refine WOL.pkf rfl rfl <| WOL.mv rfl ?_
      refine WOL.skp (b:=true) rfl rfl <| WOL.skp (b:=true) rfl rfl <| WOL.skp (b:=true) rfl rfl <| WOL.skp (b:=true) rfl rfl <| WOL.pkt rfl rfl <| WOL.nil ?_
      exact kto (exit h4) ⟨rfl,trivial⟩
attribute [local irreducible] Ty valOf
theorem u8_in {z:Int} (h:(Lit.int .u8 z).wf = true):0 ≤ z ∧ z ≤ 255:=by
  have h:(decide (IntKind.u8.min ≤ z) && decide (z ≤ IntKind.u8.max)) = true:=h
  have e1:IntKind.u8.min = 0:=by decide
  have e2:IntKind.u8.max = 255:=by decide
  rw [e1,e2] at h
  simpa using h
theorem ty_threeU {h:TH} {n:Nat} {ps:List Value} (y:Ty Tryz.prog h (n + 2) 94 ps):∃ a b c:Int,ps = [.int .u8 a,.int .u8 b,.int .u8 c] ∧ (0 ≤ a ∧ a ≤ 255) ∧ (0 ≤ b ∧ b ≤ 255) ∧ (0 ≤ c ∧ c ≤ 255):=by
  obtain ⟨p,q,rfl,_,y1,p',q',rfl,_,y2,p3,q3,rfl,_,y3,rfl⟩:=tyg_array u94 y
  obtain ⟨a,rfl,ha⟩:=tyg_int u5 y1
  obtain ⟨b,rfl,hb⟩:=tyg_int u5 y2
  obtain ⟨c,rfl,hc⟩:=tyg_int u5 y3
  exact ⟨a,b,c,rfl,u8_in ha,u8_in hb,u8_in hc⟩
theorem law9:Law tpE 9 5 [46,94]:=by
  intro h us f ha
  match us,ha with
  | [a0,a1],⟨⟨p0,y0,e0⟩,⟨p1,y1,e1⟩,_⟩ =>
    obtain ⟨s,z,v1,v2,F,S,rfl,r⟩:=ty_run y0
    obtain ⟨a,b,c,rfl,ha,hb,hc⟩:=ty_threeU y1
    rw [val_agg (.inl ⟨_,Tryz.underlying46⟩)] at e0
    rw [val_agg (.inr ⟨_,_,u94⟩)] at e1
    subst e0 e1
    exact k9all hasE hasXE awkE (s:=s) (n:=z) ha hb hc r f
end Go.Tidy
