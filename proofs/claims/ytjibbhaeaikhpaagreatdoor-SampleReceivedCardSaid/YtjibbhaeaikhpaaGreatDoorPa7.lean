/- A part of the proof. -/
import Derived.Test.YtjibbhaeaikhpaaGreatDoorPa6
import Derived.Test.YtjibbhaeaikhpaaGreatDoorPa2
import Derived.Test.YtjibbhaeaikhpaaGreatDoorPa5
set_option linter.all false
namespace Go.Tidy
open Go Go.Proofs Tab
variable {tp:TProg}
def optL (L:Rg):Option Operand → Option (Option Value)
 | none => some none
 | some x => (getL L x).map some
theorem optL_o {L:Rg} {a:Regs} (k:Kn L a) {x:Option Operand} {v:Option Value} (h:optL L x = some v):x.map a.eval = v:=by
 cases x with
 | none => cases h; rfl
 | some x =>
  simp only [optL,Option.map_eq_some_iff] at h
  obtain ⟨w,h1,rfl⟩:=h
  show some (a.eval x) = some w
  rw [getO_eval (k.o h1)]
section
variable {P:Program} {h:TH} {K:Regs → TH → Prop} {rest:List TOper} {d:Option Tmp} {ty:TypeId} {i:Nat} {x y:Operand} {t u e:TypeId} {L:Rg} {v vx:Value}
theorem WOL.slG {lo hi:Option Operand} {vlo vhi:Option Value} (hx:getL L x = some vx) (hp:plain vx = false) (hl:optL L lo = some vlo) (hh:optL L hi = some vhi) (hv:sliceT P t vx vlo vhi none h = some v) (w:∀ a,Kn (putL L d v) a → WO P tp rest a h K):∀ a,Kn L a → WO P tp (⟨d,.slice t x lo hi none,ty,none,[],i⟩ :: rest) a h K:=fun a k => by
 have e1:=getO_eval (k.o hx)
 have e2:=optL_o k hl
 have e3:=optL_o k hh
 refine WO.op (h1:=h) rfl rfl (fun call => ?_) (w _ (k.put d _))
 have hq:plainOp P ⟨d,.slice t x lo hi none,ty,none,[],i⟩ a.eval = none:=by
  unfold plainOp
  simp [plainly,Op.operands,e1,hp]
 simp only [stepOp,heapFirst,fastOp,valueOp,hq,heapOp,e1,e2,e3,Option.map_none,hv,Bool.cond_false]
 rfl
theorem sliceA {b off n l hh m:Nat} {z:List Value} {row:Bool} {cc:List Value} {wr:Bool} {el:TypeId} {lo hi:Option Value} (hu:P.underlying t = some (.array n e)) (he:Tp P e 1 z row) (hg:At h b (.cells cc true wr el)) (hc:cut3 n n lo hi none = some (l,hh,m)):sliceT P t (.pointer (some ⟨b,off,none⟩)) lo hi none h = some (.slice (some ⟨b,off + l,none⟩) (hh - l) (m - l)):=by
 obtain ⟨inf,q1,q2,_⟩:=he.i
 simp only [sliceT,hu,hc,Option.bind_some,q1,hg.get,q2,Nat.mul_one]
end
theorem u109:Tryz.prog.underlying 82 = some (.array 3 25):=by kernel_rfl
theorem fo111_0:fieldOff Tryz.prog 92 0 = some 0:=by kernel_rfl
theorem fo111_1:fieldOff Tryz.prog 92 1 = some 1:=by kernel_rfl
theorem fo111_2:fieldOff Tryz.prog 92 2 = some 2:=by kernel_rfl
theorem tp111:Tp Tryz.prog 92 5 [.int .i64 0,.int .i64 0,.float .f32 0,.float .f32 0,.float .f32 0] true:=tp_of (by kernel_rfl) (by kernel_rfl) rfl
theorem tp109:Tp Tryz.prog 82 3 [.float .f32 0,.float .f32 0,.float .f32 0] true:=tp_of (by kernel_rfl) (by kernel_rfl) rfl
def pak (s c:Int) (x y z:Nat):Value:=.agg #[zi s,zi c,.float .f32 x,.float .f32 y,.float .f32 z]
section
variable {h:TH} {s c:Int} {x y z:Nat} {es:List Int}
theorem slR {b:Nat} {wr:Bool} {el:TypeId} (A:At h b (.cells [zi s,zi c,.float .f32 x,.float .f32 y,.float .f32 z] true wr el)):SlL encF 1 h (.slice (some ⟨b,2,none⟩) 3 3) [x,y,z] :=
 ⟨_,3,rfl,Nat.le_refl _,rfl,.inr ⟨b,2,_,_,_,_,rfl,A,rfl,Nat.le_of_ble_eq_true rfl⟩⟩
end
theorem u106:Tryz.prog.underlying 85 = some (.array 20 5):=by kernel_rfl
theorem tp106:Tp Tryz.prog 85 20 (List.replicate 20 (.int .u8 0)) true:=tp_of (by kernel_rfl) (by kernel_rfl) rfl
section
variable {P:Program} {h:TH} {K:Regs → TH → Prop} {rest:List TOper} {d:Option Tmp} {ty:TypeId} {i:Nat} {x:Operand} {t e:TypeId} {L:Rg}
theorem WOL.sap {q:Addr} {n m c:Nat} (hu:P.underlying t = some (.array n e)) (hn:0 < n) (hm:n ≤ m) (hx:getL L x = some (.slice (some q) m c)) (w:∀ a,Kn (putL L d (.pointer (some q))) a → WO P tp rest a h K):∀ a,Kn L a → WO P tp (⟨d,.sliceToArrayPointer t x,ty,none,[],i⟩ :: rest) a h K:=fun a k => by
 have e1:=getO_eval (k.o hx)
 refine WO.op (h1:=h) rfl rfl (fun call => ?_) (w _ (k.put d _))
 have hq:plainOp P ⟨d,.sliceToArrayPointer t x,ty,none,[],i⟩ a.eval = none:=by
  unfold plainOp
  simp [plainly,Op.operands,e1,plain,plain1,plain0]
 have ha:arrayAtT P t (.slice (some q) m c) = some (.pointer (some q)):=by
  simp only [arrayAtT,hu]
  rw [ble_yes hm,show Nat.blt 0 n = true by rw [Nat.blt_eq]; exact hn]
  rfl
 simp only [stepOp,heapFirst,fastOp,valueOp,hq,heapOp,e1,ha,Bool.cond_false]
end
def wd (x y z:Nat):Nat → Nat | 0 => x | 1 => y | _ => z
def bodyK (s c x y z:Nat) (k:Nat):List Nat:=[90,s] ++ bytesN c 2 ++ (List.range k).flatMap fun i => bytesN (wordF (wd x y z i)) 4
def bodyB (s c x y z:Nat):List Nat:=bodyK s c x y z 3
def frameB (s c x y z:Nat):List Nat:=bodyB s c x y z ++ bytesN (tot (bodyB s c x y z)).toNat 4
theorem bytesN_len {n k:Nat}:(bytesN n k).length = k:=by simp [bytesN]
theorem bytesN_byt {n k:Nat}:Byt (bytesN n k):=fun b hb => by
 unfold bytesN at hb
 obtain ⟨i,_,rfl⟩:=List.mem_map.1 hb
 exact Nat.mod_lt _ (by decide)
theorem bodyK_len {s c x y z:Nat}:∀ k,(bodyK s c x y z k).length = 4 + 4 * k:=by
 intro k
 have:∀ k,((List.range k).flatMap fun i => bytesN (wordF (wd x y z i)) 4).length = 4 * k:=by
  intro k
  induction k with
  | zero => rfl
  | succ k ih => rw [List.range_succ,List.flatMap_append,List.length_append,ih]; simp [bytesN_len]; omega
 unfold bodyK
 rw [List.length_append,List.length_append,this,bytesN_len]
 rfl
theorem bodyK_byt {s c x y z:Nat} (hs:s < 256):∀ k,Byt (bodyK s c x y z k):=by
 intro k b hb
 unfold bodyK at hb
 rw [List.mem_append,List.mem_append] at hb
 rcases hb with (hb | hb) | hb
 ·simp at hb; rcases hb with rfl | rfl <;> omega
 ·exact bytesN_byt b hb
 ·obtain ⟨i,_,hb⟩:=List.mem_flatMap.1 hb
  exact bytesN_byt b hb
theorem frameB_len {s c x y z:Nat}:(frameB s c x y z).length = 20:=by
 unfold frameB bodyB
 rw [List.length_append,bodyK_len,bytesN_len]
theorem idx109 {x y z k:Nat} (hk:k < 3):indexT Tryz.prog 82 (.agg #[.float .f32 x,.float .f32 y,.float .f32 z]) (zi (k:Nat)) = some (.float .f32 (wd x y z k)):=by
 have e0:indexT Tryz.prog 82 (.agg #[.float .f32 x,.float .f32 y,.float .f32 z]) (zi 0) = some (.float .f32 x):=by kernel_rfl
 have e1:indexT Tryz.prog 82 (.agg #[.float .f32 x,.float .f32 y,.float .f32 z]) (zi 1) = some (.float .f32 y):=by kernel_rfl
 have e2:indexT Tryz.prog 82 (.agg #[.float .f32 x,.float .f32 y,.float .f32 z]) (zi 2) = some (.float .f32 z):=by kernel_rfl
 obtain rfl | rfl | rfl:k = 0 ∨ k = 1 ∨ k = 2:=by omega
 ·exact e0
 ·exact e1
 ·exact e2
theorem OwnF.at_ {α:Type} {enc:α → List Value} {n0:Nat} {h:TH} {v:Value} {e:TypeId} {l:List α} (o:OwnF enc n0 h v e l) (hl:l ≠ []):∃ b fix,v = .slice (some ⟨b,0,none⟩) l.length l.length ∧ At h b (.cells (cat enc l) fix true e):=by
 rcases o with (⟨_,rfl⟩ | ⟨_,b,rfl,_,h3⟩) | ⟨b,rfl,_,h3⟩
 ·exact absurd rfl hl
 ·exact ⟨b,_,rfl,h3⟩
 ·exact ⟨b,_,rfl,h3⟩
section
variable {h:TH} {s c x y z:Nat}
set_option maxHeartbeats 2000000 in
set_option maxRecDepth 10000 in
theorem k117 (H:Has tp) (Y:HasY tp) (hs:s < 256) (hc:c < 65536) (hx:x < 4294967296) (hy:y < 4294967296) (hz:z < 4294967296) (f:Free0 h.next h) :
    CallW Tryz.prog tp (.func (.func 128) #[] #[]) #[pak s c x y z] h fun v h' => v = .agg (cat encY (frameB s c x y z)).toArray ∧ HX h h':=by
  have hw:∀ k,wd x y z k < 4294967296:=fun k => by unfold wd; split <;> assumption
  refine CallW.fnL (H.fn 128 f117 rfl rfl) ?_
  refine WL.sr <| WOL.box rfl fun h1 N1 => WOL.al tp106 fun h2 N2 => WOL.nil <| keep [(1,_),(2,_)] ⟨rfl,rfl,trivial⟩ ?_
  have A1:At h2 h.next (.cells [zi s,zi c,.float .f32 x,.float .f32 y,.float .f32 z] true true 92):=N1.at_.hx N2.hx
  have A2:=N2.at_
  have X2:=N1.hx.trans N2.hx
  have f2:=f.on X2
  refine WL.sr <| WOL.fa rfl (fa_of fo111_0) <| WOL.ld rfl (load_one tp3 A1 rfl) ?_
  refine WOL.cvw u3 u5 rfl ?_
  rw [u8_wrap,Int.emod_eq_of_lt (by omega) (by omega)]
  refine WOL.bsl rfl u116 tp5 (by decide) (by decide) (by decide) (cs:=cat encY [90,s]) rfl fun h3 N3 => ?_
  refine WOL.fa rfl (fa_of fo111_1) <| WOL.ld rfl (load_one tp3 (A1.hx N3.hx) rfl) ?_
  have O3:OwnF encY h2.next h3 (.slice (some ⟨h2.next,0,none⟩) 2 2) 5 [90,s]:=.inr ⟨_,rfl,Nat.le_refl _,N3.at_⟩
  refine WOL.cl3 rfl rfl rfl rfl ((k127 H (k:=2) O3 (by simp) (by decide) N3.hx (Nat.le_refl _) N3.hx.next f2).mono ?_)
  rintro w h4 ⟨X4,O4,n4⟩
  refine WOL.as rfl <| WOL.nil <| keep [(1,_),(2,_),(3,_)] ⟨rfl,rfl,rfl,trivial⟩ ?_
  refine WL.seq <| WL.sr <| WOL.fa rfl (fa_of fo111_2) ?_
  refine WOL.ld rfl (load_row tp109 (A1.hx X4) rfl (Nat.le_of_ble_eq_true rfl)) <| WOL.mv rfl <| WOL.nil <| keep [(1,_),(2,_),(3,_),(14,_),(15,_)] ⟨rfl,rfl,rfl,rfl,rfl,trivial⟩ ?_
  refine WL.block ?_
  have n3:=N3.hx.next
  refine WL.loop (fun q a g => ∃ (k:Nat) (w:Value),k ≤ 3 ∧ q = 3 - k ∧ HX h2 g ∧ OwnF encY h2.next g w 5 (bodyK s c x y z k) ∧ h2.next ≤ g.next ∧ Kn [(1,ptr h.next),(2,ptr h1.next),(3,w),(14,.agg #[.float .f32 x,.float .f32 y,.float .f32 z]),(15,zi (k:Nat))] a) 3 (fun a q => ⟨0,w,by omega,by omega,X4,by simpa [bodyK] using O4,by omega,q.sub ⟨rfl,rfl,rfl,rfl,rfl,trivial⟩⟩) ?_
  rintro q a g ⟨k,w,hk,rfl,X5,O5,n5,q⟩
  refine q.go ?_
  refine WL.sr <| WOL.bi (v:=.bool (decide ((k:Int) < 3))) rfl rfl rfl <| WOL.nil <| keep [(1,_),(2,_),(3,_),(14,_),(15,_),(16,_)] ⟨rfl,rfl,rfl,rfl,rfl,rfl,trivial⟩ ?_
  refine WL.seq ?_
  have lk:=bodyK_len (s:=s) (c:=c) (x:=x) (y:=y) (z:=z) k
  by_cases hk3:k < 3
  · rw [show decide ((k:Int) < 3) = true from decide_eq_true (by omega)]
    refine WL.yes rfl <| WL.skip ?_
    refine WL.seq <| WL.block ?_
    refine WL.sr <| WOL.idx rfl rfl (idx109 hk3) <| WOL.as rfl <| WOL.nil <| keep [(1,_),(2,_),(3,_),(5,_),(14,_),(15,_)] ⟨rfl,rfl,rfl,rfl,rfl,rfl,trivial⟩ ?_
    refine WL.reg <| WOL.mv rfl <| WOL.mv rfl ?_
    refine WOL.cl2 rfl rfl rfl ((k128 H Y (hw k) O5 (by omega) X5 (Nat.le_refl _) n5 f2).mono ?_)
    rintro w2 g2 ⟨X6,O6,n6⟩
    refine WOL.as rfl <| WOL.nil ?_
    refine WL.reg ?_
    refine WOL.bi (v:=zi ((k + 1:Nat):Int)) rfl rfl (by show some (Value.int .i64 (fwrap .i64 ((k:Int) + 1))) = _; rw [fwrap_i64 (by omega) (by omega)]; rfl) ?_
    refine WOL.mv rfl <| WOL.nil ?_
    exact fun a q => ⟨3 - (k + 1),by omega,k + 1,w2,by omega,rfl,X6,by
      have e:bodyK s c x y z (k + 1) = bodyK s c x y z k ++ bytesN (wordF (wd x y z k)) 4:=by
        unfold bodyK
        rw [List.range_succ,List.flatMap_append,← List.append_assoc]
        simp
      rw [e]; exact O6,by omega,q.sub ⟨rfl,rfl,rfl,rfl,rfl,trivial⟩⟩
  · rw [show decide ((k:Int) < 3) = false from decide_eq_false (by omega)]
    obtain rfl:k = 3:=by omega
    refine WL.no rfl <| WL.exit ?_
    have hb:=bodyK_byt (c:=c) (x:=x) (y:=y) (z:=z) hs 3
    obtain ⟨bo,ew⟩:=O5.form
    have sl:=O5.sl eY
    subst ew
    have ti:=tot_in (bodyK s c x y z 3) (bodyK s c x y z 3).length
    rw [List.take_length] at ti
    obtain ⟨T,hT⟩:∃ T:Nat,tot (bodyK s c x y z 3) = (T:Int):=⟨(tot (bodyK s c x y z 3)).toNat,by omega⟩
    refine WL.sr <| WOL.mv rfl <| WOL.mv rfl ?_
    refine WOL.cl1 rfl rfl ((k129 H sl hb (by omega) (f2.on X5)).mono ?_)
    rintro v g2 ⟨rfl,X6⟩
    have X7:=X5.trans X6
    rw [hT]
    refine WOL.cl3 rfl rfl rfl rfl ((k127 H (k:=4) (O5.hx X6) (by omega) (by decide) X7 (Nat.le_refl _) (by have:=X6.next; omega) f2).mono ?_)
    rintro w3 g3 ⟨X8,O8,n8⟩
    have e:bodyK s c x y z 3 ++ bytesN T 4 = frameB s c x y z:=by
      unfold frameB bodyB
      rw [hT,Int.toNat_natCast]
    rw [e] at O8
    have fl:=frameB_len (s:=s) (c:=c) (x:=x) (y:=y) (z:=z)
    obtain ⟨b,fix,rfl,B⟩:=O8.at_ (fun e => by rw [e] at fl; cases fl)
    have cl:(cat encY (frameB s c x y z)).length = 20:=by rw [eY.cat_len,fl]
    refine WOL.sap u106 (by decide) (by omega) rfl ?_
    refine WOL.ld rfl (load_row tp106 B (l:=cat encY (frameB s c x y z)) (by rw [List.drop_zero,List.take_of_length_le (by omega)]) (by omega)) ?_
    refine WOL.sto (vs:=cat encY (frameB s c x y z)) rfl rfl tp106 (A2.hx X8) rfl cl (Nat.le_of_ble_eq_true rfl) (eY.all _) (f.hx (X2.trans X8)) N1.hx.next fun g4 P4 => ?_
    have X9:=P4.hx _ (X2.trans X8) N1.hx.next
    have B4:=P4.at_
    rw [splice_all _ _ (by rw [cl]; rfl)] at B4
    refine WOL.nil ?_
    exact WL.ret (WL.endC rfl (load_row tp106 B4 (l:=cat encY (frameB s c x y z)) (by rw [List.drop_zero,List.take_of_length_le (by omega)]) (by omega)) ⟨rfl,X9⟩)
end
end Go.Tidy
namespace Go.Tidy
open Go Go.Proofs Tab
variable {tp:TProg}
theorem cat_Y (l:List Nat):cat encY l = l.map fun b => Value.int .u8 (b:Nat):=by
 unfold cat
 induction l with
 | nil => rfl
 | cons b l ih => rw [List.flatMap_cons,ih]; rfl
section
variable {P:Program}
theorem pv_part_at {t:TypeId} {k:IntKind} {xs:List Value} {i:Nat} {v:Value} (hu:P.underlying t = some (.int k)) (hv:xs[i]? = some v):pv P (Go.part t xs.toArray i) = some v:=by
 have e:pv P (isAgg t) = some false:=by unfold isAgg; simp [pv_bind,pv_underlying hu,pv_pure]
 unfold Go.part
 rw [pv_bind,e,Option.bind_some]
 simp only [Bool.false_eq_true,if_false,List.getElem?_toArray,hv]
 rfl
theorem pv_byte {d:Nat} {a b:Nat} (hu:P.underlying 5 = some (.int .u8)):pv P (Op.equalIn (d + 1) 5 (.int .u8 (a:Nat)) (.int .u8 (b:Nat))) = some (decide (a = b)):=by
 rw [Op.equalIn,pv_bind,pv_underlying hu,Option.bind_some]
 simp only [if_pos,pv_pure]
 congr 1
 by_cases h:a = b
 ·subst h; simp
 ·simp [h]; omega
theorem pv_bytes {l l':List Nat} {d:Nat} (hu:P.underlying 5 = some (.int .u8)) (hs:pv P (sizeOf 5) = some 1) (hl:l.length = l'.length)
    (hp:∀ (m:List Nat) i b,m[i]? = some b → pv P (Go.part 5 (m.map fun b => Value.int .u8 (b:Nat)).toArray i) = some (.int .u8 (b:Nat))):∀ m i,i + m = l.length →
    pv P (forIn (List.range' i m) ((none,()):Option Bool × Unit) fun i __s => do
            let __do_lift ← Go.part 5 (l.map fun b => Value.int .u8 (b:Nat)).toArray (i * 1)
            let __do_lift_1 ← Go.part 5 (l'.map fun b => Value.int .u8 (b:Nat)).toArray (i * 1)
            let __do_lift ← Op.equalIn (d + 1) 5 __do_lift __do_lift_1
            if (!__do_lift) = true then pure (ForInStep.done (some false,()))
              else pure (ForInStep.yield (none,()))) = some (if l.drop i = l'.drop i then (none,()) else (some false,()))
  | 0,i,h => by
    rw [List.drop_of_length_le (by omega),List.drop_of_length_le (by omega),if_pos rfl]
    rfl
  | m + 1,i,h => by
    have ih:=pv_bytes (d:=d) hu hs hl hp m (i + 1) (by omega)
    have h1:i < l.length:=by omega
    have h2:i < l'.length:=by omega
    have e1:l[i]? = some l[i]:=List.getElem?_eq_getElem h1
    have e2:l'[i]? = some l'[i]:=List.getElem?_eq_getElem h2
    rw [List.range'_succ,List.forIn_cons,pv_bind,pv_bind,Nat.mul_one,hp _ _ _ e1,Option.bind_some,pv_bind,hp _ _ _ e2,Option.bind_some,pv_bind,pv_byte hu,Option.bind_some]
    rw [List.drop_eq_getElem_cons h1,List.drop_eq_getElem_cons h2]
    by_cases hb:l[i] = l'[i]
    · rw [decide_eq_true hb]
      simp only [Bool.not_true,Bool.false_eq_true,if_false,pv_pure,Option.bind_some]
      rw [ih,hb]
      by_cases hd:l.drop (i + 1) = l'.drop (i + 1)
      · rw [if_pos hd,if_pos (by rw [hd])]
      · rw [if_neg hd,if_neg fun e => hd (List.cons.inj e).2]
    · rw [decide_eq_false hb]
      simp only [Bool.not_false,if_true,pv_pure,Option.bind_some]
      rw [if_neg fun e => hb (List.cons.inj e).1]
end
theorem pv_s5:pv Tryz.prog (sizeOf 5) = some 1:=by kernel_rfl
theorem pv_eq106 {l l':List Nat} (h1:l.length = 20) (h2:l'.length = 20):pv Tryz.prog (Op.equal 85 (.agg (cat encY l).toArray) (.agg (cat encY l').toArray)) = some (decide (l = l')):=by
 rw [cat_Y,cat_Y]
 show pv Tryz.prog (Op.equalIn (9998 + 1 + 1) 85 _ _) = _
 rw [Op.equalIn,pv_bind,pv_underlying u106,Option.bind_some]
 simp only [Std.Legacy.Range.forIn_eq_forIn_range',Std.Legacy.Range.size,pv_bind,pv_s5,Option.bind_some]
 have e:=pv_bytes (P:=Tryz.prog) (l:=l) (l':=l') (d:=9998) u5 pv_s5 (by omega) (fun m i b hb => pv_part_at u5 (by rw [List.getElem?_map,hb]; rfl)) 20 0 (by omega)
 rw [show (20 - 0 + 1 - 1) / 1 = 20 from rfl,e,Option.bind_some,List.drop_zero,List.drop_zero]
 by_cases h:l = l'
 ·rw [if_pos h,decide_eq_true h]; rfl
 ·rw [if_neg h,decide_eq_false h]; rfl
theorem WOL.ne106 {h:TH} {K:Regs → TH → Prop} {rest:List TOper} {d:Option Tmp} {ty:TypeId} {i:Nat} {x y:Operand} {u:TypeId} {L:Rg} {l l':List Nat} (h1:l.length = 20) (h2:l'.length = 20) (hx:getL L x = some (.agg (cat encY l).toArray)) (hy:getL L y = some (.agg (cat encY l').toArray))
    (w:∀ r,Kn (putL L d (.bool !decide (l = l'))) r → WO Tryz.prog tp rest r h K):∀ r,Kn L r → WO Tryz.prog tp (⟨d,.binOp .neq 85 x y u,ty,none,[],i⟩ :: rest) r h K:=by
  intro r k
  have ex:=getO_eval (k.o hx)
  have ey:=getO_eval (k.o hy)
  have px:∀ l:List Nat,plain (.agg (cat encY l).toArray) = true:=fun l => by
    rw [cat_Y]
    show ((l.map fun b => Value.int .u8 (b:Nat)).toArray.toList).all plain0 = true
    simp [plain0]
  refine WO.plainly rfl rfl rfl (by simp [fastOp,fastBin,ex,ey]) (by simp [valueOp,ex,ey,eqT_agg]) (plainOp_of (by rfl) (fun q hq => ?_) ?_ rfl) (w _ (k.put d _))
  · simp only [Op.operands] at hq
    simp at hq
    rcases hq with rfl | rfl
    · rw [ex]; exact px l
    · rw [ey]; exact px l'
  · show pv Tryz.prog (execOp r.eval ⟨d, .binOp .neq 85 x y u, ty, "", #[], none⟩) = _
    have hg:Tryz.prog.eqGuardType Tryz.prog.depth 85 = false:=by kernel_rfl
    simp [execOp,pv_bind,pv_map,pv_pure,pv_program,ex,ey,eqGuard,binOp,pv_eq106 h1 h2,hg]
end Go.Tidy
namespace Go.Tidy
open Go Go.Proofs Tab
variable {tp:TProg}
theorem lockOf_in:∀ (ls:List Operand) (a:Regs) (os:List (Option Nat)) (lk:List Nat),ls.map (fun x => (getO a x).map blockOf) = os.map some → ∀ l,l ∈ lockOf ls a.eval lk → some l ∈ os ∨ l ∈ lk
  | [],_,[],_,_,l,h => .inr h
  | [],_,_ :: _,_,e,_,_ => by simp at e
  | _ :: _,_,[],_,e,_,_ => by simp at e
  | x :: r,a,o :: os,lk,e,l,h => by
    simp only [List.map_cons,List.cons.injEq] at e
    obtain ⟨e1,e2⟩:=e
    rw [Option.map_eq_some_iff] at e1
    obtain ⟨v,e3,e4⟩:=e1
    unfold lockOf at h
    rw [getO_eval e3,e4] at h
    cases o with
    | none => exact (lockOf_in r a os lk e2 l h).imp (List.mem_cons_of_mem _) id
    | some b =>
      rcases List.mem_cons.1 h with rfl | h
      · exact .inl (List.mem_cons_self ..)
      · exact (lockOf_in r a os lk e2 l h).imp (List.mem_cons_of_mem _) id
theorem Free0.heldO {n:Nat} {M:List Nat} {h:TH} {os:List (Option Nat)} (f:Free0 n h) (hM:∀ l,l ∈ M → some l ∈ os ∨ l ∈ h.lock) (hb:∀ b,some b ∈ os → b < n):Free0 n (h.withLock M) :=
 ⟨f.floor,fun l hl => (hM l hl).elim (hb l) (f.lock l)⟩
section
variable {P:Program} {h:TH} {K:Regs → TH → Prop} {rest:List TOper} {d:Option Tmp} {ty:TypeId} {i:Nat} {L:Rg} {f x0 l0:Operand} {ls:List Operand} {fv v0:Value} {ts:Array TypeId}
theorem lockL_o {a:Regs} (k:Kn L a):∀ {l:List Operand} {os:List (Option Nat)},l.map (fun x => (getL L x).map blockOf) = os.map some → l.map (fun x => (getO a x).map blockOf) = os.map some
 | [],[],_ => rfl
 | [],_ :: _,e => by simp at e
 | _ :: _,[],e => by simp at e
 | x :: r,o :: os,e => by
  simp only [List.map_cons,List.cons.injEq] at e ⊢
  obtain ⟨e1,e2⟩:=e
  rw [Option.map_eq_some_iff] at e1
  obtain ⟨v,e3,e4⟩:=e1
  exact ⟨by rw [k.o e3]; exact congrArg some e4,lockL_o k e2⟩
theorem WOL.lr1 (os:List (Option Nat)) (hb:(l0 :: ls).map (fun x => (getL L x).map blockOf) = os.map some) (hf:getL L f = some fv) (h0:getL L x0 = some v0) (w:∀ M,(∀ l,l ∈ M → some l ∈ os ∨ l ∈ h.lock) → CallW P tp fv #[v0] (h.withLock M) fun v h1 => ∀ a,Kn (putL L d v) a → WO P tp rest a (h1.withLock h.lock) K):∀ a,Kn L a → WO P tp (⟨d,.call ⟨.value f,#[x0],ts⟩,ty,none,l0 :: ls,i⟩ :: rest) a h K :=
 fun a k => WO.cons_lock rfl rfl (StepW.call (by
  rw [getO_eval (k.o hf)]
  simpa [getO_eval (k.o h0)] using (w _ (lockOf_in _ a os h.lock (lockL_o k hb))).mono fun _ _ q => k.nx q))
end
section
variable {h:TH} {s c:Int} {x y z:Nat} {es:List Int}
end
end Go.Tidy
namespace Go.Tidy
open Go Go.Proofs Tab
variable {tp:TProg}
def srcB (l:List Nat):Nat:=l.getD 1 0
def cntB (l:List Nat):Nat:=numB ((l.drop 2).take 2)
def wrdB (l:List Nat) (i:Nat):Nat:=numB ((l.drop (4 + 4 * i)).take 4)
def decE (l:List Nat) (es:List Int):Int:=firstNZ [cond ((l.getD 0 0:Int) != 90) 1 0,cond (((numB (l.drop 16):Nat):Int) != tot (l.take 16)) 27 0,firstNZ es,cond (!decide (frameB (srcB l) (cntB l) (wrdB l 0) (wrdB l 1) (wrdB l 2) = l)) 1 0]
def decV (l:List Nat) (es:List Int):Value:=cond (decE l es != 0) (.tuple #[pak 0 0 0 0 0,zi (decE l es)]) (.tuple #[pak (srcB l) (cntB l) (wrdB l 0) (wrdB l 1) (wrdB l 2),zi 0])
theorem Byt.drop {l:List Nat} (h:Byt l) (k:Nat):Byt (l.drop k):=fun b hb => h b (List.mem_of_mem_drop hb)
theorem Byt.take {l:List Nat} (h:Byt l) (k:Nat):Byt (l.take k):=fun b hb => h b (List.mem_of_mem_take hb)
theorem numB_lt' {l:List Nat} {k:Nat} (h:Byt l) (hl:l.length ≤ k):numB l < 256 ^ k:=by
 have:=numB_lt h l.length (Nat.le_refl _)
 rw [List.take_length] at this
 exact Nat.lt_of_lt_of_le this (Nat.pow_le_pow_right (by decide) hl)
theorem wrdB_lt {l:List Nat} (h:Byt l) (i:Nat):wrdB l i < 4294967296:=numB_lt' (k:=4) ((h.drop _).take 4) (by rw [List.length_take]; omega)
theorem cntB_lt {l:List Nat} (h:Byt l):cntB l < 65536:=numB_lt' (k:=2) ((h.drop _).take 2) (by rw [List.length_take]; omega)
section
variable {h:TH} {l:List Nat} {b:Nat} {fix wr:Bool} {el:TypeId}
theorem slY {lo hi m:Nat} (A:At h b (.cells (cat encY l) fix wr el)) (h1:lo ≤ hi) (h2:hi ≤ l.length) (h3:hi ≤ m):SlL encY 1 h (.slice (some ⟨b,0 + lo,none⟩) (hi - lo) (m - lo)) ((l.drop lo).take (hi - lo)):=by
 have e:((l.drop lo).take (hi - lo)).length = hi - lo:=by rw [List.length_take,List.length_drop]; omega
 refine ⟨_,m - lo,by rw [e],by omega,by rw [eY.cat_len],.inr ⟨b,0 + lo,_,_,_,_,rfl,A,?_,?_⟩⟩
 ·rw [e,Nat.zero_add]
  have:=eY.part l lo (hi - lo)
  rw [Nat.mul_one,Nat.mul_one] at this
  rw [Nat.mul_one]
  exact this
 ·rw [e,eY.cat_len]; omega
end
theorem ix106_0 {c:Nat}:indexAddrT Tryz.prog 85 (.pointer (some ⟨c,0,none⟩)) (.int .i64 0) = some (.pointer (some ⟨c,0,none⟩)):=by kernel_rfl
theorem ix106_1 {c:Nat}:indexAddrT Tryz.prog 85 (.pointer (some ⟨c,0,none⟩)) (.int .i64 1) = some (.pointer (some ⟨c,1,none⟩)):=by kernel_rfl
theorem ix109 {c k:Nat} (hk:k < 3):indexAddrT Tryz.prog 82 (.pointer (some ⟨c,2,none⟩)) (zi (k:Nat)) = some (.pointer (some ⟨c,2 + k,none⟩)):=by
 have e0:indexAddrT Tryz.prog 82 (.pointer (some ⟨c,2,none⟩)) (zi 0) = some (.pointer (some ⟨c,2,none⟩)):=by kernel_rfl
 have e1:indexAddrT Tryz.prog 82 (.pointer (some ⟨c,2,none⟩)) (zi 1) = some (.pointer (some ⟨c,3,none⟩)):=by kernel_rfl
 have e2:indexAddrT Tryz.prog 82 (.pointer (some ⟨c,2,none⟩)) (zi 2) = some (.pointer (some ⟨c,4,none⟩)):=by kernel_rfl
 obtain rfl | rfl | rfl:k = 0 ∨ k = 1 ∨ k = 2:=by omega
 ·exact e0
 ·exact e1
 ·exact e2
theorem bd111 {a b:Int}:buildT Tryz.prog 92 [(0,.int .i64 a),(1,.int .i64 b)] = some (pak a b 0 0 0):=by kernel_rfl
theorem bd111z:buildT Tryz.prog 92 [] = some (pak 0 0 0 0 0):=by kernel_rfl
theorem cut_at {k:Nat} (hk:k < 3):cut3 20 20 (some (zi ((4 + 4 * k:Nat):Int))) (some (zi ((8 + 4 * k:Nat):Int))) none = some (4 + 4 * k,8 + 4 * k,20):=by
 obtain rfl | rfl | rfl:k = 0 ∨ k = 1 ∨ k = 2:=by omega
 ·rfl
 ·rfl
 ·rfl
def pr (w:Nat → Nat) (k i:Nat):Nat:=cond (Nat.blt i k) (w i) 0
def pakC (s c:Int) (w:Nat → Nat) (k:Nat):List Value:=[zi s,zi c,.float .f32 (pr w k 0),.float .f32 (pr w k 1),.float .f32 (pr w k 2)]
theorem pakC_next {s c:Int} {w:Nat → Nat} {k:Nat} (hk:k < 3):splice (pakC s c w k) (2 + k) [.float .f32 (w k)] = pakC s c w (k + 1):=by
 obtain rfl | rfl | rfl:k = 0 ∨ k = 1 ∨ k = 2:=by omega
 ·rfl
 ·rfl
 ·rfl
section
variable {h:TH} {l:List Nat} {es:List Int}
set_option maxHeartbeats 4000000 in
set_option maxRecDepth 10000 in
theorem k153 (H:Has tp) (X:HasX tp) (Y:HasY tp) (hl:l.length = 20) (hb:Byt l) (hE:SErr [wrdB l 0,wrdB l 1,wrdB l 2] es) (f:Free0 h.next h):CallW Tryz.prog tp (.func (.func 57) #[] #[]) #[.agg (cat encY l).toArray] h fun v h' => v = decV l es ∧ HX h h':=by
 refine CallW.fnL (H.fn 57 f153 rfl rfl) ?_
 have cl:(cat encY l).length = 20:=by rw [eY.cat_len,hl]
 refine WL.sr <| WOL.box rfl fun h1 N1 => WOL.al tp111 fun h2 N2 => WOL.as rfl <| WOL.nil <| keep [(1,_),(2,_)] ⟨rfl,rfl,trivial⟩ ?_
 have A1:At h2 h.next (.cells (cat encY l) true true 85):=N1.at_.hx N2.hx
 have X2:=N1.hx.trans N2.hx
 have n1:=N1.next
 have n2:=N2.next
 have b0:=hb.at 0
 have b1:=hb.at 1
 have cg:∀ j,j < 20 → (cat encY l)[j]? = some (.int .u8 (l.getD j 0:Nat)):=fun j hj => by
  rw [cat_Y,List.getElem?_map,List.getD_eq_getElem?_getD,List.getElem?_eq_getElem (by omega:j < l.length)]
  rfl
 refine WL.sr <| WOL.ix rfl rfl ix106_1 ?_
 refine WOL.ld rfl (load_one tp5 A1 (cg 1 (by decide))) <| WOL.convU u5 u3 rfl (by omega) (by omega) ?_
 refine WOL.slG rfl rfl rfl rfl (sliceA u106 tp5 A1 (l:=2) (hh:=4) (m:=20) rfl) ?_
 refine WOL.al tp111 fun h3 N3 => ?_
 have n3:=N3.next
 have X3:=X2.trans N3.hx
 refine WOL.lr1 [some h2.next,none,none,some h.next] rfl rfl rfl fun M hM => ((k170 H ((slY (lo:=2) (hi:=4) (m:=20) A1 (by decide) (by omega) (by decide)).hx N3.hx |>.relock M) ((hb.drop 2).take _) (by rw [List.length_take]; omega) ((f.on X3).heldO hM (fun b hb => by simp at hb; omega))).mono ?_)
 rintro v h4 ⟨rfl,X4⟩
 replace X4:=X4.relock
 generalize h4.withLock h3.lock = h4 at *
 have Y4:=X3.trans X4
 have x4:=X4.next
 refine WOL.bd rfl bd111 ?_
 refine WOL.sto rfl rfl tp111 (N3.at_.hx X4) rfl rfl (Nat.le_of_ble_eq_true rfl) rfl (f.hx Y4) (by omega) fun h5 P5 => ?_
 have Y5:=P5.hx _ Y4 (by omega)
 have n5:=P5.next
 have A15:At h5 h.next (.cells (cat encY l) true true 85):=P5.oth _ _ (by omega) ((A1.hx N3.hx).hx X4)
 have A25:=P5.oth h1.next _ (by omega) ((N2.at_.hx N3.hx).hx X4)
 have A45:At h5 h2.next (.cells (pakC (srcB l) (cntB l) (wrdB l) 0) true true 92):=P5.at_
 refine WOL.nil <| keep [(1,_),(2,_),(4,_)] ⟨rfl,rfl,rfl,trivial⟩ ?_
 refine WL.seq <| WL.sr <| WOL.mv rfl <| WOL.nil <| keep [(1,_),(2,_),(4,_),(15,_)] ⟨rfl,rfl,rfl,rfl,trivial⟩ ?_
 refine WL.block ?_
 refine WL.loop (fun q a g => ∃ k:Nat,k ≤ 3 ∧ q = 3 - k ∧ HX h g ∧ h2.next < g.next ∧ At g h.next (.cells (cat encY l) true true 85) ∧ At g h1.next (.cells [.int .i64 0,.int .i64 0,.float .f32 0,.float .f32 0,.float .f32 0] true true 92) ∧ At g h2.next (.cells (pakC (srcB l) (cntB l) (wrdB l) k) true true 92) ∧ Kn [(1,ptr h.next),(2,ptr h1.next),(4,ptr h2.next),(15,zi (k:Nat))] a) 3 (fun a q => ⟨0,by omega,by omega,Y5,A45.lt,A15,A25,A45,q.sub ⟨rfl,rfl,rfl,rfl,trivial⟩⟩) ?_
 rintro q a g ⟨k,hk,rfl,X6,hg,B1,B2,B4,q⟩
 refine q.go ?_
 refine WL.sr <| WOL.bi (v:=.bool (decide ((k:Int) < 3))) rfl rfl rfl <| WOL.nil <| keep [(1,_),(2,_),(4,_),(15,_),(16,_)] ⟨rfl,rfl,rfl,rfl,rfl,trivial⟩ ?_
 refine WL.seq ?_
 by_cases hk3:k < 3
 ·rw [show decide ((k:Int) < 3) = true from decide_eq_true (by omega)]
  refine WL.yes rfl <| WL.skip ?_
  refine WL.seq <| WL.block ?_
  refine WL.sr <| WOL.mv rfl <| WOL.as rfl <| WOL.nil <| keep [(1,_),(2,_),(4,_),(5,_),(15,_)] ⟨rfl,rfl,rfl,rfl,rfl,trivial⟩ ?_
  refine WL.sr <| WOL.mv rfl ?_
  refine WOL.bi (v:=zi ((4 * k:Nat):Int)) rfl rfl (by show some (Value.int .i64 (fwrap .i64 (4 * (k:Int)))) = _; rw [fwrap_i64 (by omega) (by omega)]; rfl) ?_
  refine WOL.bi (v:=zi ((4 + 4 * k:Nat):Int)) rfl rfl (by show some (Value.int .i64 (fwrap .i64 (4 + ((4 * k:Nat):Int)))) = _; rw [fwrap_i64 (by omega) (by omega)]; congr 2) ?_
  refine WOL.as rfl <| WOL.nil <| keep [(1,_),(2,_),(4,_),(5,_),(6,_),(15,_)] ⟨rfl,rfl,rfl,rfl,rfl,rfl,trivial⟩ ?_
  refine WL.reg <| WOL.mv rfl <| WOL.mv rfl <| WOL.mv rfl ?_
  refine WOL.bi (v:=zi ((8 + 4 * k:Nat):Int)) rfl rfl (by show some (Value.int .i64 (fwrap .i64 (((4 + 4 * k:Nat):Int) + 4))) = _; rw [fwrap_i64 (by omega) (by omega)]; congr 2; omega) ?_
  refine WOL.slG rfl rfl rfl rfl (sliceA u106 tp5 B1 (cut_at hk3)) ?_
  have sl:=slY (lo:=4 + 4 * k) (hi:=8 + 4 * k) (m:=20) B1 (by omega) (by omega) (by omega)
  rw [show 8 + 4 * k - (4 + 4 * k) = 4 by omega] at sl ⊢
  refine WOL.cl1 rfl rfl ((k171 H Y sl ((hb.drop _).take _) (by rw [List.length_take,List.length_drop]; omega) (f.on X6)).mono ?_)
  rintro v g2 ⟨rfl,X7⟩
  have Y7:=X6.trans X7
  have x7:=X7.next
  refine WOL.fa rfl (fa_of fo111_2) <| WOL.ix rfl rfl (ix109 hk3) ?_
  refine WOL.sto rfl rfl tp25 (B4.hx X7) rfl rfl (by show 2 + k + 1 ≤ 5; omega) rfl (f.hx Y7) (by omega) fun g3 P3 => ?_
  have C4:At g3 h2.next (.cells (splice (pakC (srcB l) (cntB l) (wrdB l) k) (2 + k) [.float .f32 (wrdB l k)]) true true 92):=P3.at_
  rw [pakC_next hk3] at C4
  have p3:=P3.next
  refine WOL.nil ?_
  refine WL.reg ?_
  refine WOL.bi (v:=zi ((k + 1:Nat):Int)) rfl rfl (by show some (Value.int .i64 (fwrap .i64 ((k:Int) + 1))) = _; rw [fwrap_i64 (by omega) (by omega)]; rfl) ?_
  refine WOL.mv rfl <| WOL.nil ?_
  exact fun a q => ⟨3 - (k + 1),by omega,k + 1,by omega,rfl,P3.hx _ Y7 (by omega),by omega,P3.oth _ _ (by omega) (B1.hx X7),P3.oth _ _ (by omega) (B2.hx X7),C4,q.sub ⟨rfl,rfl,rfl,rfl,trivial⟩⟩
 ·rw [show decide ((k:Int) < 3) = false from decide_eq_false (by omega)]
  obtain rfl:k = 3:=by omega
  refine WL.no rfl <| WL.exit ?_
  have B4':At g h2.next (.cells [zi (srcB l),zi (cntB l),.float .f32 (wrdB l 0),.float .f32 (wrdB l 1),.float .f32 (wrdB l 2)] true true 92):=B4
  have w0:=wrdB_lt hb 0
  have w1:=wrdB_lt hb 1
  have w2:=wrdB_lt hb 2
  have cc:=cntB_lt hb
  have ss:srcB l < 256:=b1
  refine WL.sr ?_
  refine WOL.slG rfl rfl rfl rfl (sliceA u106 tp5 B1 (l:=0) (hh:=16) (m:=20) rfl) ?_
  refine WOL.as rfl <| WOL.nil <| keep [(1,_),(2,_),(4,_),(7,_)] ⟨rfl,rfl,rfl,rfl,trivial⟩ ?_
  refine WL.sr <| WOL.ix rfl rfl ix106_0 ?_
  refine WOL.ld rfl (load_one tp5 B1 (cg 0 (by decide))) ?_
  refine WOL.bi (v:=.bool ((l.getD 0 0:Int) != 90)) rfl rfl rfl ?_
  refine WOL.slG rfl rfl rfl rfl (sliceA u106 tp5 B1 (l:=16) (hh:=20) (m:=20) rfl) ?_
  refine WOL.mv rfl <| WOL.fa rfl (fa_of fo111_2) ?_
  refine WOL.slG rfl rfl rfl rfl (sliceA u109 tp25 B4' rfl) ?_
  refine WOL.ld rfl (load_row tp111 B4' rfl (Nat.le_of_ble_eq_true rfl)) ?_
  refine WOL.ld rfl (load_row tp106 B1 (l:=cat encY l) (by rw [List.drop_zero,List.take_of_length_le (by omega)]) (by omega)) ?_
  refine WOL.lk2 rfl rfl rfl fun M => ((k77 H _ 1 _).mono ?_)
  rintro v g2 ⟨rfl,rfl⟩
  have s16:=slY (lo:=16) (hi:=20) (m:=20) B1 (by decide) (by omega) (by decide)
  have s0:=slY (lo:=0) (hi:=16) (m:=20) B1 (by decide) (by omega) (by decide)
  rw [show ((l.drop 16).take (20 - 16)) = l.drop 16 from List.take_of_length_le (by rw [List.length_drop]; omega)] at s16
  rw [List.drop_zero] at s0
  refine WOL.lr1 [some h.next,some h2.next,some h2.next] rfl rfl rfl fun M hM => ((k170 H (s16.relock M) (hb.drop 16) (by rw [List.length_drop]; omega) ((f.on X6).heldO hM (fun b hb => by simp at hb; have:=B1.lt; omega))).mono ?_)
  rintro v g3 ⟨rfl,X7⟩
  replace X7:HX g (g3.withLock g.lock):=X7.relock
  show ∀ a,Kn _ a → WO _ _ _ a (g3.withLock g.lock) _
  generalize g3.withLock g.lock = g3 at *
  have Y7:=X6.trans X7
  have h1lt:=B1.lt
  refine WOL.lr1 [some h.next,some h2.next,some h2.next] rfl rfl rfl fun M hM => ((k129 H ((s0.hx X7).relock M) (hb.take _) (by rw [List.length_take]; omega) ((f.on Y7).heldO hM (fun b hb => by simp at hb; have:=X7.next; omega))).mono ?_)
  rintro v g4 ⟨rfl,X8⟩
  replace X8:HX g3 (g4.withLock g3.lock):=X8.relock
  show ∀ a,Kn _ a → WO _ _ _ a (g4.withLock g3.lock) _
  generalize g4.withLock g3.lock = g4 at *
  have Z8:=X7.trans X8
  have Y8:=X6.trans Z8
  refine WOL.bi (v:=.bool (((numB (l.drop 16):Nat):Int) != tot (l.take 16))) rfl rfl rfl ?_
  refine WOL.lk2 rfl rfl rfl fun M => ((k77 H _ 27 _).mono ?_)
  rintro v g5 ⟨rfl,rfl⟩
  refine WOL.lk1 rfl rfl fun M => ((k99 H X ((slR (B4'.hx Z8)).relock M) hE (by simp)).mono ?_)
  rintro v g5 ⟨rfl,rfl⟩
  show ∀ a,Kn _ a → WO _ _ _ a g4 _
  refine WOL.lr1 [some h.next] rfl rfl rfl fun M hM => ((k117 H Y (h:=g4.withLock M) (s:=srcB l) (c:=cntB l) (x:=wrdB l 0) (y:=wrdB l 1) (z:=wrdB l 2) ss cc w0 w1 w2 ((f.on Y8).heldO hM (fun b hb => by simp at hb; have:=Z8.next; omega))).mono ?_)
  rintro v g5 ⟨rfl,X9⟩
  replace X9:HX g4 (g5.withLock g4.lock):=X9.relock
  show ∀ a,Kn _ a → WO _ _ _ a (g5.withLock g4.lock) _
  generalize g5.withLock g4.lock = g5 at *
  have Z9:=Z8.trans X9
  have Y9:=X6.trans Z9
  refine WOL.ne106 frameB_len hl rfl rfl ?_
  refine WOL.cl2 rfl rfl rfl ((k77 H _ 1 _).mono ?_)
  rintro v g6 ⟨rfl,rfl⟩
  refine WOL.bsl rfl u166 tp30 (by decide) (by decide) (by decide) (cs:=[_,_,_,_].map (.int .i64)) rfl fun g7 N7 => ?_
  have Z10:=Z9.trans N7.hx
  have Y10:=X6.trans Z10
  refine WOL.cl1 rfl rfl ((k71 H (l:=[_,_,_,_]) N7.at_.get (by simp)).mono ?_)
  rintro v g8 ⟨rfl,rfl⟩
  show ∀ a,Kn _ a → WO _ _ _ a _ _
  have B2':=B2.hx Z10
  have B4'':=B4'.hx Z10
  refine WOL.as rfl <| WOL.nil <| keep [(1,_),(2,_),(4,_),(8,_)] ⟨rfl,rfl,rfl,rfl,trivial⟩ ?_
  refine WL.seq <| WL.sr <| WOL.mv rfl <| WOL.bi rfl rfl nzero <| WOL.nil <| keep [(1,_),(2,_),(4,_),(8,_),(52,_)] ⟨rfl,rfl,rfl,rfl,rfl,trivial⟩ ?_
  show ∀ a,Kn [(1,_),(2,_),(4,_),(8,zi (decE l es)),(52,.bool (decE l es != 0))] a → _
  rcases nz_cases (decE l es) with h0 | h0
  ·rw [h0]
   refine WL.no rfl <| WL.skip ?_
   refine WL.sr <| WOL.ld rfl (load_row tp111 B4'' rfl (Nat.le_of_ble_eq_true rfl)) ?_
   refine WOL.sto rfl rfl tp111 B2' rfl rfl (Nat.le_of_ble_eq_true rfl) rfl (f.hx Y10) (by omega) fun g9 P9 => ?_
   refine WOL.as rfl <| WOL.nil ?_
   refine WL.ret (WL.endC1 rfl rfl (load_row tp111 P9.at_ rfl (Nat.le_of_ble_eq_true rfl)) ⟨?_,P9.hx _ Y10 (by omega)⟩)
   unfold decV
   rw [h0]
   rfl
  ·rw [h0]
   refine WL.yes rfl <| WL.sr <| WOL.bd rfl bd111z <| WOL.mv rfl ?_
   refine WOL.sto rfl rfl tp111 B2' rfl rfl (Nat.le_of_ble_eq_true rfl) rfl (f.hx Y10) (by omega) fun g9 P9 => ?_
   refine WOL.as rfl <| WOL.nil ?_
   refine WL.ret (WL.endC1 rfl rfl (load_row tp111 P9.at_ rfl (Nat.le_of_ble_eq_true rfl)) ⟨?_,P9.hx _ Y10 (by omega)⟩)
   unfold decV
   rw [h0]
   rfl
end
end Go.Tidy
namespace Go.Tidy
open Go Go.Proofs Tab
variable {tp:TProg}
section
variable {h:TH} {l:List Nat} {v:Value} {n k:Nat}
set_option maxRecDepth 10000 in
theorem k1031 (H:Has tp) (s:SlL encY 1 h v l) (hb:Byt l) (hl:l.length ≤ 4):CallW Tryz.prog tp (.func (.func 137) #[] #[]) #[v] h fun w h' => w = zi (numB l:Nat) ∧ h' = h:=by
 refine CallW.fnL (H.fn 137 f1031 rfl rfl) ?_
 refine WL.sr <| WOL.as rfl <| WOL.nil <| keep [(0,_)] ⟨rfl,trivial⟩ ?_
 refine WL.sr <| WOL.as rfl <| WOL.nil <| keep [(0,_),(3,_)] ⟨rfl,rfl,trivial⟩ ?_
 refine WL.seq <| WL.sr <| WOL.as rfl <| WOL.nil <| keep [(0,_),(3,_),(4,_)] ⟨rfl,rfl,rfl,trivial⟩ ?_
 refine WL.block ?_
 refine WL.loop (fun q a g => ∃ j:Nat,j ≤ l.length ∧ q = l.length - j ∧ g = h ∧ Kn [(0,v),(3,zi (numB (l.take j):Nat)),(4,zi (j:Nat))] a) l.length (fun a q => ⟨0,by omega,by omega,rfl,q.sub ⟨rfl,rfl,rfl,trivial⟩⟩) ?_
 rintro q a h ⟨j,hj,rfl,rfl,q⟩
 refine q.go ?_
 refine WL.seq <| WL.sr <| WOL.mv rfl <| WOL.mv rfl ?_
 refine WOL.len rfl s u116 ?_
 refine WOL.bi (v:=.bool (decide ((j:Int) < (l.length:Int)))) rfl rfl rfl <| WOL.nil <| keep [(0,_),(3,_),(4,_),(8,_)] ⟨rfl,rfl,rfl,rfl,trivial⟩ ?_
 by_cases hlt:j < l.length
 ·rw [show decide ((j:Int) < (l.length:Int)) = true from decide_eq_true (by omega)]
  obtain ⟨p,ip,lp⟩:=elemY s hlt
  have bt:=hb.at j
  have ti:numB (l.take j) < 256 ^ 4:=Nat.lt_of_lt_of_le (numB_lt hb j (by omega)) (Nat.pow_le_pow_right (by decide) (by omega))
  refine WL.yes rfl <| WL.skip ?_
  refine WL.seq <| WL.block <| WL.reg ?_
  refine WOL.mv rfl ?_
  refine WOL.bi (v:=zi ((256 * numB (l.take j):Nat):Int)) rfl rfl (by show some (Value.int .i64 (fwrap .i64 (256 * (numB (l.take j):Nat)))) = _; rw [fwrap_i64 (by omega) (by omega)]; rfl) ?_
  refine WOL.mv rfl <| WOL.mv rfl <| WOL.ix rfl rfl ip <| WOL.ld rfl lp <| WOL.convU u5 u3 rfl (by omega) (by omega) ?_
  refine WOL.add rfl rfl (by omega) (by omega) ?_
  refine WOL.as rfl <| WOL.nil <| keep [(0,_),(3,_),(4,_)] ⟨rfl,rfl,rfl,trivial⟩ ?_
  have e:(((256 * numB (l.take j):Nat):Int) + (l.getD j 0:Nat)) = ((numB (l.take (j + 1)):Nat):Int):=by rw [numB_step hlt]; omega
  rw [e]
  refine WL.reg ?_
  refine WOL.mv rfl <| WOL.bi (v:=zi ((j + 1:Nat):Int)) rfl rfl (by show some (Value.int .i64 (fwrap .i64 ((j:Int) + 1))) = _; rw [fwrap_i64 (by omega) (by omega)]; rfl) ?_
  refine WOL.as rfl <| WOL.nil ?_
  exact fun a q => ⟨l.length - (j + 1),by omega,j + 1,by omega,rfl,rfl,q.sub ⟨rfl,rfl,rfl,trivial⟩⟩
 ·rw [show decide ((j:Int) < (l.length:Int)) = false from decide_eq_false (by omega)]
  obtain rfl:j = l.length:=by omega
  refine WL.no rfl <| WL.exit ?_
  refine WL.sr <| WOL.mv rfl <| WOL.as rfl <| WOL.nil ?_
  rw [List.take_length]
  exact WL.done rfl ⟨rfl,rfl⟩
end
end Go.Tidy
namespace Go.Tidy
open Go Go.Proofs Tab
variable {tp:TProg}
section
variable {P:Program} {h:TH} {α:Type} {enc:α → List Value} {n0 n:Nat} {v v2:Value} {e:TypeId} {l m:List α} {z:List Value} {row:Bool}
end
section
variable {P:Program} {h:TH} {K:Regs → TH → Prop} {rest:List TOper} {d:Option Tmp} {ty:TypeId} {i:Nat} {L:Rg} {f x0 x1 l0:Operand} {ls:List Operand} {fv v0 v1:Value} {ts:Array TypeId}
end
theorem OwnL.relock {α:Type} {enc:α → List Value} {n0:Nat} {h:TH} {v:Value} {e:TypeId} {l:List α} (o:OwnL enc n0 h v e l) (M:List Nat):OwnL enc n0 (h.withLock M) v e l:=o.imp id fun ⟨h0,b,h1,h2,h3⟩ => ⟨h0,b,h1,h2,h3.relock M⟩
theorem fo1003_2:fieldOff Tryz.prog 84 2 = some 2:=by kernel_rfl
theorem tp1003:Tp Tryz.prog 84 5 [.int .i64 0,.int .i64 0,.float .f32 0,.float .f32 0,.float .f32 0] true:=tp_of (by kernel_rfl) (by kernel_rfl) rfl
theorem ix106 {c i:Nat} (hi:i < 20):indexAddrT Tryz.prog 85 (.pointer (some ⟨c,0,none⟩)) (zi (i:Nat)) = some (.pointer (some ⟨c,i,none⟩)):=by
 obtain ⟨inf,q1,q2,_⟩:=tp5.i
 have e:(decide ((0:Int) ≤ (i:Int)) && decide ((i:Int) < ((20:Nat):Int))) = true:=by
  rw [decide_eq_true (by omega),decide_eq_true (by omega)]; rfl
 simp only [indexAddrT,u106,e,Bool.cond_true,q1,Option.map_some,q2,Nat.mul_one,Int.toNat_natCast,Nat.zero_add]
theorem fill_setN {l:List Nat} {N i:Nat} (hl:l.length = N) (hi:i < l.length):(l.take i ++ List.replicate (N - i) 0).set i l[i] = l.take (i + 1) ++ List.replicate (N - (i + 1)) 0:=by
 subst hl
 exact fill_set l 0 i hi
section
variable {h:TH} {s c x y z:Nat}
end
end Go.Tidy
namespace Go.Tidy
open Go Go.Proofs Tab
variable {tp:TProg}
def hdF (l:List Nat):Int:=firstNZ [cond ((l.getD 0 0:Int) != 90) 1 0,cond (((numB (l.drop 16):Nat):Int) != tot (l.take 16)) 27 0]
def badW (l:List Nat):Nat → Bool
 | 0 => false
 | k + 1 => cond (badW l k) true (((wrdB l k:Nat):Int) == 2147483648)
def tlF (l:List Nat) (es:List Int):Int:=firstNZ [firstNZ es,cond (badW l 3) 1 0]
def decF (l:List Nat) (es:List Int):Int:=cond (hdF l != 0) (hdF l) (tlF l es)
def decR (l:List Nat) (es:List Int):Value:=cond (decF l es != 0) (.tuple #[pak 0 0 0 0 0,zi (decF l es)]) (.tuple #[pak (srcB l) (cntB l) (wrdB l 0) (wrdB l 1) (wrdB l 2),zi 0])
theorem bd1003 {a b:Int}:buildT Tryz.prog 84 [(0,.int .i64 a),(1,.int .i64 b)] = some (pak a b 0 0 0):=by kernel_rfl
theorem bd1003z:buildT Tryz.prog 84 [] = some (pak 0 0 0 0 0):=by kernel_rfl
theorem r9_step {h:TH} {K:Regs → TH → Prop} {v1 v2 v5 v7:Value} {b:Bool} {w:Int} (q:∀ a,Kn [(1,v1),(2,v2),(5,v5),(6,.bool (cond b true (w == 2147483648))),(7,v7),(8,zi w)] a → K a h):∀ a,Kn [(1,v1),(2,v2),(5,v5),(6,.bool b),(7,v7),(8,zi w)] a → WO Tryz.prog tp r1017_9 a h K:=by
 refine WOL.mv rfl <| WOL.mv rfl ?_
 cases b with
 | true => exact WOL.skp (b:=true) rfl rfl <| WOL.skp (b:=true) rfl rfl <| WOL.pkt rfl rfl <| WOL.as rfl <| WOL.nil <| keep [(1,_),(2,_),(5,_),(6,_),(7,_),(8,_)] ⟨rfl,rfl,rfl,rfl,rfl,rfl,trivial⟩ q
 | false => exact WOL.now (b:=false) rfl rfl <| WOL.mv rfl <| WOL.now (b:=false) rfl rfl <| WOL.bi (v:=.bool (w == 2147483648)) rfl rfl rfl <| WOL.pkf rfl rfl <| WOL.as rfl <| WOL.nil <| keep [(1,_),(2,_),(5,_),(6,_),(7,_),(8,_)] ⟨rfl,rfl,rfl,rfl,rfl,rfl,trivial⟩ q
section
variable {h:TH} {l:List Nat} {es:List Int}
set_option maxHeartbeats 4000000 in
set_option maxRecDepth 10000 in
theorem k1017 (H:Has tp) (Y:HasY tp) (hl:l.length = 20) (hb:Byt l) (hE:SErr [wrdB l 0,wrdB l 1,wrdB l 2] es) (f:Free0 h.next h):CallW Tryz.prog tp (.func (.func 63) #[] #[]) #[.agg (cat encY l).toArray] h fun v h' => v = decR l es ∧ HX h h':=by
 refine CallW.fnL (H.fn 63 f1017 rfl rfl) ?_
 have cl:(cat encY l).length = 20:=by rw [eY.cat_len,hl]
 refine WL.sr <| WOL.box rfl fun h1 N1 => WOL.al tp1003 fun h2 N2 => WOL.as rfl <| WOL.nil <| keep [(1,_),(2,_)] ⟨rfl,rfl,trivial⟩ ?_
 have A1:At h2 h.next (.cells (cat encY l) true true 85):=N1.at_.hx N2.hx
 have A2:=N2.at_
 have X2:=N1.hx.trans N2.hx
 have n1:=N1.next
 have n2:=N2.next
 have b0:=hb.at 0
 have b1:=hb.at 1
 have w0:=wrdB_lt hb 0
 have w1:=wrdB_lt hb 1
 have w2:=wrdB_lt hb 2
 have cc:=cntB_lt hb
 have ss:srcB l < 256:=b1
 have cg:∀ j,j < 20 → (cat encY l)[j]? = some (.int .u8 (l.getD j 0:Nat)):=fun j hj => by
  rw [cat_Y,List.getElem?_map,List.getD_eq_getElem?_getD,List.getElem?_eq_getElem (by omega:j < l.length)]
  rfl
 refine WL.seq <| WL.sr <| WOL.ix rfl rfl ix106_0 ?_
 refine WOL.ld rfl (load_one tp5 A1 (cg 0 (by decide))) ?_
 refine WOL.bi (v:=.bool ((l.getD 0 0:Int) != 90)) rfl rfl rfl ?_
 refine WOL.slG rfl rfl rfl rfl (sliceA u106 tp5 A1 (l:=16) (hh:=20) (m:=20) rfl) ?_
 refine WOL.slG rfl rfl rfl rfl (sliceA u106 tp5 A1 (l:=0) (hh:=16) (m:=20) rfl) ?_
 refine WOL.lk2 rfl rfl rfl fun M => ((k32 H _ 1 _).mono ?_)
 rintro v g ⟨rfl,rfl⟩
 have sD:=slY (lo:=16) (hi:=20) (m:=20) A1 (by decide) (by omega) (by decide)
 have eD:(l.drop 16).take (20 - 16) = l.drop 16:=List.take_of_length_le (by rw [List.length_drop]; omega)
 rw [eD] at sD
 have sT:=slY (lo:=0) (hi:=16) (m:=20) A1 (by decide) (by omega) (by decide)
 rw [List.drop_zero,Nat.sub_zero] at sT
 refine WOL.lk1 rfl rfl fun M => ((k1031 H (sD.relock M) (hb.drop _) (by rw [List.length_drop]; omega)).mono ?_)
 rintro v g ⟨rfl,rfl⟩
 show ∀ a,Kn _ a → WO _ _ _ a h2 _
 refine WOL.cl1 rfl rfl ((k70 H sT (hb.take _) (by rw [List.length_take]; omega)).mono ?_)
 rintro v g ⟨rfl,rfl⟩
 refine WOL.bi (v:=.bool (((numB (l.drop 16):Nat):Int) != tot (l.take 16))) rfl rfl rfl ?_
 refine WOL.cl2 rfl rfl rfl ((k32 H _ 27 _).mono ?_)
 rintro v g ⟨rfl,rfl⟩
 refine WOL.bsl rfl u29 tp3 (by decide) (by decide) (by decide) (cs:=[_,_].map (.int .i64)) rfl fun h3 N3 => ?_
 have n3:=N3.next
 have X3:=X2.trans N3.hx
 refine WOL.cl1 rfl rfl ((k13 H (l:=[_,_]) N3.at_.get (by simp)).mono ?_)
 rintro v g ⟨rfl,e3⟩
 replace e3:=e3.symm
 subst e3
 refine WOL.as rfl <| WOL.nil <| keep [(1,_),(2,_),(4,_)] ⟨rfl,rfl,rfl,trivial⟩ ?_
 refine WL.sr <| WOL.mv rfl <| WOL.bi rfl rfl nzero <| WOL.nil <| keep [(1,_),(2,_),(4,_),(23,_)] ⟨rfl,rfl,rfl,rfl,trivial⟩ ?_
 show ∀ a,Kn [(1,_),(2,_),(4,zi (hdF l)),(23,.bool (hdF l != 0))] a → _
 rcases nz_cases (hdF l) with h0 | h0
 rotate_left
 ·rw [h0]
  refine WL.yes rfl <| WL.sr <| WOL.bd rfl bd1003z <| WOL.mv rfl ?_
  refine WOL.sto rfl rfl tp1003 (A2.hx N3.hx) rfl rfl (Nat.le_of_ble_eq_true rfl) rfl (f.hx X3) (by omega) fun g9 P9 => ?_
  refine WOL.as rfl <| WOL.nil ?_
  refine WL.ret (WL.endC1 rfl rfl (load_row tp1003 P9.at_ rfl (Nat.le_of_ble_eq_true rfl)) ⟨?_,P9.hx _ X3 (by omega)⟩)
  have e:decF l es = hdF l:=by unfold decF; rw [h0]; rfl
  unfold decR
  rw [e,h0]
  rfl
 have eF:decF l es = tlF l es:=by unfold decF; rw [h0]; rfl
 rw [h0]
 refine WL.no rfl <| WL.skip ?_
 refine keep [(1,_),(2,_)] ⟨rfl,rfl,trivial⟩ ?_
 have A3:=A1.hx N3.hx
 refine WL.sr <| WOL.ix rfl rfl ix106_1 ?_
 refine WOL.ld rfl (load_one tp5 A3 (cg 1 (by decide))) <| WOL.convU u5 u3 rfl (by omega) (by omega) ?_
 refine WOL.slG rfl rfl rfl rfl (sliceA u106 tp5 A3 (l:=2) (hh:=4) (m:=20) rfl) ?_
 refine WOL.al tp1003 fun h4 N4 => ?_
 have n4:=N4.next
 have X4:=X3.trans N4.hx
 have A4:=A3.hx N4.hx
 refine WOL.lk1 rfl rfl fun M => ((k1031 H ((slY (lo:=2) (hi:=4) (m:=20) A4 (by decide) (by omega) (by decide)).relock M) ((hb.drop 2).take _) (by rw [List.length_take]; omega)).mono ?_)
 rintro v g ⟨rfl,rfl⟩
 show ∀ a,Kn _ a → WO _ _ _ a h4 _
 refine WOL.bd rfl bd1003 ?_
 refine WOL.sto rfl rfl tp1003 N4.at_ rfl rfl (Nat.le_of_ble_eq_true rfl) rfl (f.hx X4) (by omega) fun h5 P5 => ?_
 have Y5:=P5.hx _ X4 (by omega)
 have n5:=P5.next
 have A15:At h5 h.next (.cells (cat encY l) true true 85):=P5.oth _ _ (by omega) A4
 have A25:=P5.oth h1.next _ (by omega) ((A2.hx N3.hx).hx N4.hx)
 have A45:At h5 h3.next (.cells (pakC (srcB l) (cntB l) (wrdB l) 0) true true 84):=P5.at_
 refine WOL.nil <| keep [(1,_),(2,_),(5,_)] ⟨rfl,rfl,rfl,trivial⟩ ?_
 refine WL.sr <| WOL.as rfl <| WOL.nil <| keep [(1,_),(2,_),(5,_),(6,_)] ⟨rfl,rfl,rfl,rfl,trivial⟩ ?_
 refine WL.seq <| WL.sr <| WOL.as rfl <| WOL.nil <| keep [(1,_),(2,_),(5,_),(6,_),(7,_)] ⟨rfl,rfl,rfl,rfl,rfl,trivial⟩ ?_
 refine WL.block ?_
 refine WL.loop (fun q a g => ∃ k:Nat,k ≤ 3 ∧ q = 3 - k ∧ HX h g ∧ h3.next < g.next ∧ At g h.next (.cells (cat encY l) true true 85) ∧ At g h1.next (.cells [.int .i64 0,.int .i64 0,.float .f32 0,.float .f32 0,.float .f32 0] true true 84) ∧ At g h3.next (.cells (pakC (srcB l) (cntB l) (wrdB l) k) true true 84) ∧ Kn [(1,ptr h.next),(2,ptr h1.next),(5,ptr h3.next),(6,.bool (badW l k)),(7,zi (k:Nat))] a) 3 (fun a q => ⟨0,by omega,by omega,Y5,A45.lt,A15,A25,A45,q.sub ⟨rfl,rfl,rfl,rfl,rfl,trivial⟩⟩) ?_
 rintro q a g ⟨k,hk,rfl,X6,hg,B1,B2,B4,q⟩
 refine q.go ?_
 refine WL.seq <| WL.sr <| WOL.mv rfl ?_
 refine WOL.bi (v:=.bool (decide ((k:Int) < 3))) rfl rfl rfl <| WOL.nil <| keep [(1,_),(2,_),(5,_),(6,_),(7,_),(33,_)] ⟨rfl,rfl,rfl,rfl,rfl,rfl,trivial⟩ ?_
 by_cases hk3:k < 3
 ·rw [show decide ((k:Int) < 3) = true from decide_eq_true (by omega)]
  refine WL.yes rfl <| WL.skip ?_
  refine WL.seq <| WL.block ?_
  refine WL.sr <| WOL.mv rfl ?_
  refine WOL.bi (v:=zi ((4 * k:Nat):Int)) rfl rfl (by show some (Value.int .i64 (fwrap .i64 (4 * (k:Int)))) = _; rw [fwrap_i64 (by omega) (by omega)]; rfl) ?_
  refine WOL.bi (v:=zi ((4 + 4 * k:Nat):Int)) rfl rfl (by show some (Value.int .i64 (fwrap .i64 (4 + ((4 * k:Nat):Int)))) = _; rw [fwrap_i64 (by omega) (by omega)]; congr 2) ?_
  refine WOL.mv rfl ?_
  refine WOL.bi (v:=zi ((4 * k:Nat):Int)) rfl rfl (by show some (Value.int .i64 (fwrap .i64 (4 * (k:Int)))) = _; rw [fwrap_i64 (by omega) (by omega)]; rfl) ?_
  refine WOL.bi (v:=zi ((8 + 4 * k:Nat):Int)) rfl rfl (by show some (Value.int .i64 (fwrap .i64 (8 + ((4 * k:Nat):Int)))) = _; rw [fwrap_i64 (by omega) (by omega)]; congr 2) ?_
  refine WOL.slG rfl rfl rfl rfl (sliceA u106 tp5 B1 (cut_at hk3)) ?_
  have sl:=slY (lo:=4 + 4 * k) (hi:=8 + 4 * k) (m:=20) B1 (by omega) (by omega) (by omega)
  rw [show 8 + 4 * k - (4 + 4 * k) = 4 by omega] at sl ⊢
  have wk:=wrdB_lt hb k
  refine WOL.cl1 rfl rfl ((k1031 H sl ((hb.drop _).take _) (by rw [List.length_take]; omega)).mono ?_)
  rintro v g2 ⟨rfl,rfl⟩
  refine WOL.as rfl <| WOL.nil <| keep [(1,_),(2,_),(5,_),(6,_),(7,_),(8,_)] ⟨rfl,rfl,rfl,rfl,rfl,rfl,trivial⟩ ?_
  show ∀ a,Kn [(1,ptr h.next),(2,ptr h1.next),(5,ptr h3.next),(6,.bool (badW l k)),(7,zi (k:Nat)),(8,zi (wrdB l k:Nat))] a → _
  refine WL.sr <| r9_step ?_
  show ∀ a,Kn [(1,ptr h.next),(2,ptr h1.next),(5,ptr h3.next),(6,.bool (badW l (k + 1))),(7,zi (k:Nat)),(8,zi (wrdB l k:Nat))] a → _
  refine WL.reg <| WOL.mv rfl <| WOL.mv rfl <| WOL.cvw u3 u216 rfl ?_
  rw [u32_wrap,Int.emod_eq_of_lt (by omega) (by omega)]
  refine WOL.x1E (v:=.float .f32 (wrdB l k)) rfl Y.no2 Y.back rfl rfl (word_exact wk) ?_
  refine WOL.fa rfl (fa_of fo1003_2) <| WOL.ix rfl rfl (ix109 hk3) ?_
  refine WOL.sto rfl rfl tp25 B4 rfl rfl (by show 2 + k + 1 ≤ 5; omega) rfl (f.hx X6) (by omega) fun g3 P3 => ?_
  have C4:At g3 h3.next (.cells (splice (pakC (srcB l) (cntB l) (wrdB l) k) (2 + k) [.float .f32 (wrdB l k)]) true true 84):=P3.at_
  rw [pakC_next hk3] at C4
  have p3:=P3.next
  refine WOL.nil ?_
  refine WL.reg <| WOL.mv rfl ?_
  refine WOL.bi (v:=zi ((k + 1:Nat):Int)) rfl rfl (by show some (Value.int .i64 (fwrap .i64 ((k:Int) + 1))) = _; rw [fwrap_i64 (by omega) (by omega)]; rfl) ?_
  refine WOL.as rfl <| WOL.nil ?_
  exact fun a q => ⟨3 - (k + 1),by omega,k + 1,by omega,rfl,P3.hx _ X6 (by omega),by omega,P3.oth _ _ (by omega) B1,P3.oth _ _ (by omega) B2,C4,q.sub ⟨rfl,rfl,rfl,rfl,rfl,trivial⟩⟩
 ·rw [show decide ((k:Int) < 3) = false from decide_eq_false (by omega)]
  obtain rfl:k = 3:=by omega
  refine WL.no rfl <| WL.exit ?_
  have B4':At g h3.next (.cells [zi (srcB l),zi (cntB l),.float .f32 (wrdB l 0),.float .f32 (wrdB l 1),.float .f32 (wrdB l 2)] true true 84):=B4
  refine WL.seq <| WL.sr <| WOL.fa rfl (fa_of fo1003_2) ?_
  refine WOL.slG rfl rfl rfl rfl (sliceA u109 tp25 B4' rfl) ?_
  refine WOL.cl1 rfl rfl ((k141 H (slR B4') hE (by simp)).mono ?_)
  rintro v g5 ⟨rfl,rfl⟩
  refine WOL.mv rfl <| WOL.cl2 rfl rfl rfl ((k32 H _ 1 _).mono ?_)
  rintro v g6 ⟨rfl,rfl⟩
  refine WOL.bsl rfl u29 tp3 (by decide) (by decide) (by decide) (cs:=[_,_].map (.int .i64)) rfl fun g7 N7 => ?_
  have Y10:=X6.trans N7.hx
  have n7:=N7.next
  refine WOL.cl1 rfl rfl ((k13 H (l:=[_,_]) N7.at_.get (by simp)).mono ?_)
  rintro v g8 ⟨rfl,rfl⟩
  have B2':=B2.hx N7.hx
  have B4'':=B4'.hx N7.hx
  refine WOL.as rfl <| WOL.nil <| keep [(1,_),(2,_),(5,_),(9,_)] ⟨rfl,rfl,rfl,rfl,trivial⟩ ?_
  refine WL.sr <| WOL.mv rfl <| WOL.bi rfl rfl nzero <| WOL.nil <| keep [(1,_),(2,_),(5,_),(9,_),(63,_)] ⟨rfl,rfl,rfl,rfl,rfl,trivial⟩ ?_
  show ∀ a,Kn [(1,_),(2,_),(5,_),(9,zi (tlF l es)),(63,.bool (tlF l es != 0))] a → _
  rcases nz_cases (tlF l es) with h1' | h1'
  ·rw [h1']
   refine WL.no rfl <| WL.skip ?_
   refine WL.sr <| WOL.ld rfl (load_row tp1003 B4'' rfl (Nat.le_of_ble_eq_true rfl)) ?_
   refine WOL.sto rfl rfl tp1003 B2' rfl rfl (Nat.le_of_ble_eq_true rfl) rfl (f.hx Y10) (by omega) fun g9 P9 => ?_
   refine WOL.as rfl <| WOL.nil ?_
   refine WL.ret (WL.endC1 rfl rfl (load_row tp1003 P9.at_ rfl (Nat.le_of_ble_eq_true rfl)) ⟨?_,P9.hx _ Y10 (by omega)⟩)
   unfold decR
   rw [eF,h1']
   rfl
  ·rw [h1']
   refine WL.yes rfl <| WL.sr <| WOL.bd rfl bd1003z <| WOL.mv rfl ?_
   refine WOL.sto rfl rfl tp1003 B2' rfl rfl (Nat.le_of_ble_eq_true rfl) rfl (f.hx Y10) (by omega) fun g9 P9 => ?_
   refine WOL.as rfl <| WOL.nil ?_
   refine WL.ret (WL.endC1 rfl rfl (load_row tp1003 P9.at_ rfl (Nat.le_of_ble_eq_true rfl)) ⟨?_,P9.hx _ Y10 (by omega)⟩)
   unfold decR
   rw [eF,h1']
   rfl
end
end Go.Tidy
namespace Go.Tidy
open Go Go.Proofs Tab
theorem numB_div {l:List Nat} (hb:Byt l):∀ d j,j + d = l.length → numB l / 256 ^ d = numB (l.take j)
 | 0,j,h => by
  rw [List.take_of_length_le (by omega),Nat.pow_zero,Nat.div_one]
 | d + 1,j,h => by
  rw [Nat.pow_succ,← Nat.div_div_eq_div_mul,numB_div hb d (j + 1) (by omega),numB_step (by omega)]
  have:=hb.at j
  omega
theorem bytesB {m:List Nat} (hb:Byt m):bytesN (numB m) m.length = m:=by
 refine List.ext_getElem bytesN_len fun i h1 h2 => ?_
 have e:(bytesN (numB m) m.length)[i] = bytN (numB m) m.length i:=by simp [bytesN]
 rw [e]
 unfold bytN
 rw [show (2:Nat) ^ (8 * (m.length - 1 - i)) = 256 ^ (m.length - 1 - i) by rw [Nat.pow_mul],numB_div hb (m.length - 1 - i) (i + 1) (by omega),numB_step h2]
 have:=hb.at i
 rw [List.getD_eq_getElem?_getD,List.getElem?_eq_getElem h2] at this ⊢
 simp only [Option.getD_some] at this ⊢
 omega
theorem bytesB' {m:List Nat} {k:Nat} (hb:Byt m) (hk:m.length = k):bytesN (numB m) k = m:=hk ▸ bytesB hb
theorem wordF_id {w:Nat} (h:w < 4294967296) (hn:(((w:Nat):Int) == 2147483648) = false):wordF w = w:=by
 have:¬ (w:Int) = 2147483648:=by simpa using hn
 unfold wordF zeroF
 by_cases h0:w % 2147483648 = 0
 ·rw [decide_eq_true h0]
  show 0 = w
  omega
 ·rw [decide_eq_false h0]; rfl
theorem wordF_bad {w:Nat} (hn:(((w:Nat):Int) == 2147483648) = true):w = 2147483648 ∧ wordF w = 0:=by
 have:(w:Int) = 2147483648:=by simpa using hn
 obtain rfl:w = 2147483648:=by omega
 exact ⟨rfl,rfl⟩
theorem part_f {s c x y z:Nat} {k:Nat} (hk:k < 3):((frameB s c x y z).drop (4 + 4 * k)).take 4 = bytesN (wordF (wd x y z k)) 4:=by
 obtain rfl | rfl | rfl:k = 0 ∨ k = 1 ∨ k = 2:=by omega
 ·rfl
 ·rfl
 ·rfl
theorem cut_body (l:List Nat) (hl:l.length = 20):l.take 16 = [l.getD 0 0,l.getD 1 0] ++ (l.drop 2).take 2 ++ (l.drop 4).take 4 ++ (l.drop 8).take 4 ++ (l.drop 12).take 4:=by
 match l,hl with
 | [_,_,_,_,_,_,_,_,_,_,_,_,_,_,_,_,_,_,_,_],_ => rfl
theorem bad_at {l:List Nat} (h:badW l 3 = true):∃ k,k < 3 ∧ (((wrdB l k:Nat):Int) == 2147483648) = true:=by
 by_cases h0:(((wrdB l 0:Nat):Int) == 2147483648) = true
 ·exact ⟨0,by decide,h0⟩
 by_cases h1:(((wrdB l 1:Nat):Int) == 2147483648) = true
 ·exact ⟨1,by decide,h1⟩
 by_cases h2:(((wrdB l 2:Nat):Int) == 2147483648) = true
 ·exact ⟨2,by decide,h2⟩
 rw [Bool.not_eq_true] at h0 h1 h2
 unfold badW badW badW badW at h
 rw [h0,h1,h2] at h
 cases h
theorem bad_not {l:List Nat} (h:badW l 3 = false):∀ k,k < 3 → (((wrdB l k:Nat):Int) == 2147483648) = false:=by
 unfold badW badW badW badW at h
 intro k hk
 cases h0:(((wrdB l 0:Nat):Int) == 2147483648) <;> rw [h0] at h <;> try cases h
 cases h1:(((wrdB l 1:Nat):Int) == 2147483648) <;> rw [h1] at h <;> try cases h
 obtain rfl | rfl | rfl:k = 0 ∨ k = 1 ∨ k = 2:=by omega
 ·exact h0
 ·exact h1
 ·exact h
theorem wd_wrd {l:List Nat} {k:Nat} (hk:k < 3):wd (wrdB l 0) (wrdB l 1) (wrdB l 2) k = wrdB l k:=by
 obtain rfl | rfl | rfl:k = 0 ∨ k = 1 ∨ k = 2:=by omega
 ·rfl
 ·rfl
 ·rfl
theorem again {l:List Nat} (hl:l.length = 20) (hb:Byt l) (h90:l.getD 0 0 = 90) (ht:((numB (l.drop 16):Nat):Int) = tot (l.take 16)):(!decide (frameB (srcB l) (cntB l) (wrdB l 0) (wrdB l 1) (wrdB l 2) = l)) = badW l 3:=by
 cases h:badW l 3 with
 | true =>
  obtain ⟨k,hk,hw⟩:=bad_at h
  obtain ⟨e1,e2⟩:=wordF_bad hw
  rw [decide_eq_false]
  ·rfl
  intro e
  have p:=part_f (s:=srcB l) (c:=cntB l) (x:=wrdB l 0) (y:=wrdB l 1) (z:=wrdB l 2) hk
  rw [e,wd_wrd hk,e2] at p
  have q:wrdB l k = numB (bytesN 0 4):=by rw [← p]; rfl
  rw [e1] at q
  exact absurd q (by decide)
 | false =>
  have nb:=bad_not h
  have e0:=wordF_id (wrdB_lt hb 0) (nb 0 (by decide))
  have e1:=wordF_id (wrdB_lt hb 1) (nb 1 (by decide))
  have e2:=wordF_id (wrdB_lt hb 2) (nb 2 (by decide))
  have hB:bodyB (srcB l) (cntB l) (wrdB l 0) (wrdB l 1) (wrdB l 2) = l.take 16:=by
   have:bodyB (srcB l) (cntB l) (wrdB l 0) (wrdB l 1) (wrdB l 2) = [90,srcB l] ++ bytesN (cntB l) 2 ++ bytesN (wordF (wrdB l 0)) 4 ++ bytesN (wordF (wrdB l 1)) 4 ++ bytesN (wordF (wrdB l 2)) 4:=rfl
   rw [this,e0,e1,e2,cut_body l hl,h90]
   unfold srcB cntB wrdB
   rw [bytesB' (k:=2) ((hb.drop _).take _) (by simp [hl]),bytesB' (k:=4) ((hb.drop _).take _) (by simp [hl]),bytesB' (k:=4) ((hb.drop _).take _) (by simp [hl]),bytesB' (k:=4) ((hb.drop _).take _) (by simp [hl])]
  have hF:frameB (srcB l) (cntB l) (wrdB l 0) (wrdB l 1) (wrdB l 2) = l:=by
   unfold frameB
   rw [hB,← ht,Int.toNat_natCast,bytesB' (k:=4) (hb.drop _) (by simp [hl]),List.take_append_drop]
  rw [decide_eq_true hF]
  rfl
theorem decE_eq {l:List Nat} {es:List Int} (hl:l.length = 20) (hb:Byt l):decE l es = decF l es:=by
 unfold decE decF tlF hdF
 by_cases h0:(l.getD 0 0:Int) = 90
 ·rw [show ((l.getD 0 0:Int) != 90) = false by rw [h0]; rfl]
  by_cases h1:((numB (l.drop 16):Nat):Int) = tot (l.take 16)
  ·rw [show (((numB (l.drop 16):Nat):Int) != tot (l.take 16)) = false by simp [h1],again hl hb (by omega) h1]
   rfl
  ·rw [show (((numB (l.drop 16):Nat):Int) != tot (l.take 16)) = true by simp [h1]]
   rfl
 ·rw [show ((l.getD 0 0:Int) != 90) = true from bne_iff_ne.2 h0]
  rfl
theorem decV_eq {l:List Nat} {es:List Int} (hl:l.length = 20) (hb:Byt l):decV l es = decR l es:=by
 unfold decV decR
 rw [decE_eq hl hb]
end Go.Tidy
namespace Go.Tidy
open Go Go.Proofs Tab
variable {tp:TProg}
abbrev Pkt:=Int × Int × Nat × Nat × Nat
def encP (p:Pkt):List Value:=[zi p.1,zi p.2.1,.float .f32 p.2.2.1,.float .f32 p.2.2.2.1,.float .f32 p.2.2.2.2]
def pakP (p:Pkt):Value:=pak p.1 p.2.1 p.2.2.1 p.2.2.2.1 p.2.2.2.2
theorem eP:Enc encP 5:=⟨fun _ => rfl,fun _ => rfl⟩
theorem u1004:Tryz.prog.underlying 86 = some (.slice 84):=by kernel_rfl
theorem u113:Tryz.prog.underlying 96 = some (.slice 92):=by kernel_rfl
section
variable {h:TH} {p:Pkt} {v:Value} {l:List Pkt} {E:List Int}
end
end Go.Tidy
namespace Go.Tidy
open Go Go.Proofs Tab
variable {tp:TProg}
def gapN (a c:Nat):Nat:=(c + 65535 - a) % 65536
def seqAt (a j:Nat):Nat:=(a + 1 + j) % 65536
def gap (a c:Nat):List Int:=(List.range (gapN a c)).map fun j => ((seqAt a j:Nat):Int)
def more (o:Option Nat) (c:Nat):List Int:=match o with | none => [] | some a => gap a c
section
variable {h:TH} {v:Value} {l:List Pkt} {src:Int}
def LostA (L:List Int) (n0:Nat) (h:TH) (w:Value) (e:Int):Prop:=(L.length ≤ 256 ∧ e = 0 ∧ OwnL encI n0 h w 3 L) ∨ (256 < L.length ∧ e = 5 ∧ w = .slice none 0 0)
end
end Go.Tidy
namespace Go.Tidy
open Go Go.Proofs Tab
variable {tp:TProg}
def NoNan (p:Pkt):Prop:=nanB .f32 p.2.2.1 = false ∧ nanB .f32 p.2.2.2.1 = false ∧ nanB .f32 p.2.2.2.2 = false
theorem pakP_plain {p:Pkt} (h:NoNan p):plain (pakP p) = true:=by
 obtain ⟨h1,h2,h3⟩:=h
 simp [pakP,pak,plain,plain1,plain0,h1,h2,h3]
section
variable {h:TH} {v:Value} {l:List Pkt} {src:Int}
end
end Go.Tidy
namespace Go.Tidy
open Go Go.Proofs Tab
variable {tp:TProg}
theorem sampleE_nan {b:Nat} {e:Int} (h:SampleE b e) (h0:e = 0):nanB .f32 b = false:=by
 cases h with
 | nan h => cases h0
 | inf s h => cases h0
 | num neg m k h => exact not_nan h.read
section
variable {h:TH} {v:Value} {l:List Pkt} {E:List Int} {src:Int}
end
end Go.Tidy
namespace Go.Tidy
open Go Go.Proofs Tab
theorem u1003 : Tryz.prog.underlying 84 = some (.struct #[⟨"Source", 3, 0, false, "", "", 0⟩, ⟨"Counter", 3, 1, false, "", "", 8⟩, ⟨"Readings", 82, 2, false, "", "", 16⟩]) := by kernel_rfl
def SelfEq (b:Nat):Prop:=Op.floatEq .f32 b b = true
theorem pv_int_self {d:Nat} {n:Int}:pv Tryz.prog (Op.equalIn (d + 1) 3 (zi n) (zi n)) = some true:=by
 rw [Op.equalIn,pv_bind,pv_underlying u3,Option.bind_some]
 simp [pv_pure]
theorem pv_f_self {d b:Nat} (h:SelfEq b):pv Tryz.prog (Op.equalIn (d + 1) 25 (.float .f32 b) (.float .f32 b)) = some true:=by
 rw [Op.equalIn,pv_bind,pv_underlying u25,Option.bind_some]
 have:Op.floatEq .f32 b b = true:=h
 simp [pv_pure,this]
theorem pv_s25:pv Tryz.prog (sizeOf 25) = some 1:=by kernel_rfl
theorem part25 {x y z k:Nat} (hk:k < 3):pv Tryz.prog (Go.part 25 #[.float .f32 x,.float .f32 y,.float .f32 z] k) = some (.float .f32 (wd x y z k)):=by
 obtain rfl | rfl | rfl:k = 0 ∨ k = 1 ∨ k = 2:=by omega
 ·kernel_rfl
 ·kernel_rfl
 ·kernel_rfl
theorem pv_eq109 {d x y z:Nat} (hx:SelfEq x) (hy:SelfEq y) (hz:SelfEq z):pv Tryz.prog (Op.equalIn (d + 1 + 1) 82 (.agg #[.float .f32 x,.float .f32 y,.float .f32 z]) (.agg #[.float .f32 x,.float .f32 y,.float .f32 z])) = some true:=by
 rw [Op.equalIn,pv_bind,pv_underlying u109,Option.bind_some]
 simp only [Std.Legacy.Range.forIn_eq_forIn_range',Std.Legacy.Range.size,pv_bind,pv_s25,Option.bind_some]
 rw [show List.range' 0 ((3 - 0 + 1 - 1) / 1) 1 = [0,1,2] from rfl]
 have p0:=part25 (x:=x) (y:=y) (z:=z) (k:=0) (by decide)
 have p1:=part25 (x:=x) (y:=y) (z:=z) (k:=1) (by decide)
 have p2:=part25 (x:=x) (y:=y) (z:=z) (k:=2) (by decide)
 have s0:=pv_f_self (d:=d) hx
 have s1:=pv_f_self (d:=d) hy
 have s2:=pv_f_self (d:=d) hz
 simp only [wd] at p0 p1 p2
 simp [List.forIn_cons,pv_bind,pv_pure,p0,p1,p2,s0,s1,s2]
theorem stood1003:Tryz.prog.stoodInHeld 84 = false:=by kernel_rfl
theorem part1003 {s c:Int} {x y z:Nat}:pv Tryz.prog (Go.part 3 #[zi s,zi c,.float .f32 x,.float .f32 y,.float .f32 z] 0) = some (zi s) ∧ pv Tryz.prog (Go.part 3 #[zi s,zi c,.float .f32 x,.float .f32 y,.float .f32 z] 1) = some (zi c) ∧ pv Tryz.prog (Go.part 82 #[zi s,zi c,.float .f32 x,.float .f32 y,.float .f32 z] 2) = some (.agg #[.float .f32 x,.float .f32 y,.float .f32 z]) :=
 ⟨by kernel_rfl,by kernel_rfl,by kernel_rfl⟩
theorem pv_eq1003 {s c:Int} {x y z:Nat} (hx:SelfEq x) (hy:SelfEq y) (hz:SelfEq z):pv Tryz.prog (Op.equal 84 (pak s c x y z) (pak s c x y z)) = some true:=by
 show pv Tryz.prog (Op.equalIn (9996 + 1 + 1 + 1 + 1) 84 _ _) = _
 unfold pak
 rw [Op.equalIn,pv_bind,pv_underlying u1003,Option.bind_some]
 obtain ⟨p0,p1,p2⟩:=part1003 (s:=s) (c:=c) (x:=x) (y:=y) (z:=z)
 have i0:=pv_int_self (d:=9998) (n:=s)
 have i1:=pv_int_self (d:=9998) (n:=c)
 have i2:=pv_eq109 (d:=9997) hx hy hz
 simp [pv_bind,pv_pure,pv_program,stood1003,p0,p1,p2,i0,i1,i2]
end Go.Tidy
namespace Go.Tidy
open Go Go.Proofs Tab
variable {tp:TProg}
theorem self_eq {b:Nat} {e:Int} (h:SampleE b e) (h0:e = 0):SelfEq b:=by
 cases h with
 | nan h => cases h0
 | inf s h => cases h0
 | num neg m k h =>
  show (Ieee.single.order b b == some .eq) = true
  unfold Ieee.Format.order
  rw [h.read,order_num,cmp_self]
  rfl
def GoodW (p:Pkt):Prop:=NoNan p ∧ SelfEq p.2.2.1 ∧ SelfEq p.2.2.2.1 ∧ SelfEq p.2.2.2.2
theorem goodW_of {p:Pkt} {es:List Int} (h:SErr [p.2.2.1,p.2.2.2.1,p.2.2.2.2] es) (h0:firstNZ es = 0):GoodW p:=by
 have z:=firstNZ_zero h0
 obtain ⟨hl,hs⟩:=h
 match es,hl with
 | [e1,e2,e3],_ =>
  have z1:=z e1 (by simp)
  have z2:=z e2 (by simp)
  have z3:=z e3 (by simp)
  have s1:=hs 0 _ e1 rfl rfl
  have s2:=hs 1 _ e2 rfl rfl
  have s3:=hs 2 _ e3 rfl rfl
  exact ⟨⟨sampleE_nan s1 z1,sampleE_nan s2 z2,sampleE_nan s3 z3⟩,self_eq s1 z1,self_eq s2 z2,self_eq s3 z3⟩
theorem goodW_zero:GoodW (0,0,0,0,0):=⟨⟨by decide,by decide,by decide⟩,by unfold SelfEq; decide,by unfold SelfEq; decide,by unfold SelfEq; decide⟩
section
variable {h:TH} {K:Regs → TH → Prop} {rest:List TOper} {d:Option Tmp} {ty:TypeId} {i:Nat} {x y:Operand} {u:TypeId} {L:Rg} {l:List Nat}
end
end Go.Tidy
namespace Go.Tidy
open Go Go.Proofs Tab
def deP (l:List Nat) (e:Int):Pkt:=cond (e != 0) (0,0,0,0,0) (srcB l,cntB l,wrdB l 0,wrdB l 1,wrdB l 2)
theorem decR_eq {l:List Nat} {es:List Int}:decR l es = .tuple #[pakP (deP l (decF l es)),zi (decF l es)]:=by
 unfold decR deP
 cases h:decF l es != 0
 ·have:decF l es = 0:=by simpa using h
  rw [this]; rfl
 ·rfl
theorem deP_good {l:List Nat} {es:List Int} (hE:SErr [wrdB l 0,wrdB l 1,wrdB l 2] es):GoodW (deP l (decF l es)):=by
  unfold deP
  cases h:decF l es != 0
  · have h0:decF l es = 0:=by simpa using h
    have ht:tlF l es = 0:=by
      unfold decF at h0
      cases hh:hdF l != 0
      · rw [hh] at h0; exact h0
      · rw [hh] at h0
        have:hdF l ≠ 0:=by simpa using hh
        exact absurd h0 this
    have hz:firstNZ es = 0:=firstNZ_zero ht _ (by simp)
    exact goodW_of (p:=(srcB l,cntB l,wrdB l 0,wrdB l 1,wrdB l 2)) hE hz
  · exact goodW_zero
theorem LostA.hx {L:List Int} {n0:Nat} {g g':TH} {w:Value} {e:Int} (a:LostA L n0 g w e) (x:HX g g'):LostA L n0 g' w e :=
 a.imp (fun ⟨h1,h2,h3⟩ => ⟨h1,h2,h3.hx x⟩) id
end Go.Tidy
namespace Go.Tidy
def wsp (l:List (Int × Int)) (a b:Nat):List (Int × Int):=cond (Nat.beq a b) l (l ++ [((a:Int),(b:Int))])
def spn:List Nat → List (Int × Int) × Nat → List (Int × Int) × Nat
 | [],s => s
 | a :: P,s => spn P (wsp s.1 s.2 a,a + 20)
def spn0 (P:List Nat):List (Int × Int) × Nat:=spn P ([],0)
theorem spn_app:∀ (P:List Nat) (s:List (Int × Int) × Nat) (a:Nat),spn (P ++ [a]) s = (wsp (spn P s).1 (spn P s).2 a,a + 20)
 | [],_,_ => rfl
 | _ :: P,_,a => spn_app P _ a
theorem spn0_app {P:List Nat} {a:Nat}:spn0 (P ++ [a]) = (wsp (spn0 P).1 (spn0 P).2 a,a + 20):=spn_app P _ a
section
variable (n:Nat) (ok:Nat → Bool)
def isF (i:Nat):Bool:=Nat.ble (i + 20) n && ok i
def plc:Nat → List Nat
 | 0 => []
 | i + 1 => cond (Nat.ble (spn0 (plc i)).2 i && isF n ok i) (plc i ++ [i]) (plc i)
def nxt (i:Nat):Nat:=(spn0 (plc n ok i)).2
theorem plc_some {i:Nat} (h:nxt n ok i ≤ i) (g:isF n ok i = true):plc n ok (i + 1) = plc n ok i ++ [i]:=by
 show cond (Nat.ble (nxt n ok i) i && isF n ok i) _ _ = _
 rw [Nat.ble_eq_true_of_le h,g]
 rfl
theorem plc_not {i:Nat} (g:isF n ok i = false):plc n ok (i + 1) = plc n ok i:=by
 show cond (Nat.ble (nxt n ok i) i && isF n ok i) _ _ = _
 rw [g,Bool.and_false]
 rfl
theorem plc_in {i:Nat} (h:i < nxt n ok i):plc n ok (i + 1) = plc n ok i:=by
 show cond (Nat.ble (nxt n ok i) i && isF n ok i) _ _ = _
 have:Nat.ble (nxt n ok i) i = false:=by
  cases e:Nat.ble (nxt n ok i) i with
  | false => rfl
  | true => have:=Nat.le_of_ble_eq_true e; omega
 rw [this,Bool.false_and]
 rfl
theorem nxt_some {i:Nat} (h:nxt n ok i ≤ i) (g:isF n ok i = true):nxt n ok (i + 1) = i + 20:=by
 unfold nxt
 rw [plc_some n ok h g,spn0_app]
theorem plc_skip {i:Nat} (h:nxt n ok i ≤ i) (g:isF n ok i = true):∀ d,d < 20 → plc n ok (i + 1 + d) = plc n ok i ++ [i]
  | 0,_ => plc_some n ok h g
  | d + 1,hd => by
    have ih:=plc_skip h g d (by omega)
    have e:nxt n ok (i + 1 + d) = i + 20:=by
      unfold nxt
      rw [ih,spn0_app]
    rw [show i + 1 + (d + 1) = (i + 1 + d) + 1 by omega,plc_in n ok (by rw [e]; omega),ih]
theorem plc_frame {i:Nat} (h:nxt n ok i ≤ i) (g:isF n ok i = true):plc n ok (i + 20) = plc n ok i ++ [i]:=by
 have:=plc_skip n ok h g 19 (by omega)
 rw [← this]
theorem nxt_frame {i:Nat} (h:nxt n ok i ≤ i) (g:isF n ok i = true):nxt n ok (i + 20) = i + 20:=by
 unfold nxt
 rw [plc_frame n ok h g,spn0_app]
theorem plc_end {i:Nat} (h:n < i + 20):∀ d,plc n ok (i + d) = plc n ok i
 | 0 => rfl
 | d + 1 => by
  rw [← plc_end h d]
  refine plc_not n ok (i:=i + d) ?_
  unfold isF
  cases e:Nat.ble (i + d + 20) n with
  | false => rfl
  | true => have:=Nat.le_of_ble_eq_true e; omega
theorem plc_last {i:Nat} (h:n < i + 20) (hi:i ≤ n):plc n ok n = plc n ok i:=by
 have:=plc_end n ok h (n - i)
 rwa [show i + (n - i) = n by omega] at this
theorem plc_lt:∀ i a,a ∈ plc n ok i → a + 20 ≤ n ∧ ok a = true ∧ a < i
  | 0,_,h => by cases h
  | i + 1,a,h => by
    cases e:(Nat.ble (spn0 (plc n ok i)).2 i && isF n ok i) with
    | false =>
      replace h:a ∈ cond (Nat.ble (spn0 (plc n ok i)).2 i && isF n ok i) (plc n ok i ++ [i]) (plc n ok i):=h
      rw [e] at h
      obtain ⟨h1,h2,h3⟩:=plc_lt i a h
      exact ⟨h1,h2,by omega⟩
    | true =>
      replace h:a ∈ cond (Nat.ble (spn0 (plc n ok i)).2 i && isF n ok i) (plc n ok i ++ [i]) (plc n ok i):=h
      rw [e] at h
      rw [Bool.and_eq_true] at e
      have g:=e.2
      unfold isF at g
      rw [Bool.and_eq_true] at g
      rcases List.mem_append.1 h with h | h
      · obtain ⟨h1,h2,h3⟩:=plc_lt i a h
        exact ⟨h1,h2,by omega⟩
      · cases List.mem_singleton.1 h
        exact ⟨Nat.le_of_ble_eq_true g.1,g.2,by omega⟩
theorem plc_len:∀ i,(plc n ok i).length ≤ i
 | 0 => Nat.le_refl _
 | i + 1 => by
  have:=plc_len i
  show (cond (Nat.ble (spn0 (plc n ok i)).2 i && isF n ok i) (plc n ok i ++ [i]) (plc n ok i)).length ≤ i + 1
  cases (Nat.ble (spn0 (plc n ok i)).2 i && isF n ok i) with
  | false => exact Nat.le_succ_of_le this
  | true => show (plc n ok i ++ [i]).length ≤ i + 1; rw [List.length_append]; simp; exact this
def skp (i:Nat):List (Int × Int):=wsp (spn0 (plc n ok i)).1 (nxt n ok i) (max (nxt n ok i) i)
theorem mem_wsp {l:List (Int × Int)} {a b:Nat} {p:Int × Int} (h:p ∈ wsp l a b):p ∈ l ∨ (a ≠ b ∧ p = ((a:Int),(b:Int))):=by
 unfold wsp at h
 cases e:Nat.beq a b with
 | true => rw [e] at h; exact .inl h
 | false =>
  rw [e] at h
  rcases List.mem_append.1 h with h | h
  ·exact .inl h
  ·exact .inr ⟨fun e' => (by subst e'; rw [Nat.beq_refl] at e; cases e),List.mem_singleton.1 h⟩
theorem wsp_same {l:List (Int × Int)} {a:Nat}:wsp l a a = l:=by
 unfold wsp; rw [Nat.beq_refl]; rfl
theorem wsp_more {l:List (Int × Int)} {a b:Nat} (h:a < b):wsp l a b = l ++ [((a:Int),(b:Int))]:=by
 unfold wsp
 cases e:Nat.beq a b with
 | true => have:=Nat.eq_of_beq_eq_true e; omega
 | false => rfl
theorem spn_to:∀ i p,p ∈ (spn0 (plc n ok i)).1 → p.2 < (nxt n ok i:Int)
  | 0,_,h => by cases h
  | i + 1,p,h => by
    cases e:(Nat.ble (nxt n ok i) i && isF n ok i) with
    | true =>
      rw [Bool.and_eq_true] at e
      have l:=Nat.le_of_ble_eq_true e.1
      rw [plc_some n ok l e.2,spn0_app] at h
      rw [nxt_some n ok l e.2]
      rcases mem_wsp h with h | ⟨_,rfl⟩
      · have:=spn_to i p h
        omega
      · show ((i:Nat):Int) < ((i + 20:Nat):Int)
        omega
    | false =>
      have q:plc n ok (i + 1) = plc n ok i:=by
        show cond (Nat.ble (nxt n ok i) i && isF n ok i) _ _ = _
        rw [e]; rfl
      unfold nxt
      rw [q] at h ⊢
      exact spn_to i p h
theorem nxt_le:∀ i,nxt n ok i ≤ n
  | 0 => Nat.zero_le _
  | i + 1 => by
    cases e:(Nat.ble (nxt n ok i) i && isF n ok i) with
    | true =>
      rw [Bool.and_eq_true] at e
      have l:=Nat.le_of_ble_eq_true e.1
      rw [nxt_some n ok l e.2]
      have g:=e.2
      unfold isF at g
      rw [Bool.and_eq_true] at g
      exact Nat.le_of_ble_eq_true g.1
    | false =>
      have q:plc n ok (i + 1) = plc n ok i:=by
        show cond (Nat.ble (nxt n ok i) i && isF n ok i) _ _ = _
        rw [e]; rfl
      unfold nxt
      rw [q]
      exact nxt_le i
theorem skp_frame {i:Nat} (h:nxt n ok i ≤ i) (g:isF n ok i = true):skp n ok (i + 1) = skp n ok i:=by
 unfold skp
 rw [nxt_some n ok h g,plc_some n ok h g,spn0_app,Nat.max_eq_left (by omega),Nat.max_eq_right h,wsp_same]
 rfl
theorem skp_in {i:Nat} (h:i < nxt n ok i):skp n ok (i + 1) = skp n ok i:=by
 unfold skp nxt
 rw [plc_in n ok h]
 have h:i < (spn0 (plc n ok i)).2:=h
 rw [Nat.max_eq_left (by omega),Nat.max_eq_left (by omega)]
theorem nxt_not {i:Nat} (g:isF n ok i = false):nxt n ok (i + 1) = nxt n ok i:=by
 unfold nxt; rw [plc_not n ok g]
theorem nxt_in {i:Nat} (h:i < nxt n ok i):nxt n ok (i + 1) = nxt n ok i:=by
 have q:=plc_in n ok h
 unfold nxt; rw [q]
theorem skp_not {i:Nat} (h:nxt n ok i ≤ i) (g:isF n ok i = false):(∃ M x,skp n ok i = M ++ [(x,(i:Int))] ∧ skp n ok (i + 1) = M ++ [(x,((i + 1:Nat):Int))]) ∨ ((∀ p,p ∈ skp n ok i → p.2 ≠ (i:Int)) ∧ skp n ok (i + 1) = skp n ok i ++ [((i:Int),((i + 1:Nat):Int))]):=by
 unfold skp
 rw [nxt_not n ok g,plc_not n ok g,Nat.max_eq_right h,Nat.max_eq_right (show nxt n ok i ≤ i + 1 by omega)]
 rcases Nat.lt_or_eq_of_le h with l | l
 ·refine .inl ⟨(spn0 (plc n ok i)).1,(nxt n ok i:Int),wsp_more l,wsp_more (by omega)⟩
 ·refine .inr ⟨?_,?_⟩
  ·intro p hp
   rw [l,wsp_same] at hp
   have:=spn_to n ok i p hp
   omega
  ·rw [l,wsp_same]
   exact wsp_more (by omega)
theorem skp_end:skp n ok n = wsp (spn0 (plc n ok n)).1 (spn0 (plc n ok n)).2 n:=by
 unfold skp
 rw [Nat.max_eq_right (nxt_le n ok n)]
 rfl
theorem wsp_len {l:List (Int × Int)} {a b:Nat}:(wsp l a b).length ≤ l.length + 1:=by
 unfold wsp
 cases Nat.beq a b with
 | true => exact Nat.le_succ _
 | false => show (l ++ _).length ≤ _; rw [List.length_append]; exact Nat.le_refl _
theorem spn_len:∀ i,(spn0 (plc n ok i)).1.length ≤ i
  | 0 => Nat.le_refl _
  | i + 1 => by
    have ih:=spn_len i
    cases e:(Nat.ble (nxt n ok i) i && isF n ok i) with
    | true =>
      rw [Bool.and_eq_true] at e
      rw [plc_some n ok (Nat.le_of_ble_eq_true e.1) e.2,spn0_app]
      exact Nat.le_trans wsp_len (by omega)
    | false =>
      have q:plc n ok (i + 1) = plc n ok i:=by
        show cond (Nat.ble (nxt n ok i) i && isF n ok i) _ _ = _
        rw [e]; rfl
      rw [q]
      omega
theorem plc_pre {i:Nat}:∀ d,∃ r,plc n ok (i + d) = plc n ok i ++ r
  | 0 => ⟨[],(List.append_nil _).symm⟩
  | d + 1 => by
    obtain ⟨r,hr⟩:=plc_pre d
    cases e:(Nat.ble (spn0 (plc n ok (i + d))).2 (i + d) && isF n ok (i + d)) with
    | true =>
      refine ⟨r ++ [i + d],?_⟩
      show cond (Nat.ble (spn0 (plc n ok (i + d))).2 (i + d) && isF n ok (i + d)) (plc n ok (i + d) ++ [i + d]) (plc n ok (i + d)) = _
      rw [e,hr,List.append_assoc]
      rfl
    | false =>
      refine ⟨r,?_⟩
      show cond (Nat.ble (spn0 (plc n ok (i + d))).2 (i + d) && isF n ok (i + d)) (plc n ok (i + d) ++ [i + d]) (plc n ok (i + d)) = _
      rw [e,hr]
      rfl
theorem plc_next {i:Nat} (h:nxt n ok i ≤ i) (g:isF n ok i = true):(plc n ok i).length < (plc n ok n).length ∧ (plc n ok n).getD (plc n ok i).length 0 = i ∧ i + 20 ≤ n:=by
 have g':=g
 unfold isF at g'
 rw [Bool.and_eq_true] at g'
 have l:=Nat.le_of_ble_eq_true g'.1
 obtain ⟨r,hr⟩:=plc_pre n ok (i:=i + 1) (n - (i + 1))
 rw [show i + 1 + (n - (i + 1)) = n by omega,plc_some n ok h g,List.append_assoc] at hr
 rw [hr]
 refine ⟨?_,?_,l⟩
 ·rw [List.length_append]; simp
 ·rw [List.getD_eq_getElem?_getD,List.getElem?_append_right (Nat.le_refl _),Nat.sub_self]
  rfl
end
end Go.Tidy
namespace Go.Tidy
open Go Go.Proofs Tab
variable {tp:TProg}
def frm (l:List Nat) (i:Nat):List Nat:=(l.drop i).take 20
theorem frm_len {l:List Nat} {i:Nat} (h:i + 20 ≤ l.length):(frm l i).length = 20:=by unfold frm; rw [List.length_take,List.length_drop]; omega
theorem frm_byt {l:List Nat} (h:Byt l) (i:Nat):Byt (frm l i):=(h.drop i).take 20
def FmE (l:List Nat) (E:Nat → List Int):Prop:=∀ i,SErr [wrdB (frm l i) 0,wrdB (frm l i) 1,wrdB (frm l i) 2] (E i)
theorem fmE_ex (l:List Nat):∃ E,FmE l E:=⟨fun i => Classical.choose (serr_ex [wrdB (frm l i) 0,wrdB (frm l i) 1,wrdB (frm l i) 2]),fun i => Classical.choose_spec (serr_ex [wrdB (frm l i) 0,wrdB (frm l i) 1,wrdB (frm l i) 2])⟩
def okF (l:List Nat) (E:Nat → List Int) (i:Nat):Bool:=decF (frm l i) (E i) == 0
def pkF (l:List Nat) (i:Nat):Pkt:=(srcB (frm l i),cntB (frm l i),wrdB (frm l i) 0,wrdB (frm l i) 1,wrdB (frm l i) 2)
theorem okF_yes {l:List Nat} {E:Nat → List Int} {i:Nat} (h:okF l E i = true):decF (frm l i) (E i) = 0 ∧ deP (frm l i) (decF (frm l i) (E i)) = pkF l i:=by
 have e:decF (frm l i) (E i) = 0:=by unfold okF at h; simpa using h
 refine ⟨e,?_⟩
 rw [e]
 rfl
theorem okF_no {l:List Nat} {E:Nat → List Int} {i:Nat} (h:okF l E i = false):decF (frm l i) (E i) ≠ 0:=by
 unfold okF at h
 simpa using h
def pkL (l:List Nat) (P:List Nat):List Pkt:=P.map (pkF l)
def plcF (l:List Nat) (E:Nat → List Int) (i:Nat):List Nat:=plc l.length (okF l E) i
def nxtF (l:List Nat) (E:Nat → List Int) (i:Nat):Nat:=nxt l.length (okF l E) i
section
variable {h:TH} {l:List Nat} {E:Nat → List Int} {bo:Option Addr} {n k c:Nat}
theorem slice20 (s:SlL encY 1 h (.slice bo n k) l) (F:Fits h (.slice bo n k) 5) {i:Nat} (hi:i + 20 ≤ l.length) :
  ∃ q q':Addr,bo = some q ∧ sliceT Tryz.prog 106 (.slice (some q) n k) (some (zi (i:Nat))) (some (zi ((i:Nat) + 20))) none h = some (.slice (some q') 20 (k - i)) ∧ loadT Tryz.prog 85 (.pointer (some q')) h = some (.agg (cat encY (frm l i)).toArray):=by
 obtain ⟨bo',cap,e,h1,h2,h3⟩:=s
 cases e
 rcases h3 with ⟨_,h3⟩ | ⟨b,off,cc,fix,wr,el,rfl,A,e1,e2⟩
 ·omega
 obtain ⟨cc',fix',wr',el',A',hf⟩:=F b off l.length k rfl
 have ee:=A.get.symm.trans A'.get
 cases ee
 refine ⟨_,⟨b,off + i,none⟩,rfl,?_,?_⟩
 ·have:=sliceT_at (P:=Tryz.prog) (t:=106) (off:=off) (m:=l.length) (cap:=k) (lo:=i) (hi:=i + 20) (k:=.i64) (k':=.i64) u116 tp5 h1 (by omega) hi A hf
  rw [Nat.mul_one,show i + 20 - i = 20 by omega] at this
  exact this
 ·refine load_row tp106 A ?_ (by omega)
  have p:=eY.part l i 20
  rw [Nat.mul_one,Nat.mul_one] at p
  unfold frm
  rw [← p,← e1,List.drop_take,List.take_take,List.drop_drop,Nat.min_eq_left (by omega)]
theorem k120 (H:Has tp) (h:TH):CallW Tryz.prog tp (.func (.func 139) #[] #[]) #[.slice bo n k] h fun w h' => ∃ c,w = .func (.func 187) #[] #[ptr c] ∧ HX h h' ∧ At h' c (.cells [.slice bo n k] true true 106) ∧ h.next ≤ c:=by
 refine CallW.fnL (H.fn 139 f120 rfl rfl) ?_
 refine WL.sr <| WOL.box rfl fun h1 N1 => WOL.as rfl <| WOL.nil <| keep [(1,_)] ⟨rfl,trivial⟩ ?_
 refine WL.sr <| WOL.mf rfl <| WOL.as rfl <| WOL.nil ?_
 exact WL.done rfl ⟨_,rfl,N1.hx,N1.at_,Nat.le_refl _⟩
set_option maxHeartbeats 2000000 in
set_option maxRecDepth 10000 in
theorem y152 (H:Has tp) (X:HasX tp) (Y:HasY tp) (hb:Byt l) (hE:FmE l E) (hl:l.length ≤ 1000000) :
  Yields2 Tryz.prog tp (.func (.func 187) #[] #[ptr c]) (fun g => At g c (.cells [.slice bo n k] true true 106) ∧ SlL encY 1 g (.slice bo n k) l ∧ Fits g (.slice bo n k) 5 ∧ Free0 g.next g) (plcF l E l.length).length (fun j => zi ((plcF l E l.length).getD j 0:Nat)) fun j => pakP (pkF l ((plcF l E l.length).getD j 0)):=by
 intro h' yv I I0 hI hG step
 refine CallW.fnC (H.fn 187 f152 rfl rfl) ?_
 refine WL.sr <| WOL.as rfl <| WOL.nil <| keep [(0,_),(1,_),(3,_)] ⟨rfl,rfl,rfl,trivial⟩ ?_
 refine WL.block ?_
 refine WL.loop (fun q a g => ∃ i:Nat,i ≤ l.length ∧ q = l.length - i ∧ nxtF l E i ≤ i ∧ I (plcF l E i).length g ∧ Kn [(0,yv),(1,ptr c),(3,zi (i:Nat))] a) l.length (fun a q => ⟨0,by omega,by omega,Nat.le_refl _,I0,q.sub ⟨rfl,rfl,rfl,trivial⟩⟩) ?_
 rintro q a g ⟨i,hi,rfl,hx,q1,q⟩
 refine q.go ?_
 obtain ⟨A,s,F,f⟩:=hI _ g q1
 refine WL.seq <| WL.sr <| WOL.mv rfl <| WOL.add (m:=(i:Nat)) (n:=20) rfl rfl (by omega) (by omega) <| WOL.ld rfl (load_one tp116 A rfl) <| WOL.len rfl s u116 ?_
 refine WOL.bi (v:=.bool (decide ((i:Int) + 20 ≤ (l.length:Int)))) rfl rfl rfl <| WOL.nil <| keep [(0,_),(1,_),(3,_),(10,_)] ⟨rfl,rfl,rfl,rfl,trivial⟩ ?_
 by_cases hlt:i + 20 ≤ l.length
 ·rw [show decide ((i:Int) + 20 ≤ (l.length:Int)) = true from decide_eq_true (by omega)]
  obtain ⟨q0,q',rfl,sl,ld⟩:=slice20 s F hlt
  refine WL.yes rfl <| WL.skip ?_
  refine WL.block ?_
  refine WL.sr <| WOL.ld rfl (load_one tp116 A rfl) <| WOL.mv rfl <| WOL.mv rfl ?_
  refine WOL.add (m:=(i:Nat)) (n:=20) rfl rfl (by omega) (by omega) ?_
  refine WOL.sl rfl rfl rfl sl ?_
  refine WOL.sap u106 (by decide) (by decide) rfl <| WOL.ld rfl ld ?_
  refine WOL.cl1 rfl rfl ((k153 H X Y (frm_len hlt) (frm_byt hb i) (hE i) f).mono ?_)
  rintro w g1 ⟨rfl,X1⟩
  rw [decV_eq (frm_len hlt) (frm_byt hb i),decR_eq]
  refine WOL.mv rfl <| WOL.ex rfl rfl <| WOL.ex rfl rfl <| WOL.al tp111 fun g2 N2 => ?_
  refine WOL.sto rfl rfl tp111 N2.at_ rfl rfl (Nat.le_of_ble_eq_true rfl) rfl ((f.on X1).hx N2.hx) (Nat.le_refl _) fun g3 P3 => ?_
  have X3:HX g g3:=X1.trans (P3.hx _ N2.hx (Nat.le_refl _))
  have A4:=P3.at_
  refine WOL.as rfl <| WOL.nil <| keep [(0,_),(1,_),(3,_),(4,_),(5,_)] ⟨rfl,rfl,rfl,rfl,rfl,trivial⟩ ?_
  refine WL.seq <| WL.sr <| WOL.mv rfl ?_
  refine WOL.bi (v:=.bool (decF (frm l i) (E i) != 0)) rfl rfl rfl <| WOL.nil <| keep [(0,_),(1,_),(3,_),(4,_),(23,_)] ⟨rfl,rfl,rfl,rfl,rfl,trivial⟩ ?_
  cases ho:okF l E i with
  | false =>
   have g0:isF l.length (okF l E) i = false:=by unfold isF; rw [ho,Bool.and_false]
   rw [show (decF (frm l i) (E i) != 0) = true by have:=okF_no ho; simpa using this]
   refine WL.yes rfl <| WL.sr <| WOL.mv rfl <| WOL.add (m:=(i:Nat)) rfl rfl (by omega) (by omega) <| WOL.as rfl <| WOL.nil ?_
   refine WL.exit ?_
   refine fun a q => ⟨l.length - (i + 1),by omega,i + 1,by omega,rfl,?_,?_,q.sub ⟨rfl,rfl,rfl,trivial⟩⟩
   ·unfold nxtF; rw [nxt_not _ _ g0]; exact Nat.le_succ_of_le hx
   ·unfold plcF; rw [plc_not _ _ g0]; exact hG _ _ _ q1 X3
  | true =>
   have g0:isF l.length (okF l E) i = true:=by unfold isF; rw [ho,Bool.and_true]; exact ble_yes hlt
   obtain ⟨e1,e2⟩:=okF_yes ho
   obtain ⟨p1,p2,p3⟩:=plc_next _ _ hx g0
   rw [e1]
   refine WL.no rfl <| WL.skip ?_
   refine WL.seq <| WL.sr <| WOL.mv rfl <| WOL.mv rfl ?_
   rw [e2] at A4
   refine WOL.ld rfl (load_row tp111 A4 rfl (Nat.le_of_ble_eq_true rfl)) ?_
   have st:CallW Tryz.prog tp yv #[zi ((plcF l E l.length).getD (plcF l E i).length 0:Nat),pakP (pkF l ((plcF l E l.length).getD (plcF l E i).length 0))] g3 fun r g' => r = .bool true ∧ I ((plcF l E i).length + 1) g':=step (plcF l E i).length g3 p1 (hG _ _ _ q1 X3)
   rw [show (plcF l E l.length).getD (plcF l E i).length 0 = i from p2] at st
   refine WOL.cl2 rfl rfl rfl (st.mono ?_)
   rintro v g4 ⟨rfl,q4⟩
   refine WOL.nt rfl <| WOL.nil <| WL.no rfl <| WL.skip ?_
   refine WL.reg <| WOL.mv rfl <| WOL.add (m:=(i:Nat)) rfl rfl (by omega) (by omega) <| WOL.as rfl <| WOL.nil ?_
   refine fun a q => ⟨l.length - (i + 20),by omega,i + 20,by omega,rfl,?_,?_,q.sub ⟨rfl,rfl,rfl,trivial⟩⟩
   ·unfold nxtF; rw [nxt_frame _ _ hx g0]; exact Nat.le_refl _
   ·unfold plcF; rw [plc_frame _ _ hx g0,List.length_append]; exact q4
 ·rw [show decide ((i:Int) + 20 ≤ (l.length:Int)) = false from decide_eq_false (by omega)]
  refine WL.no rfl <| WL.exit ?_
  have e:plcF l E l.length = plcF l E i:=plc_last _ _ (by omega) hi
  rw [e]
  exact WL.endn rfl q1
theorem k121 (H:Has tp) {n0:Nat} {v:Value} {S:List (Int × Int)} {a b:Nat} (O:OwnL encS n0 h v 48 S) (f:Free0 n0 h) (hl:S.length < 1000000) (hn0:n0 ≤ h.next) :
  CallW Tryz.prog tp (.func (.func 140) #[] #[]) #[v,zi (a:Nat),zi (b:Nat)] h fun w h' => OwnL encS n0 h' w 48 (wsp S a b) ∧ (∀ h0,HX h0 h → h0.next ≤ n0 → HX h0 h') ∧ (∀ c y,bl v ≠ some c → At h c y → At h' c y) ∧ (bl w = bl v ∨ ∃ c,bl w = some c ∧ h.next ≤ c) ∧ h.next ≤ h'.next:=by
 refine CallW.fnL (H.fn 140 f121 rfl rfl) ?_
 refine WL.sr <| WOL.as rfl <| WOL.nil <| keep [(0,_),(1,_),(2,_)] ⟨rfl,rfl,rfl,trivial⟩ ?_
 refine WL.seq <| WL.sr <| WOL.mv rfl <| WOL.mv rfl ?_
 refine WOL.bi (v:=.bool ((a:Int) == (b:Int))) rfl rfl rfl <| WOL.nil <| keep [(0,_),(1,_),(2,_),(9,_)] ⟨rfl,rfl,rfl,rfl,trivial⟩ ?_
 by_cases e:a = b
 ·subst e
  rw [show ((a:Int) == (a:Int)) = true from beq_self_eq_true _]
  refine WL.yes rfl <| WL.sr <| WOL.mv rfl <| WOL.as rfl <| WOL.nil ?_
  refine WL.ret (WL.end_ rfl ?_)
  rw [wsp_same]
  exact ⟨O,fun _ x _ => x,fun _ _ _ x => x,.inl rfl,Nat.le_refl _⟩
 ·have e1:((a:Int) == (b:Int)) = false:=by
   cases q:((a:Int) == (b:Int)) with
   | false => rfl
   | true => have:=eq_of_beq q; omega
  rw [e1]
  refine WL.no rfl <| WL.skip ?_
  refine WL.sr <| WOL.mv rfl <| WOL.mv rfl <| WOL.mv rfl <| WOL.bd rfl bd48 <| WOL.bs2 rfl u44 tp48 fun h1 N1 => ?_
  obtain ⟨w2,g2,ap,O2,x2,k2,b2,n2⟩:=own_push (sT:=44) (x:=((a:Int),(b:Int))) eS u44 tp48 (O.hx N1.hx) (SlC.own (sz:=2) (m:=1) rfl N1.at_) (f.hx N1.hx) hl (Nat.le_trans hn0 N1.hx.next)
  refine WOL.ap rfl rfl ap <| WOL.as rfl <| WOL.nil ?_
  refine WL.done rfl ?_
  have ew:wsp S a b = S ++ [((a:Int),(b:Int))]:=by
   unfold wsp; rw [beq_no e]; rfl
  rw [ew]
  exact ⟨O2,fun h0 x hn => x2 h0 (x.trans N1.hx) hn,fun c y hc A => k2 c y hc (A.hx N1.hx),.inr ⟨_,b2,N1.hx.next⟩,Nat.le_trans N1.hx.next n2⟩
end
end Go.Tidy
namespace Go.Tidy
open Go Go.Proofs Tab
variable {tp:TProg}
theorem tp113:Tp Tryz.prog 96 1 [.slice none 0 0] false:=tp_of (by kernel_rfl) (by kernel_rfl) rfl
theorem spn_len':∀ (P:List Nat) (s:List (Int × Int) × Nat),(spn P s).1.length ≤ s.1.length + P.length
 | [],_ => Nat.le_refl _
 | a :: P,s => by
  have h1:=spn_len' P (wsp s.1 s.2 a,a + 20)
  have h2:=wsp_len (l:=s.1) (a:=s.2) (b:=a)
  show (spn P (wsp s.1 s.2 a,a + 20)).1.length ≤ s.1.length + (P.length + 1)
  have h3:(wsp s.1 s.2 a,a + 20).1.length ≤ s.1.length + 1:=h2
  omega
def RcvA (l:List Nat) (E:Nat → List Int) (h:TH) (w:Value):Prop :=
 (20480 < l.length ∧ w = .tuple #[.slice none 0 0,.slice none 0 0,zi 26]) ∨
 (l.length ≤ 20480 ∧ ∃ w1 w2,w = .tuple #[w1,w2,zi 0] ∧ SlL encP 5 h w1 (pkL l (plcF l E l.length)) ∧ SlL encS 2 h w2 (skp l.length (okF l E) l.length))
def RcJ (h:TH) (n0 c c5 c6 c7:Nat) (vs:Value) (l P:List Nat) (j:Nat) (g:TH):Prop :=
 HX h g ∧ n0 ≤ g.next ∧ At g c (.cells [vs] true true 106) ∧ ∃ w1 w2,At g c5 (.cells [w1] true true 96) ∧ At g c6 (.cells [w2] true true 44) ∧ At g c7 (.cells [zi ((spn0 (P.take j)).2:Nat)] true true 3) ∧ OwnL encP n0 g w1 92 (pkL l (P.take j)) ∧ OwnL encS n0 g w2 48 (spn0 (P.take j)).1 ∧ ∀ x,bl w1 = some x → bl w2 ≠ some x
section
variable {h g g':TH} {n0 c c5 c6 c7:Nat} {vs:Value} {l P:List Nat} {j:Nat}
theorem RcJ.hx (q:RcJ h n0 c c5 c6 c7 vs l P j g) (x:HX g g'):RcJ h n0 c c5 c6 c7 vs l P j g':=by
 obtain ⟨q1,q2,q3,w1,w2,q4,q5,q6,q7,q8,q9⟩:=q
 exact ⟨q1.trans x,Nat.le_trans q2 x.next,q3.hx x,w1,w2,q4.hx x,q5.hx x,q6.hx x,q7.hx x,q8.hx x,q9⟩
theorem RcJ.put {b:Nat} {x:TB} (q:RcJ h n0 c c5 c6 c7 vs l P j g) (p:Put g g' b x) (h0:h.next ≤ b) (hb:b < n0) (e:b ≠ c) (e5:b ≠ c5) (e6:b ≠ c6) (e7:b ≠ c7):RcJ h n0 c c5 c6 c7 vs l P j g':=by
 obtain ⟨q1,q2,q3,w1,w2,q4,q5,q6,q7,q8,q9⟩:=q
 exact ⟨p.hx _ q1 h0,by rw [p.next]; exact q2,p.oth _ _ (Ne.symm e) q3,w1,w2,p.oth _ _ (Ne.symm e5) q4,p.oth _ _ (Ne.symm e6) q5,p.oth _ _ (Ne.symm e7) q6,
  q7.keep fun c y hc a => p.oth _ _ (by have:=(q7.lt hc).1; omega) a,q8.keep fun c y hc a => p.oth _ _ (by have:=(q8.lt hc).1; omega) a,q9⟩
end
theorem pk_take {P:List Nat} {j:Nat} (hj:j < P.length):P.take (j + 1) = P.take j ++ [P.getD j 0]:=by
 rw [List.take_succ_eq_append_getElem hj,List.getD_eq_getElem?_getD,List.getElem?_eq_getElem hj]
 rfl
section
variable {h:TH} {l:List Nat} {E:Nat → List Int} {bo:Option Addr} {n k:Nat}
set_option maxHeartbeats 4000000 in
set_option maxRecDepth 10000 in
theorem k67 (H:Has tp) (X:HasX tp) (Y:HasY tp) (hb:Byt l) (hE:FmE l E) (hl:l.length ≤ 1000000) (s:SlL encY 1 h (.slice bo n k) l) (F:Fits h (.slice bo n k) 5) (f:Free0 h.next h) :
    CallW Tryz.prog tp (.func (.func 65) #[] #[]) #[.slice bo n k] h fun w h' => HX h h' ∧ RcvA l E h' w:=by
  refine CallW.fnL (H.fn 65 f67 rfl rfl) ?_
  refine WL.sr <| WOL.as rfl <| WOL.as rfl <| WOL.as rfl <| WOL.nil <| keep [(0,_)] ⟨rfl,trivial⟩ ?_
  refine WL.seq <| WL.sr <| WOL.mv rfl <| WOL.len rfl s u116 ?_
  refine WOL.bi (v:=.bool (decide ((l.length:Int) > 20480))) rfl rfl rfl <| WOL.nil <| keep [(0,_),(12,_)] ⟨rfl,rfl,trivial⟩ ?_
  by_cases hbig:20480 < l.length
  · rw [show decide ((l.length:Int) > 20480) = true from decide_eq_true (by omega)]
    refine WL.yes rfl <| WL.sr <| WOL.as rfl <| WOL.as rfl <| WOL.as rfl <| WOL.nil ?_
    exact WL.ret (WL.end_ rfl ⟨HX.refl _,.inl ⟨hbig,rfl⟩⟩)
  rw [show decide ((l.length:Int) > 20480) = false from decide_eq_false (by omega)]
  refine WL.no rfl <| WL.skip ?_
  refine WL.sr <| WOL.al tp113 fun h1 N1 => WOL.nil ?_
  refine WL.sr <| WOL.al tp44 fun h2 N2 => WOL.nil ?_
  have n1:=N1.next
  have n2:=N2.next
  refine WL.sr <| WOL.al tp3 fun h3 N3 => ?_
  have n3:=N3.next
  have X3:=(N1.hx.trans N2.hx).trans N3.hx
  refine WOL.sto rfl rfl tp3 N3.at_ rfl rfl (Nat.le_of_ble_eq_true rfl) rfl (f.hx X3) (by omega) fun h4 P4 => ?_
  have n4:=P4.next
  have X4:HX h h4:=P4.hx _ X3 (by omega)
  have B5:At h4 h.next (.cells [.slice none 0 0] true true 96):=P4.oth _ _ (by omega) ((N1.at_.hx N2.hx).hx N3.hx)
  have B6:At h4 h1.next (.cells [.slice none 0 0] true true 44):=P4.oth _ _ (by omega) (N2.at_.hx N3.hx)
  have B7:At h4 h2.next (.cells [zi 0] true true 3):=P4.at_
  refine WOL.nil <| keep [(0,_),(5,_),(6,_),(7,_)] ⟨rfl,rfl,rfl,rfl,trivial⟩ ?_
  refine WL.seq <| WL.sr <| WOL.mv rfl ?_
  refine WOL.cl1 rfl rfl ((k120 H h4).mono ?_)
  rintro w h5 ⟨c,rfl,X5,Ac,hc⟩
  have n5:=X5.next
  have ac:=Ac.lt
  have X5':=X4.trans X5
  refine WOL.nil <| keep [(0,_),(5,_),(6,_),(7,_),(14,_)] ⟨rfl,rfl,rfl,rfl,rfl,trivial⟩ ?_
  refine WL.block ?_
  have hP:∀ j,j < (plcF l E l.length).length → (plcF l E l.length).getD j 0 + 20 ≤ l.length:=by
    intro j hj
    rw [List.getD_eq_getElem?_getD,List.getElem?_eq_getElem hj]
    exact (plc_lt _ _ _ _ (List.getElem_mem hj)).1
  have hPl:(plcF l E l.length).length ≤ l.length:=plc_len _ _ _
  refine WL.range2 rfl (H.fn 187 f152 rfl rfl) (y152 H X Y hb hE hl) (RcJ h (h5.next + 1) c h.next h1.next h2.next (.slice bo n k) l (plcF l E l.length)) (fun j g q => ⟨q.2.2.1,s.hx q.1,F.hx q.1,f.on q.1⟩) (fun j g q => (f.hx q.1).up (by omega)) (fun j g g' x q p => q.put p (by omega) (by omega) (by omega) (by omega) (by omega) (by omega)) (fun j g g' q x => q.hx x) ?_ ?_ ?_
  · rintro g x N
    exact ⟨X5'.trans N.hx,by have:=N.next; omega,Ac.hx N.hx,_,_,(B5.hx X5).hx N.hx,(B6.hx X5).hx N.hx,(B7.hx X5).hx N.hx,.inl ⟨rfl,rfl⟩,.inl ⟨rfl,rfl⟩,fun x e => by cases e⟩
  · rintro j g x hj q A
    have hpj:=hP j hj
    refine WL.sr <| WOL.as rfl <| WOL.nil <| keep [(0,_),(5,_),(6,_),(7,_),(8,_),(14,_),(16,_)] ⟨rfl,rfl,rfl,rfl,rfl,rfl,rfl,trivial⟩ ?_
    refine WL.reg <| WOL.al tp111 fun g1 N1' => ?_
    have m1:=N1'.next
    have gn:=q.2.1
    refine WOL.sto rfl rfl tp111 N1'.at_ rfl rfl (Nat.le_of_ble_eq_true rfl) rfl ((f.on q.1).hx N1'.hx) (Nat.le_refl _) fun g2 P2 => ?_
    have m2:=P2.next
    have Xg2:HX g g2:=P2.hx _ N1'.hx (Nat.le_refl _)
    have D9:At g2 g.next (.cells (encP (pkF l ((plcF l E l.length).getD j 0))) true true 92):=P2.at_
    refine WOL.nil <| keep [(0,_),(5,_),(6,_),(7,_),(8,_),(9,_),(14,_)] ⟨rfl,rfl,rfl,rfl,rfl,rfl,rfl,trivial⟩ ?_
    intro r hr
    refine ⟨rfl,(f.hx (q.1.trans Xg2)).up (by omega),A.hx Xg2,fun g3 x3 P3 => ?_⟩
    refine hr.go ?_
    obtain ⟨q1,q2,qc,w1,w2,q5,q6,q7,o1,o2,ne⟩:=q
    have T:∀ z y,z ≠ h5.next → At g z y → At g3 z y:=fun z y e a => P3.oth _ _ e (a.hx Xg2)
    have E9:=P3.oth _ _ (by omega) D9
    have A3:=P3.at_
    have m3:=P3.next
    have r1:HX h g3:=P3.hx _ (q1.trans Xg2) (by omega)
    have l1:=fun z (hz:bl w1 = some z) => o1.lt hz
    have l2:=fun z (hz:bl w2 = some z) => o2.lt hz
    have O1:OwnL encP (h5.next + 1) g3 w1 92 _:=o1.keep fun z y hz a => T z y (by have:=l1 z hz; omega) a
    have O2:OwnL encS (h5.next + 1) g3 w2 48 _:=o2.keep fun z y hz a => T z y (by have:=l2 z hz; omega) a
    replace qc:=T _ _ (by omega) qc
    replace q5:=T _ _ (by omega) q5
    replace q6:=T _ _ (by omega) q6
    replace q7:=T _ _ (by omega) q7
    have fg:Free0 (h5.next + 1) g3:=(f.hx r1).up (by omega)
    have ltk:((plcF l E l.length).take j).length ≤ l.length:=by rw [List.length_take]; omega
    refine WL.block <| WL.sr ?_
    refine WOL.ld rfl (load_one tp44 q6 rfl) <| WOL.ld rfl (load_one tp3 q7 rfl) <| WOL.mv rfl ?_
    have ls:(spn0 ((plcF l E l.length).take j)).1.length < 1000000:=by
      have:=spn_len' ((plcF l E l.length).take j) ([],0)
      have e:(([],0):List (Int × Int) × Nat).1.length = 0:=rfl
      show (spn ((plcF l E l.length).take j) ([],0)).1.length < 1000000
      omega
    refine WOL.cl3 rfl rfl rfl rfl ((k121 H O2 fg ls (by omega)).mono ?_)
    rintro w2' g4 ⟨o2',x4,k4,b4,m4⟩
    obtain ⟨z2,e2⟩:=OwnF.form (Or.inl o2')
    have r4:HX h g4:=x4 _ r1 (by omega)
    have no:∀ z,z < h5.next + 1 → bl w2 ≠ some z:=fun z hz e => by have:=l2 z e; omega
    have U:∀ z y,bl w2 ≠ some z → At g3 z y → At g4 z y:=k4
    have F9:=U _ _ (fun e => by have:=l2 _ e; omega) E9
    have G1:OwnL encP (h5.next + 1) g4 w1 92 _:=O1.keep fun z y hz a => U z y (ne z hz) a
    refine WOL.sto (vs:=[w2']) rfl rfl tp44 (U _ _ (no _ (by omega)) q6) (by rw [e2]; rfl) rfl (Nat.le_of_ble_eq_true rfl) (by rw [e2]; rfl) (f.hx r4) (by omega) fun g5 P5 => ?_
    have r5:HX h g5:=P5.hx _ r4 (by omega)
    have m5:=P5.next
    have V:∀ z y,z ≠ h1.next → At g4 z y → At g5 z y:=P5.oth
    have C6:=P5.at_
    refine WOL.nil <| keep [(0,_),(5,_),(6,_),(7,_),(8,_),(9,_),(14,_)] ⟨rfl,rfl,rfl,rfl,rfl,rfl,rfl,trivial⟩ ?_
    -- the packet
    refine WL.sr <| WOL.ld rfl (load_one tp113 (V _ _ (by omega) (U _ _ (no _ (by omega)) q5)) rfl) ?_
    refine WOL.ld rfl (load_row tp111 (V _ _ (by omega) F9) rfl (Nat.le_of_ble_eq_true rfl)) ?_
    refine WOL.bsl rfl u113 tp111 (by decide) (by decide) (by decide) (cs:=encP (pkF l ((plcF l E l.length).getD j 0))) rfl fun g6 N6 => ?_
    have m6:=N6.next
    have K1:OwnL encP (h5.next + 1) g6 w1 92 _:=(G1.keep fun z y hz a => V z y (by have:=l1 z hz; omega) a).hx N6.hx
    have f6:Free0 (h5.next + 1) g6:=(f.hx (r5.trans N6.hx)).up (by omega)
    obtain ⟨w1',g7,ap,o1',x7,k7,b7,m7⟩:=own_push (sT:=96) (x:=pkF l ((plcF l E l.length).getD j 0)) eP u113 tp111 K1 (SlC.own (sz:=5) (m:=1) rfl N6.at_) f6 (by unfold pkL; rw [List.length_map]; omega) (by omega)
    refine WOL.ap rfl rfl ap ?_
    obtain ⟨z1,e1⟩:=OwnF.form (Or.inl o1')
    have r7:HX h g7:=x7 _ (r5.trans N6.hx) (by omega)
    have no1:∀ z,z < h5.next + 1 → bl w1 ≠ some z:=fun z hz e => by have:=l1 z e; omega
    have W7:∀ z y,z < h5.next + 1 → At g5 z y → At g7 z y:=fun z y hz a => k7 z y (no1 z hz) (a.hx N6.hx)
    refine WOL.sto (vs:=[w1']) rfl rfl tp113 (W7 _ _ (by omega) (V _ _ (by omega) (U _ _ (no _ (by omega)) q5))) (by rw [e1]; rfl) rfl (Nat.le_of_ble_eq_true rfl) (by rw [e1]; rfl) (f.hx r7) (by omega) fun g8 P8 => ?_
    have m8:=P8.next
    have r8:HX h g8:=P8.hx _ r7 (by omega)
    have Y8:∀ z y,z ≠ h.next → At g7 z y → At g8 z y:=P8.oth
    refine WOL.nil <| keep [(0,_),(5,_),(6,_),(7,_),(8,_),(9,_),(14,_)] ⟨rfl,rfl,rfl,rfl,rfl,rfl,rfl,trivial⟩ ?_
    refine WL.reg <| WOL.mv rfl ?_
    refine WOL.add (m:=(((plcF l E l.length).getD j 0:Nat):Int)) (n:=20) rfl rfl (by omega) (by omega) ?_
    have D7:=Y8 _ _ (by omega) (W7 _ _ (by omega) (V _ _ (by omega) (U _ _ (no _ (by omega)) q7)))
    refine WOL.sto rfl rfl tp3 D7 rfl rfl (Nat.le_of_ble_eq_true rfl) rfl (f.hx r8) (by omega) fun g9 P9 => ?_
    have m9:=P9.next
    have Z9:∀ z y,z ≠ h2.next → At g8 z y → At g9 z y:=P9.oth
    refine WOL.nil fun r hr => ?_
    have all:∀ z y,z < h5.next + 1 → z ≠ h.next → z ≠ h1.next → z ≠ h2.next → At g3 z y → At g9 z y:=fun z y hz e1 e2 e3 a => Z9 _ _ e3 (Y8 _ _ e1 (W7 _ _ hz (V _ _ e2 (U _ _ (no _ hz) a))))
    refine ⟨rfl,⟨P9.hx _ r8 (by omega),by omega,all _ _ (by omega) (by omega) (by omega) (by omega) qc,w1',w2',?_,?_,?_,?_,?_,?_⟩,all _ _ (by omega) (by omega) (by omega) (by omega) A3⟩
    · exact Z9 _ _ (by omega) P8.at_
    · exact Z9 _ _ (by omega) (Y8 _ _ (by omega) (W7 _ _ (by omega) C6))
    · rw [pk_take hj,spn0_app]
      exact P9.at_
    · rw [pk_take hj]
      unfold pkL
      rw [List.map_append]
      exact o1'.keep fun z y hz a => Z9 z y (by have:=o1'.lt hz; omega) (Y8 z y (by have:=o1'.lt hz; omega) a)
    · rw [pk_take hj,spn0_app]
      refine o2'.keep fun z y hz a => ?_
      have lz:=o2'.lt hz
      refine Z9 z y (by omega) (Y8 z y (by omega) (k7 z y ?_ ((V z y (by omega) a).hx N6.hx)))
      intro e
      rcases b4 with b4 | ⟨z',b4,b5⟩
      · exact ne z e (b4 ▸ hz)
      · have:z' = z:=Option.some.inj (b4.symm.trans hz)
        have:=l1 z e
        omega
    · intro z hz e
      have:z = g6.next:=Option.some.inj (hz.symm.trans b7)
      have:=o2'.lt e
      omega
  · rintro g ⟨q1,q2,qc,w1,w2,q5,q6,q7,o1,o2,ne⟩
    rw [List.take_length] at q7 o1 o2
    refine WL.sr <| WOL.ld rfl (load_one tp113 q5 rfl) <| WOL.ld rfl (load_one tp44 q6 rfl) <| WOL.ld rfl (load_one tp3 q7 rfl) <| WOL.mv rfl <| WOL.len rfl (s.hx q1) u116 ?_
    have fg:Free0 (h5.next + 1) g:=(f.hx q1).up (by omega)
    have ls:(spn0 (plcF l E l.length)).1.length < 1000000:=by
      have:=spn_len l.length (okF l E) l.length
      have:(spn0 (plcF l E l.length)).1.length ≤ l.length:=this
      omega
    refine WOL.lq3 [h.next] rfl rfl rfl rfl rfl fun M hM => ((k121 H (o2.relock M) (fg.held hM (fun b hb => by simp at hb; omega)) ls q2).mono ?_)
    rintro w2' g4 ⟨o2',x4,k4,b4,m4⟩
    have r4:HX h (g4.withLock g.lock):=by
      rw [q1.lock]
      exact (x4 _ (q1.locked M) (by show h.next ≤ _; omega)).relock
    refine WOL.as rfl <| WOL.as rfl <| WOL.as rfl <| WOL.nil ?_
    refine WL.done rfl ⟨r4,.inr ⟨by omega,w1,w2',rfl,?_,?_⟩⟩
    · exact ((o1.relock M).keep fun z y hz a => (k4 z y (ne z hz) a).relock _).sl eP
    · have:=(o2'.relock g.lock).sl eS
      rw [skp_end]
      exact this
end
end Go.Tidy
namespace Go.Tidy
open Go Go.Proofs Tab
variable {tp:TProg}
section
variable {h:TH} {v:Value} {l:List Pkt}
set_option maxHeartbeats 1000000 in
theorem k1020 (H:Has tp) (s:SlL encP 5 h v l) (hl:l.length ≤ 1000000) (f:Free0 h.next h):CallW Tryz.prog tp (.func (.func 67) #[] #[]) #[v] h fun w h' => HX h h' ∧ OwnL encP h.next h' w 84 l:=by
 refine CallW.fnL (H.fn 67 f1020 rfl rfl) ?_
 refine WL.sr <| WOL.as rfl <| WOL.nil <| keep [(0,_)] ⟨rfl,trivial⟩ ?_
 refine WL.sr <| WOL.as rfl <| WOL.nil <| keep [(0,_),(3,_)] ⟨rfl,rfl,trivial⟩ ?_
 refine WL.seq <| WL.sr <| WOL.mv rfl <| WOL.len rfl s u113 <| WOL.mv rfl <| WOL.nil <| keep [(3,_),(6,_),(7,_),(8,_)] ⟨rfl,rfl,rfl,rfl,trivial⟩ ?_
 refine WL.block ?_
 refine WL.loop (fun q a g => ∃ (j:Nat) (w:Value),j ≤ l.length ∧ q = l.length - j ∧ HX h g ∧ OwnL encP h.next g w 84 (l.take j) ∧ h.next ≤ g.next ∧ Kn [(3,w),(6,v),(7,zi (l.length:Nat)),(8,zi (j:Nat))] a) l.length (fun a q => ⟨0,_,by omega,by omega,HX.refl _,OwnL.nil,Nat.le_refl _,q.sub ⟨rfl,rfl,rfl,rfl,trivial⟩⟩) ?_
 rintro q a g ⟨j,w,hj,rfl,X1,O1,n1,q⟩
 refine q.go ?_
 refine WL.sr <| WOL.bi (v:=.bool (decide ((j:Int) < (l.length:Int)))) rfl rfl rfl <| WOL.nil <| keep [(3,_),(6,_),(7,_),(8,_),(9,_)] ⟨rfl,rfl,rfl,rfl,rfl,trivial⟩ ?_
 refine WL.seq ?_
 by_cases hlt:j < l.length
 ·rw [show decide ((j:Int) < (l.length:Int)) = true from decide_eq_true (by omega)]
  refine WL.yes rfl <| WL.skip ?_
  have hp:l[j]? = some l[j]:=List.getElem?_eq_getElem hlt
  obtain ⟨b,o,cc,fix,wr,el,g1,g2,g3,g4,g5⟩:=(s.hx X1).at eP u113 tp111 hp .i64
  refine WL.seq <| WL.block ?_
  refine WL.sr <| WOL.ix rfl rfl g1 <| WOL.ld rfl (load_row tp111 g2 g4 g3) ?_
  refine WOL.al tp111 fun h2 N2 => ?_
  have X2:=X1.trans N2.hx
  have n2:=N2.next
  refine WOL.sto (vs:=encP l[j]) rfl rfl tp111 N2.at_ rfl rfl (Nat.le_of_ble_eq_true rfl) rfl (f.hx X2) (by omega) fun h3 P3 => ?_
  have X3:=P3.hx _ X2 (by omega)
  have n3:=P3.next
  have A3:At h3 g.next (.cells (encP l[j]) true true 92):=P3.at_
  refine WOL.nil <| keep [(3,_),(5,_),(6,_),(7,_),(8,_)] ⟨rfl,rfl,rfl,rfl,rfl,trivial⟩ ?_
  refine WL.reg <| WOL.mv rfl <| WOL.ld rfl (load_row tp111 A3 rfl (Nat.le_of_ble_eq_true rfl)) ?_
  refine WOL.bsl rfl u1004 tp1003 (by decide) (by decide) (by decide) (cs:=encP l[j]) rfl fun h4 N4 => ?_
  have X4:=X3.trans N4.hx
  have n4:=N4.next
  have O4:OwnL encP h.next h4 w 84 (l.take j):=(O1.keep fun c y hc hA => P3.oth c y (by have:=hA.lt; omega) (hA.hx N2.hx)).hx N4.hx
  obtain ⟨w5,h5,ap,O5,x5,_,_,n5⟩:=own_push (sT:=86) (x:=l[j]) eP u1004 tp1003 O4 (SlC.own (sz:=5) (m:=1) rfl N4.at_) (f.hx X4) (by rw [List.length_take]; omega) (by omega)
  refine WOL.ap rfl rfl ap <| WOL.as rfl <| WOL.nil <| keep [(3,_),(6,_),(7,_),(8,_)] ⟨rfl,rfl,rfl,rfl,trivial⟩ ?_
  refine WL.reg ?_
  refine WOL.bi (v:=zi ((j + 1:Nat):Int)) rfl rfl (by show some (Value.int .i64 (fwrap .i64 ((j:Int) + 1))) = _; rw [fwrap_i64 (by omega) (by omega)]; rfl) ?_
  refine WOL.mv rfl <| WOL.nil ?_
  exact fun a q => ⟨l.length - (j + 1),by omega,j + 1,w5,by omega,rfl,x5 _ X4 (Nat.le_refl _),by rw [List.take_succ_eq_append_getElem hlt]; exact O5,by omega,q.sub ⟨rfl,rfl,rfl,rfl,trivial⟩⟩
 ·rw [show decide ((j:Int) < (l.length:Int)) = false from decide_eq_false (by omega)]
  obtain rfl:j = l.length:=by omega
  refine WL.no rfl <| WL.exit ?_
  refine WL.sr <| WOL.mv rfl <| WOL.as rfl <| WOL.nil ?_
  rw [List.take_length] at O1
  exact WL.done rfl ⟨X1,O1⟩
end
theorem frm_at {l:List Nat} {i k:Nat} (hk:k < 20):(frm l i).getD k 0 = l.getD (i + k) 0:=by
 unfold frm
 rw [List.getD_eq_getElem?_getD,List.getD_eq_getElem?_getD,List.getElem?_take,if_pos hk,List.getElem?_drop]
theorem set_last {M:List (Int × Int)} {x y z:Int}:(M ++ [(x,y)]).set M.length (x,z) = M ++ [(x,z)]:=by
 rw [List.set_append_right _ _ (Nat.le_refl _),Nat.sub_self]
 rfl
section
variable {h:TH} {l:List Nat} {E:Nat → List Int} {v:Value}
def RrI (h:TH) (l:List Nat) (E:Nat → List Int) (i:Nat) (w1 w2:Value) (g:TH):Prop :=
 HX h g ∧ OwnL encP h.next g w1 84 (pkL l (plcF l E i)) ∧ OwnL encS h.next g w2 48 (skp l.length (okF l E) i) ∧ ∀ x,bl w1 = some x → bl w2 ≠ some x
theorem RrI.hx {i:Nat} {w1 w2:Value} {g g':TH} (q:RrI h l E i w1 w2 g) (x:HX g g'):RrI h l E i w1 w2 g':=⟨q.1.trans x,q.2.1.hx x,q.2.2.1.hx x,q.2.2.2⟩
def r1019b:TCode:=.seq (.reg r1019_19) (.seq (.reg r1019_20) (.cond (.tmp 69) (.reg r1019_21) (.reg r1019_22)))
set_option maxHeartbeats 2000000 in
set_option maxRecDepth 10000 in
theorem k1019b {g:TH} {i:Nat} {w1 w2:Value} (q:RrI h l E i w1 w2 g) (f:Free0 h.next h) (hl:l.length ≤ 20480) (hi:i < l.length) (hx:nxtF l E i ≤ i) (g0:isF l.length (okF l E) i = false) {Q:Exit → Regs → TH → Prop}
    (e:∀ g' w2',RrI h l E (i + 1) w1 w2' g' → ∀ a,Kn [(0,v),(5,w1),(6,w2'),(7,zi (nxtF l E i:Nat)),(8,zi (i:Nat))] a → Q .normal a g') :
    ∀ a,Kn [(0,v),(5,w1),(6,w2),(7,zi (nxtF l E i:Nat)),(8,zi (i:Nat))] a → W Tryz.prog tp false r1019b a g Q:=by
  obtain ⟨X1,O1,O2,ne⟩:=q
  have sl:(skp l.length (okF l E) i).length ≤ i + 1:=by
    have:=spn_len l.length (okF l E) i
    unfold skp
    exact Nat.le_trans wsp_len (by omega)
  have e5:plcF l E (i + 1) = plcF l E i:=plc_not _ _ g0
  unfold r1019b
  refine WL.sr <| WOL.mv rfl <| WOL.len rfl (O2.sl eS) u44 <| WOL.as rfl <| WOL.nil <| keep [(0,_),(5,_),(6,_),(7,_),(8,_),(13,_)] ⟨rfl,rfl,rfl,rfl,rfl,rfl,trivial⟩ ?_
  refine WL.sr <| WOL.mv rfl ?_
  refine WOL.bi (v:=.bool (decide (((skp l.length (okF l E) i).length:Int) > 0))) rfl rfl rfl <| WOL.mv rfl ?_
  -- what is done when no span ends here
  have app:(∀ b:Value,b = b) → skp l.length (okF l E) (i + 1) = skp l.length (okF l E) i ++ [((i:Int),((i + 1:Nat):Int))] → ∀ a,Kn [(0,v),(5,w1),(6,w2),(7,zi (nxtF l E i:Nat)),(8,zi (i:Nat))] a → W Tryz.prog tp false (.reg r1019_22) a g Q:=by
    intro _ es
    refine WL.reg <| WOL.mv rfl <| WOL.mv rfl <| WOL.mv rfl ?_
    refine WOL.add (m:=((i:Nat):Int)) (n:=1) rfl rfl (by omega) (by omega) <| WOL.bd rfl bd48 <| WOL.bs2 rfl u44 tp48 fun h1 N1 => ?_
    have n1:=N1.next
    obtain ⟨w2',g2,ap,o2,x2,k2,b2,n2⟩:=own_push (sT:=44) (x:=((i:Int),((i + 1:Nat):Int))) eS u44 tp48 (O2.hx N1.hx) (SlC.own (sz:=2) (m:=1) rfl N1.at_) (f.hx (X1.trans N1.hx)) (by omega) (by have:=X1.next; omega)
    refine WOL.ap rfl rfl ap <| WOL.as rfl <| WOL.nil ?_
    refine kto (e g2 w2' ⟨x2 _ (X1.trans N1.hx) (Nat.le_refl _),?_,?_,?_⟩) ⟨rfl,rfl,rfl,rfl,rfl,trivial⟩
    · rw [e5]
      exact (O1.hx N1.hx).keep fun z y hz a => k2 z y (ne z hz) a
    · rw [es]
      exact o2
    · intro z hz e'
      have:=O1.lt hz
      have:z = h1.next:=Option.some.inj (e'.symm.trans b2)
      omega
  rcases skp_not l.length (okF l E) hx g0 with ⟨M,x,s1,s2⟩ | ⟨s1,s2⟩
  · have hm:(skp l.length (okF l E) i).length = M.length + 1:=by rw [s1]; simp
    have hp:(skp l.length (okF l E) i)[M.length]? = some (x,(i:Int)):=by rw [s1,List.getElem?_append_right (Nat.le_refl _),Nat.sub_self]; rfl
    rcases O2 with ⟨_,he0⟩ | ⟨_,b,rfl,hb,A⟩
    · rw [he0] at hm; simp at hm
    rw [show decide (((skp l.length (okF l E) i).length:Int) > 0) = true from decide_eq_true (by omega)]
    have hc:(cat encS (skp l.length (okF l E) i))[0 + M.length * 2 + 1]? = some (zi (i:Nat)):=by
      have h1:=eS.part (skp l.length (okF l E) i) M.length 1
      have h2:((skp l.length (okF l E) i).drop M.length).take 1 = [(x,(i:Int))]:=by
        rw [s1,List.drop_append_of_le_length (Nat.le_refl _),List.drop_length]
        rfl
      rw [h2] at h1
      have h3:(((cat encS (skp l.length (okF l E) i)).drop (M.length * 2)).take (1 * 2))[1]? = (cat encS [(x,(i:Int))])[1]?:=by rw [h1]
      rw [List.getElem?_take,if_pos (by decide),List.getElem?_drop] at h3
      rw [Nat.zero_add]
      exact h3
    refine WOL.now (b:=true) rfl rfl <| WOL.mv rfl <| WOL.now (b:=true) rfl rfl <| WOL.mv rfl ?_
    refine WOL.now (b:=true) rfl rfl <| WOL.bi (v:=zi (M.length:Nat)) rfl rfl (by show some (Value.int .i64 (fwrap .i64 (((skp l.length (okF l E) i).length:Int) - 1))) = _; rw [fwrap_i64 (by omega) (by omega)]; congr 2; omega) ?_
    refine WOL.now (b:=true) rfl rfl <| WOL.ix rfl rfl (indexAddr_tp u44 tp48 (by omega)) <| WOL.now (b:=true) rfl rfl <| WOL.fa rfl (fa_of fo48_1) <| WOL.now (b:=true) rfl rfl <| WOL.ld rfl (load_one tp3 A hc) ?_
    refine WOL.now (b:=true) rfl rfl <| WOL.mv rfl <| WOL.now (b:=true) rfl rfl <| WOL.bi (v:=.bool true) rfl rfl (by show some (Value.bool ((i:Int) == (i:Int))) = _; rw [beq_self_eq_true]) <| WOL.pkt rfl rfl <| WOL.nil <| keep [(0,_),(5,_),(6,_),(7,_),(8,_),(13,_),(69,_)] ⟨rfl,rfl,rfl,rfl,rfl,rfl,rfl,trivial⟩ ?_
    refine WL.yes rfl <| WL.reg <| WOL.mv rfl <| WOL.mv rfl ?_
    refine WOL.bi (v:=zi (M.length:Nat)) rfl rfl (by show some (Value.int .i64 (fwrap .i64 (((skp l.length (okF l E) i).length:Int) - 1))) = _; rw [fwrap_i64 (by omega) (by omega)]; congr 2; omega) <| WOL.mv rfl ?_
    refine WOL.add (m:=((i:Nat):Int)) (n:=1) rfl rfl (by omega) (by omega) <| WOL.ix rfl rfl (indexAddr_tp u44 tp48 (by omega)) <| WOL.fa rfl (fa_of fo48_1) ?_
    refine WOL.sto (vs:=[zi ((i:Int) + 1)]) rfl rfl tp3 A rfl rfl (by rw [eS.cat_len]; omega) rfl (f.hx X1) hb fun g9 P9 => ?_
    have B9:=P9.at_
    rw [show (0:Nat) + M.length * 2 + 1 = M.length * 2 + 1 by omega,splice_one _ _ _ (by rw [eS.cat_len]; omega),set_one _ _ _ _ hp] at B9
    have es:(skp l.length (okF l E) i).set M.length (x,(i:Int) + 1) = skp l.length (okF l E) (i + 1):=by
      rw [s1,s2,set_last]
      rfl
    rw [es] at B9
    have hm2:(skp l.length (okF l E) (i + 1)).length = (skp l.length (okF l E) i).length:=by rw [s1,s2]; simp
    refine WOL.nil ?_
    refine kto (e g9 _ ⟨P9.hx _ X1 hb,?_,.inr ⟨?_,b,by rw [hm2],hb,B9⟩,ne⟩) ⟨rfl,rfl,rfl,rfl,rfl,trivial⟩
    · rw [e5]
      exact O1.keep fun z y hz a => P9.oth z y (fun e' => ne z hz (by rw [e']; rfl)) a
    · intro e0; rw [e0] at hm2; simp at hm2; omega
  · rcases Nat.eq_zero_or_pos (skp l.length (okF l E) i).length with h0 | h0
    · rw [show decide (((skp l.length (okF l E) i).length:Int) > 0) = false from decide_eq_false (by omega)]
      refine WOL.skp (b:=false) rfl rfl <| WOL.skp (b:=false) rfl rfl <| WOL.skp (b:=false) rfl rfl <| WOL.skp (b:=false) rfl rfl <| WOL.skp (b:=false) rfl rfl <| WOL.skp (b:=false) rfl rfl <| WOL.skp (b:=false) rfl rfl <| WOL.skp (b:=false) rfl rfl <| WOL.pkf rfl rfl <| WOL.nil <| keep [(0,_),(5,_),(6,_),(7,_),(8,_),(69,_)] ⟨rfl,rfl,rfl,rfl,rfl,rfl,trivial⟩ ?_
      refine WL.no rfl ?_
      exact kto (app (fun _ => rfl) s2) ⟨rfl,rfl,rfl,rfl,rfl,trivial⟩
    · rw [show decide (((skp l.length (okF l E) i).length:Int) > 0) = true from decide_eq_true (by omega)]
      have hp:(skp l.length (okF l E) i)[(skp l.length (okF l E) i).length - 1]? = some (skp l.length (okF l E) i)[(skp l.length (okF l E) i).length - 1]:=List.getElem?_eq_getElem (by omega)
      have hn:=s1 _ (List.getElem_mem (show (skp l.length (okF l E) i).length - 1 < (skp l.length (okF l E) i).length by omega))
      obtain ⟨b,o,cc,fix,wr,el,g1,g2,g3,g4,g5⟩:=(O2.sl eS).at eS u44 tp48 hp .i64
      refine WOL.now (b:=true) rfl rfl <| WOL.mv rfl <| WOL.now (b:=true) rfl rfl <| WOL.mv rfl ?_
      refine WOL.now (b:=true) rfl rfl <| WOL.bi (v:=zi ((skp l.length (okF l E) i).length - 1:Nat)) rfl rfl (by show some (Value.int .i64 (fwrap .i64 (((skp l.length (okF l E) i).length:Int) - 1))) = _; rw [fwrap_i64 (by omega) (by omega)]; congr 2; omega) ?_
      refine WOL.now (b:=true) rfl rfl <| WOL.ix rfl rfl g1 <| WOL.now (b:=true) rfl rfl <| WOL.fa rfl (fa_of fo48_1) <| WOL.now (b:=true) rfl rfl <| WOL.ld rfl (load_one tp3 g2 (g5 1 (by decide))) ?_
      refine WOL.now (b:=true) rfl rfl <| WOL.mv rfl <| WOL.now (b:=true) rfl rfl <| WOL.bi (v:=.bool false) rfl rfl (by
        show some (Value.bool ((skp l.length (okF l E) i)[(skp l.length (okF l E) i).length - 1].2 == (i:Int))) = _
        congr 2
        exact beq_eq_false_iff_ne.2 hn) <| WOL.pkt rfl rfl <| WOL.nil <| keep [(0,_),(5,_),(6,_),(7,_),(8,_),(69,_)] ⟨rfl,rfl,rfl,rfl,rfl,rfl,trivial⟩ ?_
      refine WL.no rfl ?_
      exact kto (app (fun _ => rfl) s2) ⟨rfl,rfl,rfl,rfl,rfl,trivial⟩
end
end Go.Tidy
namespace Go.Tidy
open Go Go.Proofs Tab
variable {tp:TProg}
section
variable {h:TH} {l:List Nat} {E:Nat → List Int} {v:Value}
set_option maxHeartbeats 4000000 in
set_option maxRecDepth 10000 in
theorem k1019 (H:Has tp) (Y:HasY tp) (hb:Byt l) (hE:FmE l E) (hl':l.length ≤ 1000000) (s:SlL encY 1 h v l) (f:Free0 h.next h) :
    CallW Tryz.prog tp (.func (.func 66) #[] #[]) #[v] h fun w h' => HX h h' ∧ RcvA l E h' w:=by
  refine CallW.fnL (H.fn 66 f1019 rfl rfl) ?_
  refine WL.sr <| WOL.as rfl <| WOL.as rfl <| WOL.as rfl <| WOL.nil <| keep [(0,_)] ⟨rfl,trivial⟩ ?_
  refine WL.seq <| WL.sr <| WOL.mv rfl <| WOL.len rfl s u116 ?_
  refine WOL.bi (v:=.bool (decide ((l.length:Int) > 20480))) rfl rfl rfl <| WOL.nil <| keep [(0,_),(16,_)] ⟨rfl,rfl,trivial⟩ ?_
  by_cases hbig:20480 < l.length
  · rw [show decide ((l.length:Int) > 20480) = true from decide_eq_true (by omega)]
    refine WL.yes rfl <| WL.sr <| WOL.as rfl <| WOL.as rfl <| WOL.as rfl <| WOL.nil ?_
    exact WL.ret (WL.end_ rfl ⟨HX.refl _,.inl ⟨hbig,rfl⟩⟩)
  have hl:l.length ≤ 20480:=by omega
  rw [show decide ((l.length:Int) > 20480) = false from decide_eq_false (by omega)]
  refine WL.no rfl <| WL.skip ?_
  refine WL.sr <| WOL.as rfl <| WOL.nil ?_
  refine WL.sr <| WOL.as rfl <| WOL.nil ?_
  refine WL.sr <| WOL.as rfl <| WOL.nil ?_
  refine WL.seq <| WL.sr <| WOL.as rfl <| WOL.nil <| keep [(0,_),(5,_),(6,_),(7,_),(8,_)] ⟨rfl,rfl,rfl,rfl,rfl,trivial⟩ ?_
  refine WL.block ?_
  refine WL.loop (fun q a g => ∃ (i:Nat) (w1 w2:Value),i ≤ l.length ∧ q = l.length - i ∧ RrI h l E i w1 w2 g ∧ Kn [(0,v),(5,w1),(6,w2),(7,zi (nxtF l E i:Nat)),(8,zi (i:Nat))] a) l.length (fun a q => ⟨0,_,_,by omega,by omega,⟨HX.refl _,OwnL.nil,OwnL.nil,fun x e => by cases e⟩,q.sub ⟨rfl,rfl,rfl,rfl,rfl,trivial⟩⟩) ?_
  rintro q a g ⟨i,w1,w2,hi,rfl,R,q⟩
  refine q.go ?_
  refine WL.seq <| WL.sr <| WOL.mv rfl <| WOL.mv rfl <| WOL.len rfl (s.hx R.1) u116 ?_
  refine WOL.bi (v:=.bool (decide ((i:Int) < (l.length:Int)))) rfl rfl rfl <| WOL.nil <| keep [(0,_),(5,_),(6,_),(7,_),(8,_),(20,_)] ⟨rfl,rfl,rfl,rfl,rfl,rfl,trivial⟩ ?_
  by_cases hlt:i < l.length
  · rw [show decide ((i:Int) < (l.length:Int)) = true from decide_eq_true (by omega)]
    refine WL.yes rfl <| WL.skip ?_
    refine WL.seq <| WL.mono (Q':=fun x a g' => x = .normal ∧ ∃ w1 w2,RrI h l E (i + 1) w1 w2 g' ∧ Kn [(0,v),(5,w1),(6,w2),(7,zi (nxtF l E (i + 1):Nat)),(8,zi (i:Nat))] a) ?_ ?_
    · refine WL.block ?_
      refine WL.seq <| WL.sr <| WOL.mv rfl <| WOL.mv rfl ?_
      refine WOL.bi (v:=.bool (decide ((i:Int) < (nxtF l E i:Nat)))) rfl rfl rfl <| WOL.nil <| keep [(0,_),(5,_),(6,_),(7,_),(8,_),(25,_)] ⟨rfl,rfl,rfl,rfl,rfl,rfl,trivial⟩ ?_
      by_cases hin:i < nxtF l E i
      · rw [show decide ((i:Int) < (nxtF l E i:Nat)) = true from decide_eq_true (by omega)]
        refine WL.yes rfl <| WL.exit ?_
        refine fun a q => ⟨rfl,w1,w2,⟨R.1,?_,?_,R.2.2.2⟩,?_⟩
        · rw [show plcF l E (i + 1) = plcF l E i from plc_in _ _ hin]; exact R.2.1
        · rw [skp_in _ _ hin]; exact R.2.2.1
        · rw [show nxtF l E (i + 1) = nxtF l E i from nxt_in _ _ hin]; exact q.sub ⟨rfl,rfl,rfl,rfl,rfl,trivial⟩
      have hx:nxtF l E i ≤ i:=by omega
      have en:isF l.length (okF l E) i = false → nxtF l E (i + 1) = nxtF l E i:=fun g0 => nxt_not _ _ g0
      rw [show decide ((i:Int) < (nxtF l E i:Nat)) = false from decide_eq_false (by omega)]
      refine WL.no rfl <| WL.skip ?_
      refine WL.seq <| WL.sr <| WOL.mv rfl <| WOL.len rfl (s.hx R.1) u116 <| WOL.mv rfl ?_
      refine WOL.sub (m:=((l.length:Nat):Int)) (n:=((i:Nat):Int)) rfl rfl (by omega) (by omega) ?_
      refine WOL.bi (v:=.bool (decide ((l.length:Int) - (i:Int) ≥ 20))) rfl rfl rfl <| WOL.nil <| keep [(0,_),(5,_),(6,_),(7,_),(8,_),(30,_)] ⟨rfl,rfl,rfl,rfl,rfl,rfl,trivial⟩ ?_
      by_cases h20:i + 20 ≤ l.length
      · rw [show decide ((l.length:Int) - (i:Int) ≥ 20) = true from decide_eq_true (by omega)]
        refine WL.yes rfl ?_
        have fl:=frm_len h20
        refine WL.sr <| WOL.al tp106 fun g1 N1 => WOL.nil <| keep [(0,_),(5,_),(6,_),(7,_),(8,_),(9,_)] ⟨rfl,rfl,rfl,rfl,rfl,rfl,trivial⟩ ?_
        refine WL.seq <| WL.sr <| WOL.as rfl <| WOL.nil <| keep [(0,_),(5,_),(6,_),(7,_),(8,_),(9,_),(10,_)] ⟨rfl,rfl,rfl,rfl,rfl,rfl,rfl,trivial⟩ ?_
        refine WL.block ?_
        have e20:List.replicate 20 (Value.int .u8 0) = cat encY ((frm l i).take 0 ++ List.replicate (20 - 0) 0):=rfl
        have B6:At g1 g.next (.cells (cat encY ((frm l i).take 0 ++ List.replicate (20 - 0) 0)) true true 85):=by rw [← e20]; exact N1.at_
        refine WL.loop (fun q a g2 => ∃ k:Nat,k ≤ 20 ∧ q = 20 - k ∧ HX g g2 ∧ At g2 g.next (.cells (cat encY ((frm l i).take k ++ List.replicate (20 - k) 0)) true true 85) ∧ Kn [(0,v),(5,w1),(6,w2),(7,zi (nxtF l E i:Nat)),(8,zi (i:Nat)),(9,ptr g.next),(10,zi (k:Nat))] a) 20 (fun a q => ⟨0,by omega,by omega,N1.hx,B6,q.sub ⟨rfl,rfl,rfl,rfl,rfl,rfl,rfl,trivial⟩⟩) ?_
        rintro q a g2 ⟨k,hk,rfl,X2,B,q⟩
        refine q.go ?_
        refine WL.seq <| WL.sr <| WOL.mv rfl ?_
        refine WOL.bi (v:=.bool (decide ((k:Int) < 20))) rfl rfl rfl <| WOL.nil <| keep [(0,_),(5,_),(6,_),(7,_),(8,_),(9,_),(10,_),(32,_)] ⟨rfl,rfl,rfl,rfl,rfl,rfl,rfl,rfl,trivial⟩ ?_
        by_cases hk2:k < 20
        · rw [show decide ((k:Int) < 20) = true from decide_eq_true (by omega)]
          obtain ⟨p,ip,lp⟩:=elemY (s.hx (R.1.trans X2)) (j:=i + k) (by omega)
          rw [← frm_at hk2] at lp
          refine WL.yes rfl <| WL.skip ?_
          refine WL.seq <| WL.block <| WL.reg ?_
          refine WOL.mv rfl <| WOL.mv rfl <| WOL.mv rfl <| WOL.mv rfl ?_
          refine WOL.bi (v:=zi ((i + k:Nat):Int)) rfl rfl (by show some (Value.int .i64 (fwrap .i64 ((i:Int) + (k:Int)))) = _; rw [fwrap_i64 (by omega) (by omega)]; rfl) ?_
          refine WOL.ix rfl rfl ip <| WOL.ld rfl lp <| WOL.ix rfl rfl (ix106 hk2) ?_
          refine WOL.sto (vs:=encY ((frm l i).getD k 0)) rfl rfl tp5 B rfl rfl (by rw [eY.cat_len]; simp; omega) rfl ((f.on R.1).hx X2) (Nat.le_refl _) fun g6 P6 => ?_
          have B':=P6.at_
          have hs':=eY.set (l:=(frm l i).take k ++ List.replicate (20 - k) 0) (i:=k) (by simp; omega) ((frm l i).getD k 0)
          rw [Nat.mul_one] at hs'
          rw [hs'] at B'
          have hfs:((frm l i).take k ++ List.replicate (20 - k) 0).set k (frm l i)[k] = (frm l i).take (k + 1) ++ List.replicate (20 - (k + 1)) 0:=fill_setN fl (by omega)
          rw [show (frm l i).getD k 0 = (frm l i)[k] by rw [List.getD_eq_getElem?_getD,List.getElem?_eq_getElem (by omega)]; rfl,hfs] at B'
          refine WOL.nil <| keep [(0,_),(5,_),(6,_),(7,_),(8,_),(9,_),(10,_)] ⟨rfl,rfl,rfl,rfl,rfl,rfl,rfl,trivial⟩ ?_
          refine WL.reg <| WOL.mv rfl ?_
          refine WOL.bi (v:=zi ((k + 1:Nat):Int)) rfl rfl (by show some (Value.int .i64 (fwrap .i64 ((k:Int) + 1))) = _; rw [fwrap_i64 (by omega) (by omega)]; rfl) ?_
          refine WOL.as rfl <| WOL.nil ?_
          exact fun a q => ⟨20 - (k + 1),by omega,k + 1,by omega,rfl,P6.hx _ X2 (Nat.le_refl _),B',q.sub ⟨rfl,rfl,rfl,rfl,rfl,rfl,rfl,trivial⟩⟩
        rw [show decide ((k:Int) < 20) = false from decide_eq_false (by omega)]
        obtain rfl:k = 20:=by omega
        refine WL.no rfl <| WL.exit ?_
        have eF:(frm l i).take 20 ++ List.replicate (20 - 20) 0 = frm l i:=by rw [List.take_of_length_le (by omega)]; simp
        rw [eF] at B
        have lf:(cat encY (frm l i)).length = 20:=by rw [eY.cat_len,fl]
        refine WL.sr <| WOL.ld rfl (load_row tp106 B (l:=cat encY (frm l i)) (by rw [List.drop_zero,List.take_of_length_le (by omega)]) (by omega)) ?_
        refine WOL.cl1 rfl rfl ((k1017 H Y fl (frm_byt hb i) (hE i) (f.on (R.1.trans X2))).mono ?_)
        rintro w g3 ⟨rfl,X3⟩
        rw [decR_eq]
        have X3':=X2.trans X3
        refine WOL.mv rfl <| WOL.ex rfl rfl <| WOL.ex rfl rfl <| WOL.al tp1003 fun g4 N4 => ?_
        refine WOL.sto rfl rfl tp1003 N4.at_ rfl rfl (Nat.le_of_ble_eq_true rfl) rfl ((f.on R.1).hx (X3'.trans N4.hx)) X3'.next fun g5 P5 => ?_
        have X5:HX g g5:=P5.hx _ (X3'.trans N4.hx) X3'.next
        have A5:=P5.at_
        refine WOL.as rfl <| WOL.nil <| keep [(0,_),(5,_),(6,_),(7,_),(8,_),(11,_),(12,_)] ⟨rfl,rfl,rfl,rfl,rfl,rfl,rfl,trivial⟩ ?_
        refine WL.sr <| WOL.mv rfl ?_
        refine WOL.bi (v:=.bool (decF (frm l i) (E i) == 0)) rfl rfl rfl <| WOL.nil <| keep [(0,_),(5,_),(6,_),(7,_),(8,_),(11,_),(49,_)] ⟨rfl,rfl,rfl,rfl,rfl,rfl,rfl,trivial⟩ ?_
        cases ho:okF l E i with
        | false =>
          have g0:isF l.length (okF l E) i = false:=by unfold isF; rw [ho,Bool.and_false]
          rw [show (decF (frm l i) (E i) == 0) = false from ho]
          refine WL.no rfl <| WL.skip ?_
          exact kto (k1019b (R.hx X5) f hl hlt hx g0 fun g' w2' R' a q => ⟨rfl,_,_,R',by rw [en g0]; exact q⟩) ⟨rfl,rfl,rfl,rfl,rfl,trivial⟩
        | true =>
          have g0:isF l.length (okF l E) i = true:=by unfold isF; rw [ho,Bool.and_true]; exact ble_yes h20
          obtain ⟨e1,e2⟩:=okF_yes ho
          rw [e2] at A5
          rw [show (decF (frm l i) (E i) == 0) = true from ho]
          refine WL.yes rfl <| WL.sr <| WOL.mv rfl <| WOL.ld rfl (load_row tp1003 A5 rfl (Nat.le_of_ble_eq_true rfl)) ?_
          refine WOL.bsl rfl u1004 tp1003 (by decide) (by decide) (by decide) (cs:=encP (pkF l i)) rfl fun g6 N6 => ?_
          have X6:=X5.trans N6.hx
          have Z6:=R.1.trans X6
          have n6:=N6.next
          obtain ⟨w1',g7,ap,o1',x7,k7,b7,m7⟩:=own_push (sT:=86) (x:=pkF l i) eP u1004 tp1003 (R.2.1.hx X6) (SlC.own (sz:=5) (m:=1) rfl N6.at_) (f.hx Z6) (by unfold pkL; rw [List.length_map]; have:(plcF l E i).length ≤ i:=plc_len _ _ _; omega) (by have:=Z6.next; omega)
          refine WOL.ap rfl rfl ap <| WOL.as rfl <| WOL.nil <| keep [(0,_),(5,_),(6,_),(7,_),(8,_)] ⟨rfl,rfl,rfl,rfl,rfl,trivial⟩ ?_
          refine WL.sr <| WOL.mv rfl ?_
          refine WOL.add (m:=((i:Nat):Int)) (n:=20) rfl rfl (by omega) (by omega) <| WOL.as rfl <| WOL.nil ?_
          refine WL.exit fun a q => ⟨rfl,w1',w2,⟨x7 _ Z6 (Nat.le_refl _),?_,?_,?_⟩,?_⟩
          · rw [show plcF l E (i + 1) = plcF l E i ++ [i] from plc_some _ _ hx g0]
            unfold pkL
            rw [List.map_append]
            exact o1'
          · rw [skp_frame _ _ hx g0]
            exact (R.2.2.1.hx X6).keep fun z y hz a => k7 z y (fun e => R.2.2.2 z e hz) a
          · intro z hz e
            have:z = g6.next:=Option.some.inj (hz.symm.trans b7)
            have:=R.2.2.1.lt e
            have:=X6.next
            omega
          · rw [show nxtF l E (i + 1) = i + 20 from nxt_some _ _ hx g0]
            exact q.sub ⟨rfl,rfl,rfl,rfl,rfl,trivial⟩
      · have g0:isF l.length (okF l E) i = false:=by unfold isF; rw [ble_no h20,Bool.false_and]
        rw [show decide ((l.length:Int) - (i:Int) ≥ 20) = false from decide_eq_false (by omega)]
        refine WL.no rfl <| WL.skip ?_
        exact kto (k1019b R f hl hlt hx g0 fun g' w2' R' a q => ⟨rfl,_,_,R',by rw [en g0]; exact q⟩) ⟨rfl,rfl,rfl,rfl,rfl,trivial⟩
    · rintro x a g' ⟨rfl,w1',w2',R',q⟩
      refine q.go ?_
      refine WL.reg <| WOL.mv rfl ?_
      refine WOL.bi (v:=zi ((i + 1:Nat):Int)) rfl rfl (by show some (Value.int .i64 (fwrap .i64 ((i:Int) + 1))) = _; rw [fwrap_i64 (by omega) (by omega)]; rfl) ?_
      refine WOL.as rfl <| WOL.nil ?_
      exact fun a q => ⟨l.length - (i + 1),by omega,i + 1,w1',w2',by omega,rfl,R',q.sub ⟨rfl,rfl,rfl,rfl,rfl,trivial⟩⟩
  · rw [show decide ((i:Int) < (l.length:Int)) = false from decide_eq_false (by omega)]
    obtain rfl:i = l.length:=by omega
    refine WL.no rfl <| WL.exit ?_
    refine WL.sr <| WOL.mv rfl <| WOL.mv rfl <| WOL.as rfl <| WOL.as rfl <| WOL.as rfl <| WOL.nil ?_
    exact WL.done rfl ⟨R.1,.inr ⟨hl,w1,w2,rfl,R.2.1.sl eP,R.2.2.1.sl eS⟩⟩
end
end Go.Tidy
namespace Go.Tidy
open Go Go.Proofs Tab
attribute [local irreducible] Ty valOf
theorem hasYE:HasY tpE:=⟨by kernel_rfl,by kernel_rfl,by kernel_rfl,by kernel_rfl⟩
section
variable {h:TH} {n:Nat} {ps:List Value}
theorem u8_nat {z:Int} (h:(Lit.int .u8 z).wf = true):∃ b:Nat,z = (b:Int) ∧ b < 256:=by
 have h:(decide (0 ≤ z) && decide (z ≤ 255)) = true:=h
 rw [Bool.and_eq_true] at h
 have h1:=of_decide_eq_true h.1
 have h2:=of_decide_eq_true h.2
 exact ⟨z.toNat,by omega,by omega⟩
abbrev B8:={b:Nat // b < 256}
theorem bytes_of:∀ l:List B8,Byt (l.map (·.1)) ∧ cat (fun b:B8 => encY b.1) l = cat encY (l.map (·.1))
  | [] => ⟨fun _ h => (by cases h),rfl⟩
  | x :: l => by
    obtain ⟨h1,h2⟩:=bytes_of l
    refine ⟨fun b hb => ?_,?_⟩
    · rcases List.mem_cons.1 hb with rfl | hb
      · exact x.2
      · exact h1 b hb
    · show encY x.1 ++ cat (fun b:B8 => encY b.1) l = encY x.1 ++ cat encY (l.map (·.1))
      rw [h2]
theorem ty_byte (y:Ty Tryz.prog h (n + 1) 5 ps):∃ b:B8,ps = encY b.1:=by
 obtain ⟨z,rfl,hz⟩:=tyg_int Tryz.underlying5 y
 obtain ⟨b,rfl,hb⟩:=u8_nat hz
 exact ⟨⟨b,hb⟩,rfl⟩
end
end Go.Tidy
namespace Go.Tidy
open Go Go.Proofs Tab
variable {tp:TProg}
section
variable {h:TH} {K:Regs → TH → Prop} {rest:List TOper} {d:Option Tmp} {ty:TypeId} {i:Nat} {x y:Operand} {u:TypeId} {L:Rg} {l:List Nat}
theorem WOL.ne1003 {p:Pkt} (hg:GoodW p) (hx:getL L x = some (pakP p)) (hy:getL L y = some (pakP p))
    (w:∀ r,Kn (putL L d (.bool false)) r → WO Tryz.prog tp rest r h K):∀ r,Kn L r → WO Tryz.prog tp (⟨d,.binOp .neq 84 x y u,ty,none,[],i⟩ :: rest) r h K:=by
  intro r k
  have ex:=getO_eval (k.o hx)
  have ey:=getO_eval (k.o hy)
  have pl:=pakP_plain hg.1
  have hb:=pv_eq1003 (s:=p.1) (c:=p.2.1) hg.2.1 hg.2.2.1 hg.2.2.2
  have eg:eqT Tryz.prog 84 (pakP p) (pakP p) = none:=eqT_agg
  refine WO.plainly rfl rfl rfl (by simp [fastOp,fastBin,ex,ey,pakP,pak]) (by simp [valueOp,ex,ey,eg]) (plainOp_of (by rfl) (fun q hq => ?_) ?_ rfl) (w _ (k.put d _))
  · simp only [Op.operands] at hq
    simp at hq
    rcases hq with rfl | rfl
    · rw [ex]; exact pl
    · rw [ey]; exact pl
  · show pv Tryz.prog (execOp r.eval ⟨d, .binOp .neq 84 x y u, ty, "", #[], none⟩) = _
    have hg:Tryz.prog.eqGuardType Tryz.prog.depth 84 = false:=by kernel_rfl
    unfold pakP pak at ex ey
    unfold pak at hb
    simp [execOp,pv_bind,pv_map,pv_pure,pv_program,ex,ey,eqGuard,binOp,hb,hg]
end
def rcvP (l:List Nat) (E:Nat → List Int):List Pkt:=cond (Nat.ble l.length 20480) (pkL l (plcF l E l.length)) []
def rcvS (l:List Nat) (E:Nat → List Int):List (Int × Int):=cond (Nat.ble l.length 20480) (skp l.length (okF l E) l.length) []
def rcvE (l:List Nat):Int:=cond (Nat.ble l.length 20480) 0 26
theorem rcv_parts {l:List Nat} {E:Nat → List Int} {h:TH} {w:Value} (a:RcvA l E h w):∃ w1 w2,w = .tuple #[w1,w2,zi (rcvE l)] ∧ SlL encP 5 h w1 (rcvP l E) ∧ SlL encS 2 h w2 (rcvS l E):=by
 unfold rcvE rcvP rcvS
 rcases a with ⟨a1,rfl⟩ | ⟨a1,w1,w2,rfl,s1,s2⟩
 ·rw [ble_no (show ¬ l.length ≤ 20480 by omega)]
  exact ⟨_,_,rfl,SlL.nil,SlL.nil⟩
 ·rw [ble_yes a1]
  exact ⟨_,_,rfl,s1,s2⟩
theorem rcv_good {l:List Nat} {E:Nat → List Int} (hE:FmE l E) {p:Pkt} (hp:p ∈ rcvP l E):GoodW p:=by
 unfold rcvP at hp
 cases hb:Nat.ble l.length 20480 with
 | false => rw [hb] at hp; cases hp
 | true =>
  rw [hb] at hp
  obtain ⟨a,ha,rfl⟩:=List.mem_map.1 (show p ∈ (plcF l E l.length).map (pkF l) from hp)
  have ok:=(plc_lt _ _ _ _ ha).2.1
  obtain ⟨_,e2⟩:=okF_yes ok
  rw [← e2]
  exact deP_good (hE a)
theorem rcv_len {l:List Nat} {E:Nat → List Int}:(rcvP l E).length ≤ 20480 ∧ (rcvS l E).length ≤ 20481:=by
 unfold rcvP rcvS
 cases hb:Nat.ble l.length 20480 with
 | false => exact ⟨Nat.zero_le _,Nat.zero_le _⟩
 | true =>
  have hl:=Nat.le_of_ble_eq_true hb
  have h1:(plcF l E l.length).length ≤ l.length:=plc_len _ _ _
  have h2:=spn_len l.length (okF l E) l.length
  refine ⟨?_,?_⟩
  ·show (pkL l (plcF l E l.length)).length ≤ 20480
   unfold pkL
   rw [List.length_map]
   omega
  ·show (skp l.length (okF l E) l.length).length ≤ 20481
   unfold skp
   exact Nat.le_trans wsp_len (by omega)
section
variable {h:TH} {l:List Nat} {v:Value}
set_option maxHeartbeats 4000000 in
set_option maxRecDepth 10000 in
theorem k1007 (H:Has tp) (X:HasX tp) (Y:HasY tp) (A:Awk tp) (hb:Byt l) (s:SlL encY 1 h v l) (f:Free0 h.next h) :
  CallW Tryz.prog tp (.func (.func 8) #[] #[]) #[v] h fun w _ => w = .bool true:=by
 obtain ⟨E,hE⟩:=fmE_ex l
 refine CallW.fnL (H.fn 8 f1007 rfl rfl) ?_
 refine WL.sr <| WOL.as rfl <| WOL.nil <| keep [(0,_)] ⟨rfl,trivial⟩ ?_
 refine WL.seq <| WL.sr <| WOL.mv rfl <| WOL.len rfl s u116 ?_
 refine WOL.bi (v:=.bool (decide ((l.length:Int) > 200))) rfl rfl rfl <| WOL.mv rfl ?_
 have main:l.length ≤ 20481 → ∀ a,Kn [(0,v)] a → W Tryz.prog tp false (.seq (.reg r1007_3) (.seq (.reg r1007_4) (.seq (.reg r1007_5) (.seq (.seq (.reg r1007_6) (.cond (.tmp 41) (.seq (.reg r1007_7) .ret) .skip)) (.seq (.seq (.reg r1007_8) (.block 0 (.loop (.seq (.reg r1007_9) (.seq (.cond (.tmp 45) .skip (.exit 0)) (.seq (.block 1 (.seq (.reg r1007_10) (.seq (.reg r1007_11) (.cond (.tmp 54) (.seq (.reg r1007_12) .ret) .skip)))) (.reg r1007_13))))))) (.seq (.reg r1007_14) .ret)))))) a h (Fin Tryz.prog f1007.results fun w _ => w = .bool true):=by
  intro hl
  refine WL.sr <| WOL.bs0 u116 tp5 (by decide) (by decide) fun h1 N1 => WOL.mv rfl ?_
  obtain ⟨v2,h2,ap,X2,s2,b',rfl,_,F2⟩:=append_own u116 tp5 N1.at_ (s.hx N1.hx) (by omega) (eY.all l)
  refine WOL.ap rfl rfl ap ?_
  have Y2:=N1.hx.trans X2
  refine WOL.cl1 rfl rfl ((k67 H X Y hb hE (by omega) s2 F2 (f.on Y2)).mono ?_)
  rintro w h3 ⟨X3,R3⟩
  obtain ⟨w1,w2,rfl,p1,q1⟩:=rcv_parts R3
  have Y3:=Y2.trans X3
  refine WOL.mv rfl <| WOL.ex rfl rfl <| WOL.ex rfl rfl <| WOL.ex rfl rfl <| WOL.as rfl <| WOL.as rfl <| WOL.as rfl <| WOL.nil <| keep [(0,_),(3,_),(4,_),(5,_)] ⟨rfl,rfl,rfl,rfl,trivial⟩ ?_
  refine WL.sr <| WOL.mv rfl ?_
  refine WOL.cl1 rfl rfl ((k1019 H Y hb hE (by omega) (s.hx Y3) (f.on Y3)).mono ?_)
  rintro w h4 ⟨X4,R4⟩
  obtain ⟨w3,w4,rfl,p2,q2⟩:=rcv_parts R4
  have Y4:=Y3.trans X4
  refine WOL.mv rfl <| WOL.ex rfl rfl <| WOL.ex rfl rfl <| WOL.ex rfl rfl <| WOL.as rfl <| WOL.as rfl <| WOL.as rfl <| WOL.nil <| keep [(3,_),(4,_),(5,_),(6,_),(7,_),(8,_)] ⟨rfl,rfl,rfl,rfl,rfl,rfl,trivial⟩ ?_
  have ln:=rcv_len (l:=l) (E:=E)
  refine WL.sr <| WOL.mv rfl ?_
  refine WOL.cl1 rfl rfl ((k1020 H (p1.hx X4) (by omega) (f.on Y4)).mono ?_)
  rintro w9 h5 ⟨X5,o9⟩
  have Y5:=Y4.trans X5
  have p9:=o9.sl eP
  refine WOL.as rfl <| WOL.nil <| keep [(4,_),(5,_),(6,_),(7,_),(8,_),(9,_)] ⟨rfl,rfl,rfl,rfl,rfl,rfl,trivial⟩ ?_
  refine WL.seq <| WL.sr <| WOL.mv rfl <| WOL.len rfl p9 u1004 <| WOL.mv rfl <| WOL.len rfl (p2.hx X5) u1004 ?_
  refine WOL.bi (v:=.bool false) rfl rfl (by show some (Value.bool (((rcvP l E).length:Int) != ((rcvP l E).length:Int))) = _; rw [bne_self_eq_false]) <| WOL.nil <| keep [(4,_),(5,_),(6,_),(7,_),(8,_),(9,_),(41,_)] ⟨rfl,rfl,rfl,rfl,rfl,rfl,rfl,trivial⟩ ?_
  refine WL.no rfl <| WL.skip ?_
  refine WL.seq <| WL.sr <| WOL.mv rfl <| WOL.len rfl p9 u1004 <| WOL.mv rfl <| WOL.nil <| keep [(4,_),(5,_),(6,_),(7,_),(8,_),(42,_),(43,_),(44,_)] ⟨rfl,rfl,rfl,rfl,rfl,rfl,rfl,rfl,trivial⟩ ?_
  refine WL.block ?_
  refine WL.loop (fun q a g => ∃ j:Nat,j ≤ (rcvP l E).length ∧ q = (rcvP l E).length - j ∧ HX h5 g ∧ Kn [(4,w2),(5,zi (rcvE l)),(6,w3),(7,w4),(8,zi (rcvE l)),(42,w9),(43,zi ((rcvP l E).length:Nat)),(44,zi (j:Nat))] a) (rcvP l E).length (fun a q => ⟨0,by omega,by omega,HX.refl _,q.sub ⟨rfl,rfl,rfl,rfl,rfl,rfl,rfl,rfl,trivial⟩⟩) ?_
  rintro q a g ⟨j,hj,rfl,X6,q⟩
  refine q.go ?_
  refine WL.sr <| WOL.bi (v:=.bool (decide ((j:Int) < ((rcvP l E).length:Int)))) rfl rfl rfl <| WOL.nil <| keep [(4,_),(5,_),(6,_),(7,_),(8,_),(42,_),(43,_),(44,_),(45,_)] ⟨rfl,rfl,rfl,rfl,rfl,rfl,rfl,rfl,rfl,trivial⟩ ?_
  refine WL.seq ?_
  by_cases hlt:j < (rcvP l E).length
  ·rw [show decide ((j:Int) < ((rcvP l E).length:Int)) = true from decide_eq_true (by omega)]
   have hp:(rcvP l E)[j]? = some (rcvP l E)[j]:=List.getElem?_eq_getElem hlt
   obtain ⟨b1,o1,c1,x1,y1,e1,g1,g2,g3,g4,_⟩:=(p9.hx X6).at eP u1004 tp1003 hp .i64
   refine WL.yes rfl <| WL.skip ?_
   refine WL.seq <| WL.block ?_
   refine WL.sr <| WOL.mv rfl <| WOL.ix rfl rfl g1 <| WOL.ld rfl (load_row tp1003 g2 g4 g3) ?_
   refine WOL.al tp1003 fun h7 N7 => WOL.as rfl ?_
   have n7:=N7.next
   have n6:=X6.next
   have ny:=Y5.next
   refine WOL.sto (vs:=encP (rcvP l E)[j]) rfl rfl tp1003 N7.at_ rfl rfl (Nat.le_of_ble_eq_true rfl) rfl ((f.on (Y5.trans X6)).hx N7.hx) (Nat.le_refl _) fun h8 P8 => ?_
   have X8:HX g h8:=P8.hx _ N7.hx (Nat.le_refl _)
   refine WOL.nil <| keep [(4,_),(5,_),(6,_),(7,_),(8,_),(10,_),(11,_),(42,_),(43,_),(44,_)] ⟨rfl,rfl,rfl,rfl,rfl,rfl,rfl,rfl,rfl,rfl,trivial⟩ ?_
   obtain ⟨b2,o2,c2,x2,y2,e2,k1,k2,k3,k4,_⟩:=(((p2.hx X5).hx X6).hx X8).at eP u1004 tp1003 hp .i64
   refine WL.sr <| WOL.ld rfl (load_row tp1003 P8.at_ rfl (Nat.le_of_ble_eq_true rfl)) <| WOL.mv rfl <| WOL.mv rfl <| WOL.ix rfl rfl k1 <| WOL.ld rfl (load_row tp1003 k2 k4 k3) ?_
   refine WOL.ne1003 (p:=(rcvP l E)[j]) (rcv_good hE (List.getElem_mem hlt)) rfl rfl <| WOL.nil <| keep [(4,_),(5,_),(6,_),(7,_),(8,_),(42,_),(43,_),(44,_),(54,_)] ⟨rfl,rfl,rfl,rfl,rfl,rfl,rfl,rfl,rfl,trivial⟩ ?_
   refine WL.no rfl <| WL.skip ?_
   refine WL.reg ?_
   refine WOL.bi (v:=zi ((j + 1:Nat):Int)) rfl rfl (by show some (Value.int .i64 (fwrap .i64 ((j:Int) + 1))) = _; rw [fwrap_i64 (by omega) (by omega)]; rfl) ?_
   refine WOL.mv rfl <| WOL.nil ?_
   exact fun a q => ⟨(rcvP l E).length - (j + 1),by omega,j + 1,by omega,rfl,X6.trans X8,q.sub ⟨rfl,rfl,rfl,rfl,rfl,rfl,rfl,rfl,trivial⟩⟩
  ·rw [show decide ((j:Int) < ((rcvP l E).length:Int)) = false from decide_eq_false (by omega)]
   refine WL.no rfl <| WL.exit ?_
   refine WL.sr <| WOL.mv rfl <| WOL.mv rfl ?_
   refine WOL.cl2 rfl rfl rfl ((k59 H (((q1.hx X4).hx X5).hx X6) ((q2.hx X5).hx X6) (by omega)).mono ?_)
   rintro w g8 ⟨rfl,e8⟩
   replace e8:=e8.symm
   subst e8
   refine WOL.mv rfl <| WOL.now (b:=true) rfl rfl <| WOL.mv rfl <| WOL.now (b:=true) rfl rfl <| WOL.mv rfl <| WOL.now (b:=true) rfl rfl ?_
   refine WOL.bi (v:=.bool true) rfl rfl (by show some (Value.bool (rcvE l == rcvE l)) = _; rw [beq_self_eq_true]) <| WOL.pkt rfl rfl <| WOL.mv rfl ?_
   refine WOL.now (b:=true) rfl rfl <| WOL.cl0 rfl ((k11 A _).mono ?_)
   rintro w g9 ⟨rfl,e9⟩
   replace e9:=e9.symm
   subst e9
   refine WOL.pkt rfl rfl <| WOL.as rfl <| WOL.nil ?_
   exact WL.ret (WL.end_ rfl rfl)
 by_cases h2:200 < l.length
 ·rw [show decide ((l.length:Int) > 200) = true from decide_eq_true (by omega)]
  refine WOL.now (b:=true) rfl rfl <| WOL.mv rfl <| WOL.now (b:=true) rfl rfl <| WOL.len rfl s u116 <| WOL.now (b:=true) rfl rfl ?_
  refine WOL.bi (v:=.bool ((l.length:Int) != 20481)) rfl rfl rfl <| WOL.pkt rfl rfl <| WOL.nil <| keep [(0,_),(19,_)] ⟨rfl,rfl,trivial⟩ ?_
  by_cases h3:l.length = 20481
  ·rw [show ((l.length:Int) != 20481) = false by rw [h3]; rfl]
   refine WL.no rfl <| WL.skip ?_
   exact kto (main (by omega)) ⟨rfl,trivial⟩
  ·rw [show ((l.length:Int) != 20481) = true by rw [bne_iff_ne]; omega]
   refine WL.yes rfl <| WL.sr <| WOL.cl0 rfl ((k11 A h).mono ?_)
   rintro v h4 ⟨rfl,rfl⟩
   refine WOL.as rfl <| WOL.nil ?_
   exact WL.ret (WL.end_ rfl rfl)
 ·rw [show decide ((l.length:Int) > 200) = false from decide_eq_false (by omega)]
  refine WOL.skp (b:=false) rfl rfl <| WOL.skp (b:=false) rfl rfl <| WOL.skp (b:=false) rfl rfl <| WOL.pkf rfl rfl <| WOL.nil <| keep [(0,_),(19,_)] ⟨rfl,rfl,trivial⟩ ?_
  refine WL.no rfl <| WL.skip ?_
  exact kto (main (by omega)) ⟨rfl,trivial⟩
end
attribute [local irreducible] Ty valOf
set_option maxRecDepth 100000 in
theorem law1007:Law tpE 8 3 [106]:=by
 intro h us f ha
 match us,ha with
 | [x0],⟨⟨p0,y0,e0⟩,_⟩ =>
  obtain ⟨v,l,rfl,s,_⟩:=tyg_slice (enc:=fun b:B8 => encY b.1) (k:=1) ⟨fun _ => rfl,fun _ => rfl⟩ u116 (fun p y => ty_byte y) y0
  obtain ⟨h1,h2⟩:=bytes_of l
  have s':SlL encY 1 h v (l.map (·.1)):=by
   unfold SlL at s ⊢
   rw [← h2,List.length_map]
   exact s
  have ev:valOf Tryz.prog 106 [v] = v:=by unfold valOf; rw [u116]; rfl
  rw [ev] at e0
  subst e0
  exact k1007 hasE hasXE hasYE awkE h1 s' f
end Go.Tidy
