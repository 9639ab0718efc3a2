/- A part of the proof. -/
import Derived.Test.YtjibbhaeaikhpaaGreatDoorPa6
import Derived.Test.YtjibbhaeaikhpaaGreatDoorPa5
set_option linter.all false
namespace Go.Tidy
open Go Go.Proofs Tab
variable {tp:TProg}
def optL (L:Rg):Option Operand → Option (Option Value)
 | none => some none
 | some x => (getL L x).map some
theorem optL_o {L:Rg} {a:Regs} (k:Kn L a) {x:Option Operand} {v:Option Value} (h:optL L x = some v):x.map a.eval = v:=by
 cases x with
 | none => cases h; rfl
 | some x =>
  simp only [optL,Option.map_eq_some_iff] at h
  obtain ⟨w,h1,rfl⟩:=h
  show some (a.eval x) = some w
  rw [getO_eval (k.o h1)]
section
variable {P:Program} {h:TH} {K:Regs → TH → Prop} {rest:List TOper} {d:Option Tmp} {ty:TypeId} {i:Nat} {x y:Operand} {t u e:TypeId} {L:Rg} {v vx:Value}
theorem WOL.slG {lo hi:Option Operand} {vlo vhi:Option Value} (hx:getL L x = some vx) (hp:plain vx = false) (hl:optL L lo = some vlo) (hh:optL L hi = some vhi) (hv:sliceT P t vx vlo vhi none h = some v) (w:∀ a,Kn (putL L d v) a → WO P tp rest a h K):∀ a,Kn L a → WO P tp (⟨d,.slice t x lo hi none,ty,none,[],i⟩ :: rest) a h K:=fun a k => by
 have e1:=getO_eval (k.o hx)
 have e2:=optL_o k hl
 have e3:=optL_o k hh
 refine WO.op (h1:=h) rfl rfl (fun call => ?_) (w _ (k.put d _))
 have hq:plainOp P ⟨d,.slice t x lo hi none,ty,none,[],i⟩ a.eval = none:=by
  unfold plainOp
  simp [plainly,Op.operands,e1,hp]
 simp only [stepOp,heapFirst,fastOp,valueOp,hq,heapOp,e1,e2,e3,Option.map_none,hv,Bool.cond_false]
 rfl
theorem sliceA {b off n l hh m:Nat} {z:List Value} {row:Bool} {cc:List Value} {wr:Bool} {el:TypeId} {lo hi:Option Value} (hu:P.underlying t = some (.array n e)) (he:Tp P e 1 z row) (hg:At h b (.cells cc true wr el)) (hc:cut3 n n lo hi none = some (l,hh,m)):sliceT P t (.pointer (some ⟨b,off,none⟩)) lo hi none h = some (.slice (some ⟨b,off + l,none⟩) (hh - l) (m - l)):=by
 obtain ⟨inf,q1,q2,_⟩:=he.i
 simp only [sliceT,hu,hc,Option.bind_some,q1,hg.get,q2,Nat.mul_one]
end
theorem u109:Tryz.prog.underlying 82 = some (.array 3 25):=by kernel_rfl
theorem fo111_0:fieldOff Tryz.prog 92 0 = some 0:=by kernel_rfl
theorem fo111_1:fieldOff Tryz.prog 92 1 = some 1:=by kernel_rfl
theorem fo111_2:fieldOff Tryz.prog 92 2 = some 2:=by kernel_rfl
theorem tp111:Tp Tryz.prog 92 5 [.int .i64 0,.int .i64 0,.float .f32 0,.float .f32 0,.float .f32 0] true:=tp_of (by kernel_rfl) (by kernel_rfl) rfl
theorem tp109:Tp Tryz.prog 82 3 [.float .f32 0,.float .f32 0,.float .f32 0] true:=tp_of (by kernel_rfl) (by kernel_rfl) rfl
def pak (s c:Int) (x y z:Nat):Value:=.agg #[zi s,zi c,.float .f32 x,.float .f32 y,.float .f32 z]
def pakE (s c:Int) (es:List Int):Int:=firstNZ [outB s 0 255,outB c 0 65535,firstNZ es]
section
variable {h:TH} {s c:Int} {x y z:Nat} {es:List Int}
theorem slR {b:Nat} {wr:Bool} {el:TypeId} (A:At h b (.cells [zi s,zi c,.float .f32 x,.float .f32 y,.float .f32 z] true wr el)):SlL encF 1 h (.slice (some ⟨b,2,none⟩) 3 3) [x,y,z] :=
 ⟨_,3,rfl,Nat.le_refl _,rfl,.inr ⟨b,2,_,_,_,_,rfl,A,rfl,Nat.le_of_ble_eq_true rfl⟩⟩
theorem k116 (H:Has tp) (X:HasX tp) (hE:SErr [x,y,z] es):CallW Tryz.prog tp (.func (.func 127) #[] #[]) #[pak s c x y z] h fun v h' => v = zi (pakE s c es) ∧ HX h h':=by
 refine CallW.fnL (H.fn 127 f116 rfl rfl) ?_
 refine WL.sr <| WOL.box rfl fun h1 N1 => WOL.as rfl <| WOL.nil <| keep [(1,_)] ⟨rfl,trivial⟩ ?_
 have A1:At h1 h.next (.cells [zi s,zi c,.float .f32 x,.float .f32 y,.float .f32 z] true true 92):=N1.at_
 refine WL.sr <| WOL.fa rfl (fa_of fo111_0) <| WOL.ld rfl (load_one tp3 A1 rfl) <| WOL.fa rfl (fa_of fo111_1) <| WOL.ld rfl (load_one tp3 A1 rfl) <| WOL.fa rfl (fa_of fo111_2) ?_
 refine WOL.slG rfl rfl rfl rfl (sliceA u109 tp25 A1 rfl) ?_
 refine WOL.lk3 rfl rfl rfl rfl fun M => ((k72 H s 0 255 _).mono ?_)
 rintro v h2 ⟨rfl,rfl⟩
 refine WOL.lk3 rfl rfl rfl rfl fun M2 => ((k72 H c 0 65535 _).mono ?_)
 rintro v h3 ⟨rfl,rfl⟩
 refine WOL.cl1 rfl rfl ((k99 H X (slR A1) hE (by simp)).mono ?_)
 rintro v h4 ⟨rfl,rfl⟩
 refine WOL.bsl rfl u166 tp30 (by decide) (by decide) (by decide) (filled_ints3 _ _ _) fun h5 N5 => ?_
 refine WOL.cl1 rfl rfl ((k71 H (l:=[_,_,_]) N5.at_.get (by simp)).mono ?_)
 rintro v h6 ⟨rfl,rfl⟩
 refine WOL.as rfl <| WOL.nil ?_
 exact WL.done rfl ⟨rfl,N1.hx.trans N5.hx⟩
end
theorem u106:Tryz.prog.underlying 85 = some (.array 20 5):=by kernel_rfl
theorem tp106:Tp Tryz.prog 85 20 (List.replicate 20 (.int .u8 0)) true:=tp_of (by kernel_rfl) (by kernel_rfl) rfl
section
variable {P:Program} {h:TH} {K:Regs → TH → Prop} {rest:List TOper} {d:Option Tmp} {ty:TypeId} {i:Nat} {x:Operand} {t e:TypeId} {L:Rg}
theorem WOL.sap {q:Addr} {n m c:Nat} (hu:P.underlying t = some (.array n e)) (hn:0 < n) (hm:n ≤ m) (hx:getL L x = some (.slice (some q) m c)) (w:∀ a,Kn (putL L d (.pointer (some q))) a → WO P tp rest a h K):∀ a,Kn L a → WO P tp (⟨d,.sliceToArrayPointer t x,ty,none,[],i⟩ :: rest) a h K:=fun a k => by
 have e1:=getO_eval (k.o hx)
 refine WO.op (h1:=h) rfl rfl (fun call => ?_) (w _ (k.put d _))
 have hq:plainOp P ⟨d,.sliceToArrayPointer t x,ty,none,[],i⟩ a.eval = none:=by
  unfold plainOp
  simp [plainly,Op.operands,e1,plain,plain1,plain0]
 have ha:arrayAtT P t (.slice (some q) m c) = some (.pointer (some q)):=by
  simp only [arrayAtT,hu]
  rw [ble_yes hm,show Nat.blt 0 n = true by rw [Nat.blt_eq]; exact hn]
  rfl
 simp only [stepOp,heapFirst,fastOp,valueOp,hq,heapOp,e1,ha,Bool.cond_false]
end
def wd (x y z:Nat):Nat → Nat | 0 => x | 1 => y | _ => z
def bodyK (s c x y z:Nat) (k:Nat):List Nat:=[90,s] ++ bytesN c 2 ++ (List.range k).flatMap fun i => bytesN (wordF (wd x y z i)) 4
def bodyB (s c x y z:Nat):List Nat:=bodyK s c x y z 3
def frameB (s c x y z:Nat):List Nat:=bodyB s c x y z ++ bytesN (tot (bodyB s c x y z)).toNat 4
theorem bytesN_len {n k:Nat}:(bytesN n k).length = k:=by simp [bytesN]
theorem bytesN_byt {n k:Nat}:Byt (bytesN n k):=fun b hb => by
 unfold bytesN at hb
 obtain ⟨i,_,rfl⟩:=List.mem_map.1 hb
 exact Nat.mod_lt _ (by decide)
theorem bodyK_len {s c x y z:Nat}:∀ k,(bodyK s c x y z k).length = 4 + 4 * k:=by
 intro k
 have:∀ k,((List.range k).flatMap fun i => bytesN (wordF (wd x y z i)) 4).length = 4 * k:=by
  intro k
  induction k with
  | zero => rfl
  | succ k ih => rw [List.range_succ,List.flatMap_append,List.length_append,ih]; simp [bytesN_len]; omega
 unfold bodyK
 rw [List.length_append,List.length_append,this,bytesN_len]
 rfl
theorem bodyK_byt {s c x y z:Nat} (hs:s < 256):∀ k,Byt (bodyK s c x y z k):=by
 intro k b hb
 unfold bodyK at hb
 rw [List.mem_append,List.mem_append] at hb
 rcases hb with (hb | hb) | hb
 ·simp at hb; rcases hb with rfl | rfl <;> omega
 ·exact bytesN_byt b hb
 ·obtain ⟨i,_,hb⟩:=List.mem_flatMap.1 hb
  exact bytesN_byt b hb
theorem frameB_len {s c x y z:Nat}:(frameB s c x y z).length = 20:=by
 unfold frameB bodyB
 rw [List.length_append,bodyK_len,bytesN_len]
theorem idx109 {x y z k:Nat} (hk:k < 3):indexT Tryz.prog 82 (.agg #[.float .f32 x,.float .f32 y,.float .f32 z]) (zi (k:Nat)) = some (.float .f32 (wd x y z k)):=by
 have e0:indexT Tryz.prog 82 (.agg #[.float .f32 x,.float .f32 y,.float .f32 z]) (zi 0) = some (.float .f32 x):=by kernel_rfl
 have e1:indexT Tryz.prog 82 (.agg #[.float .f32 x,.float .f32 y,.float .f32 z]) (zi 1) = some (.float .f32 y):=by kernel_rfl
 have e2:indexT Tryz.prog 82 (.agg #[.float .f32 x,.float .f32 y,.float .f32 z]) (zi 2) = some (.float .f32 z):=by kernel_rfl
 obtain rfl | rfl | rfl:k = 0 ∨ k = 1 ∨ k = 2:=by omega
 ·exact e0
 ·exact e1
 ·exact e2
theorem OwnF.at_ {α:Type} {enc:α → List Value} {n0:Nat} {h:TH} {v:Value} {e:TypeId} {l:List α} (o:OwnF enc n0 h v e l) (hl:l ≠ []):∃ b fix,v = .slice (some ⟨b,0,none⟩) l.length l.length ∧ At h b (.cells (cat enc l) fix true e):=by
 rcases o with (⟨_,rfl⟩ | ⟨_,b,rfl,_,h3⟩) | ⟨b,rfl,_,h3⟩
 ·exact absurd rfl hl
 ·exact ⟨b,_,rfl,h3⟩
 ·exact ⟨b,_,rfl,h3⟩
section
variable {h:TH} {s c x y z:Nat}
set_option maxHeartbeats 2000000 in
set_option maxRecDepth 10000 in
theorem k117 (H:Has tp) (Y:HasY tp) (hs:s < 256) (hc:c < 65536) (hx:x < 4294967296) (hy:y < 4294967296) (hz:z < 4294967296) (f:Free0 h.next h) :
    CallW Tryz.prog tp (.func (.func 128) #[] #[]) #[pak s c x y z] h fun v h' => v = .agg (cat encY (frameB s c x y z)).toArray ∧ HX h h':=by
  have hw:∀ k,wd x y z k < 4294967296:=fun k => by unfold wd; split <;> assumption
  refine CallW.fnL (H.fn 128 f117 rfl rfl) ?_
  refine WL.sr <| WOL.box rfl fun h1 N1 => WOL.al tp106 fun h2 N2 => WOL.nil <| keep [(1,_),(2,_)] ⟨rfl,rfl,trivial⟩ ?_
  have A1:At h2 h.next (.cells [zi s,zi c,.float .f32 x,.float .f32 y,.float .f32 z] true true 92):=N1.at_.hx N2.hx
  have A2:=N2.at_
  have X2:=N1.hx.trans N2.hx
  have f2:=f.on X2
  refine WL.sr <| WOL.fa rfl (fa_of fo111_0) <| WOL.ld rfl (load_one tp3 A1 rfl) ?_
  refine WOL.cvw u3 u5 rfl ?_
  rw [u8_wrap,Int.emod_eq_of_lt (by omega) (by omega)]
  refine WOL.bsl rfl u116 tp5 (by decide) (by decide) (by decide) (cs:=cat encY [90,s]) rfl fun h3 N3 => ?_
  refine WOL.fa rfl (fa_of fo111_1) <| WOL.ld rfl (load_one tp3 (A1.hx N3.hx) rfl) ?_
  have O3:OwnF encY h2.next h3 (.slice (some ⟨h2.next,0,none⟩) 2 2) 5 [90,s]:=.inr ⟨_,rfl,Nat.le_refl _,N3.at_⟩
  refine WOL.cl3 rfl rfl rfl rfl ((k127 H (k:=2) O3 (by simp) (by decide) N3.hx (Nat.le_refl _) N3.hx.next f2).mono ?_)
  rintro w h4 ⟨X4,O4,n4⟩
  refine WOL.as rfl <| WOL.nil <| keep [(1,_),(2,_),(3,_)] ⟨rfl,rfl,rfl,trivial⟩ ?_
  refine WL.seq <| WL.sr <| WOL.fa rfl (fa_of fo111_2) ?_
  refine WOL.ld rfl (load_row tp109 (A1.hx X4) rfl (Nat.le_of_ble_eq_true rfl)) <| WOL.mv rfl <| WOL.nil <| keep [(1,_),(2,_),(3,_),(14,_),(15,_)] ⟨rfl,rfl,rfl,rfl,rfl,trivial⟩ ?_
  refine WL.block ?_
  have n3:=N3.hx.next
  refine WL.loop (fun q a g => ∃ (k:Nat) (w:Value),k ≤ 3 ∧ q = 3 - k ∧ HX h2 g ∧ OwnF encY h2.next g w 5 (bodyK s c x y z k) ∧ h2.next ≤ g.next ∧ Kn [(1,ptr h.next),(2,ptr h1.next),(3,w),(14,.agg #[.float .f32 x,.float .f32 y,.float .f32 z]),(15,zi (k:Nat))] a) 3 (fun a q => ⟨0,w,by omega,by omega,X4,by simpa [bodyK] using O4,by omega,q.sub ⟨rfl,rfl,rfl,rfl,rfl,trivial⟩⟩) ?_
  rintro q a g ⟨k,w,hk,rfl,X5,O5,n5,q⟩
  refine q.go ?_
  refine WL.sr <| WOL.bi (v:=.bool (decide ((k:Int) < 3))) rfl rfl rfl <| WOL.nil <| keep [(1,_),(2,_),(3,_),(14,_),(15,_),(16,_)] ⟨rfl,rfl,rfl,rfl,rfl,rfl,trivial⟩ ?_
  refine WL.seq ?_
  have lk:=bodyK_len (s:=s) (c:=c) (x:=x) (y:=y) (z:=z) k
  by_cases hk3:k < 3
  · rw [show decide ((k:Int) < 3) = true from decide_eq_true (by omega)]
    refine WL.yes rfl <| WL.skip ?_
    refine WL.seq <| WL.block ?_
    refine WL.sr <| WOL.idx rfl rfl (idx109 hk3) <| WOL.as rfl <| WOL.nil <| keep [(1,_),(2,_),(3,_),(5,_),(14,_),(15,_)] ⟨rfl,rfl,rfl,rfl,rfl,rfl,trivial⟩ ?_
    refine WL.reg <| WOL.mv rfl <| WOL.mv rfl ?_
    refine WOL.cl2 rfl rfl rfl ((k128 H Y (hw k) O5 (by omega) X5 (Nat.le_refl _) n5 f2).mono ?_)
    rintro w2 g2 ⟨X6,O6,n6⟩
    refine WOL.as rfl <| WOL.nil ?_
    refine WL.reg ?_
    refine WOL.bi (v:=zi ((k + 1:Nat):Int)) rfl rfl (by show some (Value.int .i64 (fwrap .i64 ((k:Int) + 1))) = _; rw [fwrap_i64 (by omega) (by omega)]; rfl) ?_
    refine WOL.mv rfl <| WOL.nil ?_
    exact fun a q => ⟨3 - (k + 1),by omega,k + 1,w2,by omega,rfl,X6,by
      have e:bodyK s c x y z (k + 1) = bodyK s c x y z k ++ bytesN (wordF (wd x y z k)) 4:=by
        unfold bodyK
        rw [List.range_succ,List.flatMap_append,← List.append_assoc]
        simp
      rw [e]; exact O6,by omega,q.sub ⟨rfl,rfl,rfl,rfl,rfl,trivial⟩⟩
  · rw [show decide ((k:Int) < 3) = false from decide_eq_false (by omega)]
    obtain rfl:k = 3:=by omega
    refine WL.no rfl <| WL.exit ?_
    have hb:=bodyK_byt (c:=c) (x:=x) (y:=y) (z:=z) hs 3
    obtain ⟨bo,ew⟩:=O5.form
    have sl:=O5.sl eY
    subst ew
    have ti:=tot_in (bodyK s c x y z 3) (bodyK s c x y z 3).length
    rw [List.take_length] at ti
    obtain ⟨T,hT⟩:∃ T:Nat,tot (bodyK s c x y z 3) = (T:Int):=⟨(tot (bodyK s c x y z 3)).toNat,by omega⟩
    refine WL.sr <| WOL.mv rfl <| WOL.mv rfl ?_
    refine WOL.cl1 rfl rfl ((k129 H sl hb (by omega) (f2.on X5)).mono ?_)
    rintro v g2 ⟨rfl,X6⟩
    have X7:=X5.trans X6
    rw [hT]
    refine WOL.cl3 rfl rfl rfl rfl ((k127 H (k:=4) (O5.hx X6) (by omega) (by decide) X7 (Nat.le_refl _) (by have:=X6.next; omega) f2).mono ?_)
    rintro w3 g3 ⟨X8,O8,n8⟩
    have e:bodyK s c x y z 3 ++ bytesN T 4 = frameB s c x y z:=by
      unfold frameB bodyB
      rw [hT,Int.toNat_natCast]
    rw [e] at O8
    have fl:=frameB_len (s:=s) (c:=c) (x:=x) (y:=y) (z:=z)
    obtain ⟨b,fix,rfl,B⟩:=O8.at_ (fun e => by rw [e] at fl; cases fl)
    have cl:(cat encY (frameB s c x y z)).length = 20:=by rw [eY.cat_len,fl]
    refine WOL.sap u106 (by decide) (by omega) rfl ?_
    refine WOL.ld rfl (load_row tp106 B (l:=cat encY (frameB s c x y z)) (by rw [List.drop_zero,List.take_of_length_le (by omega)]) (by omega)) ?_
    refine WOL.sto (vs:=cat encY (frameB s c x y z)) rfl rfl tp106 (A2.hx X8) rfl cl (Nat.le_of_ble_eq_true rfl) (eY.all _) (f.hx (X2.trans X8)) N1.hx.next fun g4 P4 => ?_
    have X9:=P4.hx _ (X2.trans X8) N1.hx.next
    have B4:=P4.at_
    rw [splice_all _ _ (by rw [cl]; rfl)] at B4
    refine WOL.nil ?_
    exact WL.ret (WL.endC rfl (load_row tp106 B4 (l:=cat encY (frameB s c x y z)) (by rw [List.drop_zero,List.take_of_length_le (by omega)]) (by omega)) ⟨rfl,X9⟩)
end
end Go.Tidy
namespace Go.Tidy
open Go Go.Proofs Tab
variable {tp:TProg}
theorem cat_Y (l:List Nat):cat encY l = l.map fun b => Value.int .u8 (b:Nat):=by
 unfold cat
 induction l with
 | nil => rfl
 | cons b l ih => rw [List.flatMap_cons,ih]; rfl
section
variable {P:Program}
theorem pv_part_at {t:TypeId} {k:IntKind} {xs:List Value} {i:Nat} {v:Value} (hu:P.underlying t = some (.int k)) (hv:xs[i]? = some v):pv P (Go.part t xs.toArray i) = some v:=by
 have e:pv P (isAgg t) = some false:=by unfold isAgg; simp [pv_bind,pv_underlying hu,pv_pure]
 unfold Go.part
 rw [pv_bind,e,Option.bind_some]
 simp only [Bool.false_eq_true,if_false,List.getElem?_toArray,hv]
 rfl
theorem pv_byte {d:Nat} {a b:Nat} (hu:P.underlying 5 = some (.int .u8)):pv P (Op.equalIn (d + 1) 5 (.int .u8 (a:Nat)) (.int .u8 (b:Nat))) = some (decide (a = b)):=by
 rw [Op.equalIn,pv_bind,pv_underlying hu,Option.bind_some]
 simp only [if_pos,pv_pure]
 congr 1
 by_cases h:a = b
 ·subst h; simp
 ·simp [h]; omega
theorem pv_bytes {l l':List Nat} {d:Nat} (hu:P.underlying 5 = some (.int .u8)) (hs:pv P (sizeOf 5) = some 1) (hl:l.length = l'.length)
    (hp:∀ (m:List Nat) i b,m[i]? = some b → pv P (Go.part 5 (m.map fun b => Value.int .u8 (b:Nat)).toArray i) = some (.int .u8 (b:Nat))):∀ m i,i + m = l.length →
    pv P (forIn (List.range' i m) ((none,()):Option Bool × Unit) fun i __s => do
            let __do_lift ← Go.part 5 (l.map fun b => Value.int .u8 (b:Nat)).toArray (i * 1)
            let __do_lift_1 ← Go.part 5 (l'.map fun b => Value.int .u8 (b:Nat)).toArray (i * 1)
            let __do_lift ← Op.equalIn (d + 1) 5 __do_lift __do_lift_1
            if (!__do_lift) = true then pure (ForInStep.done (some false,()))
              else pure (ForInStep.yield (none,()))) = some (if l.drop i = l'.drop i then (none,()) else (some false,()))
  | 0,i,h => by
    rw [List.drop_of_length_le (by omega),List.drop_of_length_le (by omega),if_pos rfl]
    rfl
  | m + 1,i,h => by
    have ih:=pv_bytes (d:=d) hu hs hl hp m (i + 1) (by omega)
    have h1:i < l.length:=by omega
    have h2:i < l'.length:=by omega
    have e1:l[i]? = some l[i]:=List.getElem?_eq_getElem h1
    have e2:l'[i]? = some l'[i]:=List.getElem?_eq_getElem h2
    rw [List.range'_succ,List.forIn_cons,pv_bind,pv_bind,Nat.mul_one,hp _ _ _ e1,Option.bind_some,pv_bind,hp _ _ _ e2,Option.bind_some,pv_bind,pv_byte hu,Option.bind_some]
    rw [List.drop_eq_getElem_cons h1,List.drop_eq_getElem_cons h2]
    by_cases hb:l[i] = l'[i]
    · rw [decide_eq_true hb]
      simp only [Bool.not_true,Bool.false_eq_true,if_false,pv_pure,Option.bind_some]
      rw [ih,hb]
      by_cases hd:l.drop (i + 1) = l'.drop (i + 1)
      · rw [if_pos hd,if_pos (by rw [hd])]
      · rw [if_neg hd,if_neg fun e => hd (List.cons.inj e).2]
    · rw [decide_eq_false hb]
      simp only [Bool.not_false,if_true,pv_pure,Option.bind_some]
      rw [if_neg fun e => hb (List.cons.inj e).1]
end
theorem pv_s5:pv Tryz.prog (sizeOf 5) = some 1:=by kernel_rfl
theorem pv_eq106 {l l':List Nat} (h1:l.length = 20) (h2:l'.length = 20):pv Tryz.prog (Op.equal 85 (.agg (cat encY l).toArray) (.agg (cat encY l').toArray)) = some (decide (l = l')):=by
 rw [cat_Y,cat_Y]
 show pv Tryz.prog (Op.equalIn (9998 + 1 + 1) 85 _ _) = _
 rw [Op.equalIn,pv_bind,pv_underlying u106,Option.bind_some]
 simp only [Std.Legacy.Range.forIn_eq_forIn_range',Std.Legacy.Range.size,pv_bind,pv_s5,Option.bind_some]
 have e:=pv_bytes (P:=Tryz.prog) (l:=l) (l':=l') (d:=9998) u5 pv_s5 (by omega) (fun m i b hb => pv_part_at u5 (by rw [List.getElem?_map,hb]; rfl)) 20 0 (by omega)
 rw [show (20 - 0 + 1 - 1) / 1 = 20 from rfl,e,Option.bind_some,List.drop_zero,List.drop_zero]
 by_cases h:l = l'
 ·rw [if_pos h,decide_eq_true h]; rfl
 ·rw [if_neg h,decide_eq_false h]; rfl
theorem WOL.ne106 {h:TH} {K:Regs → TH → Prop} {rest:List TOper} {d:Option Tmp} {ty:TypeId} {i:Nat} {x y:Operand} {u:TypeId} {L:Rg} {l l':List Nat} (h1:l.length = 20) (h2:l'.length = 20) (hx:getL L x = some (.agg (cat encY l).toArray)) (hy:getL L y = some (.agg (cat encY l').toArray))
    (w:∀ r,Kn (putL L d (.bool !decide (l = l'))) r → WO Tryz.prog tp rest r h K):∀ r,Kn L r → WO Tryz.prog tp (⟨d,.binOp .neq 85 x y u,ty,none,[],i⟩ :: rest) r h K:=by
  intro r k
  have ex:=getO_eval (k.o hx)
  have ey:=getO_eval (k.o hy)
  have px:∀ l:List Nat,plain (.agg (cat encY l).toArray) = true:=fun l => by
    rw [cat_Y]
    show ((l.map fun b => Value.int .u8 (b:Nat)).toArray.toList).all plain0 = true
    simp [plain0]
  refine WO.plainly rfl rfl rfl (by simp [fastOp,fastBin,ex,ey]) (by simp [valueOp,ex,ey,eqT_agg]) (plainOp_of (by rfl) (fun q hq => ?_) ?_ rfl) (w _ (k.put d _))
  · simp only [Op.operands] at hq
    simp at hq
    rcases hq with rfl | rfl
    · rw [ex]; exact px l
    · rw [ey]; exact px l'
  · show pv Tryz.prog (execOp r.eval ⟨d, .binOp .neq 85 x y u, ty, "", #[], none⟩) = _
    have hg:Tryz.prog.eqGuardType Tryz.prog.depth 85 = false:=by kernel_rfl
    simp [execOp,pv_bind,pv_map,pv_pure,pv_program,ex,ey,eqGuard,binOp,pv_eq106 h1 h2,hg]
end Go.Tidy
namespace Go.Tidy
open Go Go.Proofs Tab
variable {tp:TProg}
theorem lockOf_in:∀ (ls:List Operand) (a:Regs) (os:List (Option Nat)) (lk:List Nat),ls.map (fun x => (getO a x).map blockOf) = os.map some → ∀ l,l ∈ lockOf ls a.eval lk → some l ∈ os ∨ l ∈ lk
  | [],_,[],_,_,l,h => .inr h
  | [],_,_ :: _,_,e,_,_ => by simp at e
  | _ :: _,_,[],_,e,_,_ => by simp at e
  | x :: r,a,o :: os,lk,e,l,h => by
    simp only [List.map_cons,List.cons.injEq] at e
    obtain ⟨e1,e2⟩:=e
    rw [Option.map_eq_some_iff] at e1
    obtain ⟨v,e3,e4⟩:=e1
    unfold lockOf at h
    rw [getO_eval e3,e4] at h
    cases o with
    | none => exact (lockOf_in r a os lk e2 l h).imp (List.mem_cons_of_mem _) id
    | some b =>
      rcases List.mem_cons.1 h with rfl | h
      · exact .inl (List.mem_cons_self ..)
      · exact (lockOf_in r a os lk e2 l h).imp (List.mem_cons_of_mem _) id
theorem Free0.heldO {n:Nat} {M:List Nat} {h:TH} {os:List (Option Nat)} (f:Free0 n h) (hM:∀ l,l ∈ M → some l ∈ os ∨ l ∈ h.lock) (hb:∀ b,some b ∈ os → b < n):Free0 n (h.withLock M) :=
 ⟨f.floor,fun l hl => (hM l hl).elim (hb l) (f.lock l)⟩
section
variable {P:Program} {h:TH} {K:Regs → TH → Prop} {rest:List TOper} {d:Option Tmp} {ty:TypeId} {i:Nat} {L:Rg} {f x0 l0:Operand} {ls:List Operand} {fv v0:Value} {ts:Array TypeId}
theorem lockL_o {a:Regs} (k:Kn L a):∀ {l:List Operand} {os:List (Option Nat)},l.map (fun x => (getL L x).map blockOf) = os.map some → l.map (fun x => (getO a x).map blockOf) = os.map some
 | [],[],_ => rfl
 | [],_ :: _,e => by simp at e
 | _ :: _,[],e => by simp at e
 | x :: r,o :: os,e => by
  simp only [List.map_cons,List.cons.injEq] at e ⊢
  obtain ⟨e1,e2⟩:=e
  rw [Option.map_eq_some_iff] at e1
  obtain ⟨v,e3,e4⟩:=e1
  exact ⟨by rw [k.o e3]; exact congrArg some e4,lockL_o k e2⟩
theorem WOL.lr1 (os:List (Option Nat)) (hb:(l0 :: ls).map (fun x => (getL L x).map blockOf) = os.map some) (hf:getL L f = some fv) (h0:getL L x0 = some v0) (w:∀ M,(∀ l,l ∈ M → some l ∈ os ∨ l ∈ h.lock) → CallW P tp fv #[v0] (h.withLock M) fun v h1 => ∀ a,Kn (putL L d v) a → WO P tp rest a (h1.withLock h.lock) K):∀ a,Kn L a → WO P tp (⟨d,.call ⟨.value f,#[x0],ts⟩,ty,none,l0 :: ls,i⟩ :: rest) a h K :=
 fun a k => WO.cons_lock rfl rfl (StepW.call (by
  rw [getO_eval (k.o hf)]
  simpa [getO_eval (k.o h0)] using (w _ (lockOf_in _ a os h.lock (lockL_o k hb))).mono fun _ _ q => k.nx q))
end
theorem bd106z:buildT Tryz.prog 85 [] = some (.agg (cat encY (List.replicate 20 0)).toArray):=by kernel_rfl
section
variable {h:TH} {s c:Int} {x y z:Nat} {es:List Int}
def encV (s c:Int) (x y z:Nat) (es:List Int):Value:=cond (pakE s c es != 0) (.tuple #[.agg (cat encY (List.replicate 20 0)).toArray,zi (pakE s c es)]) (.tuple #[.agg (cat encY (frameB s.toNat c.toNat x y z)).toArray,zi 0])
set_option maxRecDepth 10000 in
theorem k65 (H:Has tp) (X:HasX tp) (Y:HasY tp) (hE:SErr [x,y,z] es) (hx:x < 4294967296) (hy:y < 4294967296) (hz:z < 4294967296) (f:Free0 h.next h):CallW Tryz.prog tp (.func (.func 56) #[] #[]) #[pak s c x y z] h fun v h' => v = encV s c x y z es ∧ HX h h':=by
 refine CallW.fnL (H.fn 56 f65 rfl rfl) ?_
 refine WL.sr <| WOL.box rfl fun h1 N1 => WOL.al tp106 fun h2 N2 => WOL.as rfl <| WOL.nil <| keep [(1,_),(2,_)] ⟨rfl,rfl,trivial⟩ ?_
 have A1:At h2 h.next (.cells [zi s,zi c,.float .f32 x,.float .f32 y,.float .f32 z] true true 92):=N1.at_.hx N2.hx
 have X2:=N1.hx.trans N2.hx
 refine WL.seq <| WL.sr <| WOL.ld rfl (load_row tp111 A1 rfl (Nat.le_of_ble_eq_true rfl)) ?_
 refine WOL.cl1 rfl rfl ((k116 H X hE (s:=s) (c:=c)).mono ?_)
 rintro v h3 ⟨rfl,X3⟩
 have Y3:=X2.trans X3
 refine WOL.as rfl <| WOL.nil <| keep [(1,_),(2,_),(4,_)] ⟨rfl,rfl,rfl,trivial⟩ ?_
 refine WL.sr <| WOL.mv rfl <| WOL.bi rfl rfl nzero <| WOL.nil <| keep [(1,_),(2,_),(4,_),(8,_)] ⟨rfl,rfl,rfl,rfl,trivial⟩ ?_
 rcases nz_cases (pakE s c es) with h0 | h0
 ·rw [h0]
  refine WL.no rfl <| WL.skip ?_
  have z0:=firstNZ_zero h0
  have z1:=outB_zero (z0 _ (List.mem_cons_self ..))
  have z2:=outB_zero (z0 _ (List.mem_cons_of_mem _ (List.mem_cons_self ..)))
  obtain ⟨s,rfl⟩:∃ n:Nat,s = (n:Int):=⟨s.toNat,by omega⟩
  obtain ⟨c,rfl⟩:∃ n:Nat,c = (n:Int):=⟨c.toNat,by omega⟩
  refine WL.sr <| WOL.ld rfl (load_row tp111 (A1.hx X3) rfl (Nat.le_of_ble_eq_true rfl)) ?_
  refine WOL.cl1 rfl rfl ((k117 H Y (by omega) (by omega) hx hy hz (f.on Y3)).mono ?_)
  rintro v h4 ⟨rfl,X4⟩
  have Y4:=Y3.trans X4
  have fl:=frameB_len (s:=s) (c:=c) (x:=x) (y:=y) (z:=z)
  have cl:(cat encY (frameB s c x y z)).length = 20:=by rw [eY.cat_len,fl]
  refine WOL.sto (vs:=cat encY (frameB s c x y z)) rfl rfl tp106 ((N2.at_.hx X3).hx X4) rfl cl (Nat.le_of_ble_eq_true rfl) (eY.all _) (f.hx Y4) N1.hx.next fun h5 P5 => ?_
  have B5:=P5.at_
  rw [splice_all _ _ (by rw [cl]; rfl)] at B5
  refine WOL.as rfl <| WOL.nil ?_
  refine WL.ret (WL.endC1 rfl rfl (load_row tp106 B5 (l:=cat encY (frameB s c x y z)) (by rw [List.drop_zero,List.take_of_length_le (by omega)]) (by omega)) ⟨?_,P5.hx _ Y4 N1.hx.next⟩)
  unfold encV
  rw [h0,Int.toNat_natCast,Int.toNat_natCast]
  rfl
 ·rw [h0]
  refine WL.yes rfl <| WL.sr ?_
  refine WOL.bd rfl bd106z <| WOL.mv rfl ?_
  refine WOL.sto (vs:=cat encY (List.replicate 20 0)) rfl rfl tp106 (N2.at_.hx X3) rfl rfl (Nat.le_of_ble_eq_true rfl) (eY.all _) (f.hx Y3) N1.hx.next fun h5 P5 => ?_
  refine WOL.as rfl <| WOL.nil ?_
  refine WL.ret (WL.endC1 rfl rfl (load_row tp106 P5.at_ rfl (Nat.le_of_ble_eq_true rfl)) ⟨?_,P5.hx _ Y3 N1.hx.next⟩)
  unfold encV
  rw [h0]
  rfl
end
end Go.Tidy
namespace Go.Tidy
open Go Go.Proofs Tab
variable {tp:TProg}
def srcB (l:List Nat):Nat:=l.getD 1 0
def cntB (l:List Nat):Nat:=numB ((l.drop 2).take 2)
def wrdB (l:List Nat) (i:Nat):Nat:=numB ((l.drop (4 + 4 * i)).take 4)
def decE (l:List Nat) (es:List Int):Int:=firstNZ [cond ((l.getD 0 0:Int) != 90) 1 0,cond (((numB (l.drop 16):Nat):Int) != tot (l.take 16)) 27 0,firstNZ es,cond (!decide (frameB (srcB l) (cntB l) (wrdB l 0) (wrdB l 1) (wrdB l 2) = l)) 1 0]
def decV (l:List Nat) (es:List Int):Value:=cond (decE l es != 0) (.tuple #[pak 0 0 0 0 0,zi (decE l es)]) (.tuple #[pak (srcB l) (cntB l) (wrdB l 0) (wrdB l 1) (wrdB l 2),zi 0])
theorem Byt.drop {l:List Nat} (h:Byt l) (k:Nat):Byt (l.drop k):=fun b hb => h b (List.mem_of_mem_drop hb)
theorem Byt.take {l:List Nat} (h:Byt l) (k:Nat):Byt (l.take k):=fun b hb => h b (List.mem_of_mem_take hb)
theorem numB_lt' {l:List Nat} {k:Nat} (h:Byt l) (hl:l.length ≤ k):numB l < 256 ^ k:=by
 have:=numB_lt h l.length (Nat.le_refl _)
 rw [List.take_length] at this
 exact Nat.lt_of_lt_of_le this (Nat.pow_le_pow_right (by decide) hl)
theorem wrdB_lt {l:List Nat} (h:Byt l) (i:Nat):wrdB l i < 4294967296:=numB_lt' (k:=4) ((h.drop _).take 4) (by rw [List.length_take]; omega)
theorem cntB_lt {l:List Nat} (h:Byt l):cntB l < 65536:=numB_lt' (k:=2) ((h.drop _).take 2) (by rw [List.length_take]; omega)
section
variable {h:TH} {l:List Nat} {b:Nat} {fix wr:Bool} {el:TypeId}
theorem slY {lo hi m:Nat} (A:At h b (.cells (cat encY l) fix wr el)) (h1:lo ≤ hi) (h2:hi ≤ l.length) (h3:hi ≤ m):SlL encY 1 h (.slice (some ⟨b,0 + lo,none⟩) (hi - lo) (m - lo)) ((l.drop lo).take (hi - lo)):=by
 have e:((l.drop lo).take (hi - lo)).length = hi - lo:=by rw [List.length_take,List.length_drop]; omega
 refine ⟨_,m - lo,by rw [e],by omega,by rw [eY.cat_len],.inr ⟨b,0 + lo,_,_,_,_,rfl,A,?_,?_⟩⟩
 ·rw [e,Nat.zero_add]
  have:=eY.part l lo (hi - lo)
  rw [Nat.mul_one,Nat.mul_one] at this
  rw [Nat.mul_one]
  exact this
 ·rw [e,eY.cat_len]; omega
end
theorem ix106_0 {c:Nat}:indexAddrT Tryz.prog 85 (.pointer (some ⟨c,0,none⟩)) (.int .i64 0) = some (.pointer (some ⟨c,0,none⟩)):=by kernel_rfl
theorem ix106_1 {c:Nat}:indexAddrT Tryz.prog 85 (.pointer (some ⟨c,0,none⟩)) (.int .i64 1) = some (.pointer (some ⟨c,1,none⟩)):=by kernel_rfl
theorem ix109 {c k:Nat} (hk:k < 3):indexAddrT Tryz.prog 82 (.pointer (some ⟨c,2,none⟩)) (zi (k:Nat)) = some (.pointer (some ⟨c,2 + k,none⟩)):=by
 have e0:indexAddrT Tryz.prog 82 (.pointer (some ⟨c,2,none⟩)) (zi 0) = some (.pointer (some ⟨c,2,none⟩)):=by kernel_rfl
 have e1:indexAddrT Tryz.prog 82 (.pointer (some ⟨c,2,none⟩)) (zi 1) = some (.pointer (some ⟨c,3,none⟩)):=by kernel_rfl
 have e2:indexAddrT Tryz.prog 82 (.pointer (some ⟨c,2,none⟩)) (zi 2) = some (.pointer (some ⟨c,4,none⟩)):=by kernel_rfl
 obtain rfl | rfl | rfl:k = 0 ∨ k = 1 ∨ k = 2:=by omega
 ·exact e0
 ·exact e1
 ·exact e2
theorem bd111 {a b:Int}:buildT Tryz.prog 92 [(0,.int .i64 a),(1,.int .i64 b)] = some (pak a b 0 0 0):=by kernel_rfl
theorem bd111z:buildT Tryz.prog 92 [] = some (pak 0 0 0 0 0):=by kernel_rfl
theorem cut_at {k:Nat} (hk:k < 3):cut3 20 20 (some (zi ((4 + 4 * k:Nat):Int))) (some (zi ((8 + 4 * k:Nat):Int))) none = some (4 + 4 * k,8 + 4 * k,20):=by
 obtain rfl | rfl | rfl:k = 0 ∨ k = 1 ∨ k = 2:=by omega
 ·rfl
 ·rfl
 ·rfl
def pr (w:Nat → Nat) (k i:Nat):Nat:=cond (Nat.blt i k) (w i) 0
def pakC (s c:Int) (w:Nat → Nat) (k:Nat):List Value:=[zi s,zi c,.float .f32 (pr w k 0),.float .f32 (pr w k 1),.float .f32 (pr w k 2)]
theorem pakC_next {s c:Int} {w:Nat → Nat} {k:Nat} (hk:k < 3):splice (pakC s c w k) (2 + k) [.float .f32 (w k)] = pakC s c w (k + 1):=by
 obtain rfl | rfl | rfl:k = 0 ∨ k = 1 ∨ k = 2:=by omega
 ·rfl
 ·rfl
 ·rfl
section
variable {h:TH} {l:List Nat} {es:List Int}
set_option maxHeartbeats 4000000 in
set_option maxRecDepth 10000 in
theorem k153 (H:Has tp) (X:HasX tp) (Y:HasY tp) (hl:l.length = 20) (hb:Byt l) (hE:SErr [wrdB l 0,wrdB l 1,wrdB l 2] es) (f:Free0 h.next h):CallW Tryz.prog tp (.func (.func 57) #[] #[]) #[.agg (cat encY l).toArray] h fun v h' => v = decV l es ∧ HX h h':=by
 refine CallW.fnL (H.fn 57 f153 rfl rfl) ?_
 have cl:(cat encY l).length = 20:=by rw [eY.cat_len,hl]
 refine WL.sr <| WOL.box rfl fun h1 N1 => WOL.al tp111 fun h2 N2 => WOL.as rfl <| WOL.nil <| keep [(1,_),(2,_)] ⟨rfl,rfl,trivial⟩ ?_
 have A1:At h2 h.next (.cells (cat encY l) true true 85):=N1.at_.hx N2.hx
 have X2:=N1.hx.trans N2.hx
 have n1:=N1.next
 have n2:=N2.next
 have b0:=hb.at 0
 have b1:=hb.at 1
 have cg:∀ j,j < 20 → (cat encY l)[j]? = some (.int .u8 (l.getD j 0:Nat)):=fun j hj => by
  rw [cat_Y,List.getElem?_map,List.getD_eq_getElem?_getD,List.getElem?_eq_getElem (by omega:j < l.length)]
  rfl
 refine WL.sr <| WOL.ix rfl rfl ix106_1 ?_
 refine WOL.ld rfl (load_one tp5 A1 (cg 1 (by decide))) <| WOL.convU u5 u3 rfl (by omega) (by omega) ?_
 refine WOL.slG rfl rfl rfl rfl (sliceA u106 tp5 A1 (l:=2) (hh:=4) (m:=20) rfl) ?_
 refine WOL.al tp111 fun h3 N3 => ?_
 have n3:=N3.next
 have X3:=X2.trans N3.hx
 refine WOL.lr1 [some h2.next,none,none,some h.next] rfl rfl rfl fun M hM => ((k170 H ((slY (lo:=2) (hi:=4) (m:=20) A1 (by decide) (by omega) (by decide)).hx N3.hx |>.relock M) ((hb.drop 2).take _) (by rw [List.length_take]; omega) ((f.on X3).heldO hM (fun b hb => by simp at hb; omega))).mono ?_)
 rintro v h4 ⟨rfl,X4⟩
 replace X4:=X4.relock
 generalize h4.withLock h3.lock = h4 at *
 have Y4:=X3.trans X4
 have x4:=X4.next
 refine WOL.bd rfl bd111 ?_
 refine WOL.sto rfl rfl tp111 (N3.at_.hx X4) rfl rfl (Nat.le_of_ble_eq_true rfl) rfl (f.hx Y4) (by omega) fun h5 P5 => ?_
 have Y5:=P5.hx _ Y4 (by omega)
 have n5:=P5.next
 have A15:At h5 h.next (.cells (cat encY l) true true 85):=P5.oth _ _ (by omega) ((A1.hx N3.hx).hx X4)
 have A25:=P5.oth h1.next _ (by omega) ((N2.at_.hx N3.hx).hx X4)
 have A45:At h5 h2.next (.cells (pakC (srcB l) (cntB l) (wrdB l) 0) true true 92):=P5.at_
 refine WOL.nil <| keep [(1,_),(2,_),(4,_)] ⟨rfl,rfl,rfl,trivial⟩ ?_
 refine WL.seq <| WL.sr <| WOL.mv rfl <| WOL.nil <| keep [(1,_),(2,_),(4,_),(15,_)] ⟨rfl,rfl,rfl,rfl,trivial⟩ ?_
 refine WL.block ?_
 refine WL.loop (fun q a g => ∃ k:Nat,k ≤ 3 ∧ q = 3 - k ∧ HX h g ∧ h2.next < g.next ∧ At g h.next (.cells (cat encY l) true true 85) ∧ At g h1.next (.cells [.int .i64 0,.int .i64 0,.float .f32 0,.float .f32 0,.float .f32 0] true true 92) ∧ At g h2.next (.cells (pakC (srcB l) (cntB l) (wrdB l) k) true true 92) ∧ Kn [(1,ptr h.next),(2,ptr h1.next),(4,ptr h2.next),(15,zi (k:Nat))] a) 3 (fun a q => ⟨0,by omega,by omega,Y5,A45.lt,A15,A25,A45,q.sub ⟨rfl,rfl,rfl,rfl,trivial⟩⟩) ?_
 rintro q a g ⟨k,hk,rfl,X6,hg,B1,B2,B4,q⟩
 refine q.go ?_
 refine WL.sr <| WOL.bi (v:=.bool (decide ((k:Int) < 3))) rfl rfl rfl <| WOL.nil <| keep [(1,_),(2,_),(4,_),(15,_),(16,_)] ⟨rfl,rfl,rfl,rfl,rfl,trivial⟩ ?_
 refine WL.seq ?_
 by_cases hk3:k < 3
 ·rw [show decide ((k:Int) < 3) = true from decide_eq_true (by omega)]
  refine WL.yes rfl <| WL.skip ?_
  refine WL.seq <| WL.block ?_
  refine WL.sr <| WOL.mv rfl <| WOL.as rfl <| WOL.nil <| keep [(1,_),(2,_),(4,_),(5,_),(15,_)] ⟨rfl,rfl,rfl,rfl,rfl,trivial⟩ ?_
  refine WL.sr <| WOL.mv rfl ?_
  refine WOL.bi (v:=zi ((4 * k:Nat):Int)) rfl rfl (by show some (Value.int .i64 (fwrap .i64 (4 * (k:Int)))) = _; rw [fwrap_i64 (by omega) (by omega)]; rfl) ?_
  refine WOL.bi (v:=zi ((4 + 4 * k:Nat):Int)) rfl rfl (by show some (Value.int .i64 (fwrap .i64 (4 + ((4 * k:Nat):Int)))) = _; rw [fwrap_i64 (by omega) (by omega)]; congr 2) ?_
  refine WOL.as rfl <| WOL.nil <| keep [(1,_),(2,_),(4,_),(5,_),(6,_),(15,_)] ⟨rfl,rfl,rfl,rfl,rfl,rfl,trivial⟩ ?_
  refine WL.reg <| WOL.mv rfl <| WOL.mv rfl <| WOL.mv rfl ?_
  refine WOL.bi (v:=zi ((8 + 4 * k:Nat):Int)) rfl rfl (by show some (Value.int .i64 (fwrap .i64 (((4 + 4 * k:Nat):Int) + 4))) = _; rw [fwrap_i64 (by omega) (by omega)]; congr 2; omega) ?_
  refine WOL.slG rfl rfl rfl rfl (sliceA u106 tp5 B1 (cut_at hk3)) ?_
  have sl:=slY (lo:=4 + 4 * k) (hi:=8 + 4 * k) (m:=20) B1 (by omega) (by omega) (by omega)
  rw [show 8 + 4 * k - (4 + 4 * k) = 4 by omega] at sl ⊢
  refine WOL.cl1 rfl rfl ((k171 H Y sl ((hb.drop _).take _) (by rw [List.length_take,List.length_drop]; omega) (f.on X6)).mono ?_)
  rintro v g2 ⟨rfl,X7⟩
  have Y7:=X6.trans X7
  have x7:=X7.next
  refine WOL.fa rfl (fa_of fo111_2) <| WOL.ix rfl rfl (ix109 hk3) ?_
  refine WOL.sto rfl rfl tp25 (B4.hx X7) rfl rfl (by show 2 + k + 1 ≤ 5; omega) rfl (f.hx Y7) (by omega) fun g3 P3 => ?_
  have C4:At g3 h2.next (.cells (splice (pakC (srcB l) (cntB l) (wrdB l) k) (2 + k) [.float .f32 (wrdB l k)]) true true 92):=P3.at_
  rw [pakC_next hk3] at C4
  have p3:=P3.next
  refine WOL.nil ?_
  refine WL.reg ?_
  refine WOL.bi (v:=zi ((k + 1:Nat):Int)) rfl rfl (by show some (Value.int .i64 (fwrap .i64 ((k:Int) + 1))) = _; rw [fwrap_i64 (by omega) (by omega)]; rfl) ?_
  refine WOL.mv rfl <| WOL.nil ?_
  exact fun a q => ⟨3 - (k + 1),by omega,k + 1,by omega,rfl,P3.hx _ Y7 (by omega),by omega,P3.oth _ _ (by omega) (B1.hx X7),P3.oth _ _ (by omega) (B2.hx X7),C4,q.sub ⟨rfl,rfl,rfl,rfl,trivial⟩⟩
 ·rw [show decide ((k:Int) < 3) = false from decide_eq_false (by omega)]
  obtain rfl:k = 3:=by omega
  refine WL.no rfl <| WL.exit ?_
  have B4':At g h2.next (.cells [zi (srcB l),zi (cntB l),.float .f32 (wrdB l 0),.float .f32 (wrdB l 1),.float .f32 (wrdB l 2)] true true 92):=B4
  have w0:=wrdB_lt hb 0
  have w1:=wrdB_lt hb 1
  have w2:=wrdB_lt hb 2
  have cc:=cntB_lt hb
  have ss:srcB l < 256:=b1
  refine WL.sr ?_
  refine WOL.slG rfl rfl rfl rfl (sliceA u106 tp5 B1 (l:=0) (hh:=16) (m:=20) rfl) ?_
  refine WOL.as rfl <| WOL.nil <| keep [(1,_),(2,_),(4,_),(7,_)] ⟨rfl,rfl,rfl,rfl,trivial⟩ ?_
  refine WL.sr <| WOL.ix rfl rfl ix106_0 ?_
  refine WOL.ld rfl (load_one tp5 B1 (cg 0 (by decide))) ?_
  refine WOL.bi (v:=.bool ((l.getD 0 0:Int) != 90)) rfl rfl rfl ?_
  refine WOL.slG rfl rfl rfl rfl (sliceA u106 tp5 B1 (l:=16) (hh:=20) (m:=20) rfl) ?_
  refine WOL.mv rfl <| WOL.fa rfl (fa_of fo111_2) ?_
  refine WOL.slG rfl rfl rfl rfl (sliceA u109 tp25 B4' rfl) ?_
  refine WOL.ld rfl (load_row tp111 B4' rfl (Nat.le_of_ble_eq_true rfl)) ?_
  refine WOL.ld rfl (load_row tp106 B1 (l:=cat encY l) (by rw [List.drop_zero,List.take_of_length_le (by omega)]) (by omega)) ?_
  refine WOL.lk2 rfl rfl rfl fun M => ((k77 H _ 1 _).mono ?_)
  rintro v g2 ⟨rfl,rfl⟩
  have s16:=slY (lo:=16) (hi:=20) (m:=20) B1 (by decide) (by omega) (by decide)
  have s0:=slY (lo:=0) (hi:=16) (m:=20) B1 (by decide) (by omega) (by decide)
  rw [show ((l.drop 16).take (20 - 16)) = l.drop 16 from List.take_of_length_le (by rw [List.length_drop]; omega)] at s16
  rw [List.drop_zero] at s0
  refine WOL.lr1 [some h.next,some h2.next,some h2.next] rfl rfl rfl fun M hM => ((k170 H (s16.relock M) (hb.drop 16) (by rw [List.length_drop]; omega) ((f.on X6).heldO hM (fun b hb => by simp at hb; have:=B1.lt; omega))).mono ?_)
  rintro v g3 ⟨rfl,X7⟩
  replace X7:HX g (g3.withLock g.lock):=X7.relock
  show ∀ a,Kn _ a → WO _ _ _ a (g3.withLock g.lock) _
  generalize g3.withLock g.lock = g3 at *
  have Y7:=X6.trans X7
  have h1lt:=B1.lt
  refine WOL.lr1 [some h.next,some h2.next,some h2.next] rfl rfl rfl fun M hM => ((k129 H ((s0.hx X7).relock M) (hb.take _) (by rw [List.length_take]; omega) ((f.on Y7).heldO hM (fun b hb => by simp at hb; have:=X7.next; omega))).mono ?_)
  rintro v g4 ⟨rfl,X8⟩
  replace X8:HX g3 (g4.withLock g3.lock):=X8.relock
  show ∀ a,Kn _ a → WO _ _ _ a (g4.withLock g3.lock) _
  generalize g4.withLock g3.lock = g4 at *
  have Z8:=X7.trans X8
  have Y8:=X6.trans Z8
  refine WOL.bi (v:=.bool (((numB (l.drop 16):Nat):Int) != tot (l.take 16))) rfl rfl rfl ?_
  refine WOL.lk2 rfl rfl rfl fun M => ((k77 H _ 27 _).mono ?_)
  rintro v g5 ⟨rfl,rfl⟩
  refine WOL.lk1 rfl rfl fun M => ((k99 H X ((slR (B4'.hx Z8)).relock M) hE (by simp)).mono ?_)
  rintro v g5 ⟨rfl,rfl⟩
  show ∀ a,Kn _ a → WO _ _ _ a g4 _
  refine WOL.lr1 [some h.next] rfl rfl rfl fun M hM => ((k117 H Y (h:=g4.withLock M) (s:=srcB l) (c:=cntB l) (x:=wrdB l 0) (y:=wrdB l 1) (z:=wrdB l 2) ss cc w0 w1 w2 ((f.on Y8).heldO hM (fun b hb => by simp at hb; have:=Z8.next; omega))).mono ?_)
  rintro v g5 ⟨rfl,X9⟩
  replace X9:HX g4 (g5.withLock g4.lock):=X9.relock
  show ∀ a,Kn _ a → WO _ _ _ a (g5.withLock g4.lock) _
  generalize g5.withLock g4.lock = g5 at *
  have Z9:=Z8.trans X9
  have Y9:=X6.trans Z9
  refine WOL.ne106 frameB_len hl rfl rfl ?_
  refine WOL.cl2 rfl rfl rfl ((k77 H _ 1 _).mono ?_)
  rintro v g6 ⟨rfl,rfl⟩
  refine WOL.bsl rfl u166 tp30 (by decide) (by decide) (by decide) (cs:=[_,_,_,_].map (.int .i64)) rfl fun g7 N7 => ?_
  have Z10:=Z9.trans N7.hx
  have Y10:=X6.trans Z10
  refine WOL.cl1 rfl rfl ((k71 H (l:=[_,_,_,_]) N7.at_.get (by simp)).mono ?_)
  rintro v g8 ⟨rfl,rfl⟩
  show ∀ a,Kn _ a → WO _ _ _ a _ _
  have B2':=B2.hx Z10
  have B4'':=B4'.hx Z10
  refine WOL.as rfl <| WOL.nil <| keep [(1,_),(2,_),(4,_),(8,_)] ⟨rfl,rfl,rfl,rfl,trivial⟩ ?_
  refine WL.seq <| WL.sr <| WOL.mv rfl <| WOL.bi rfl rfl nzero <| WOL.nil <| keep [(1,_),(2,_),(4,_),(8,_),(52,_)] ⟨rfl,rfl,rfl,rfl,rfl,trivial⟩ ?_
  show ∀ a,Kn [(1,_),(2,_),(4,_),(8,zi (decE l es)),(52,.bool (decE l es != 0))] a → _
  rcases nz_cases (decE l es) with h0 | h0
  ·rw [h0]
   refine WL.no rfl <| WL.skip ?_
   refine WL.sr <| WOL.ld rfl (load_row tp111 B4'' rfl (Nat.le_of_ble_eq_true rfl)) ?_
   refine WOL.sto rfl rfl tp111 B2' rfl rfl (Nat.le_of_ble_eq_true rfl) rfl (f.hx Y10) (by omega) fun g9 P9 => ?_
   refine WOL.as rfl <| WOL.nil ?_
   refine WL.ret (WL.endC1 rfl rfl (load_row tp111 P9.at_ rfl (Nat.le_of_ble_eq_true rfl)) ⟨?_,P9.hx _ Y10 (by omega)⟩)
   unfold decV
   rw [h0]
   rfl
  ·rw [h0]
   refine WL.yes rfl <| WL.sr <| WOL.bd rfl bd111z <| WOL.mv rfl ?_
   refine WOL.sto rfl rfl tp111 B2' rfl rfl (Nat.le_of_ble_eq_true rfl) rfl (f.hx Y10) (by omega) fun g9 P9 => ?_
   refine WOL.as rfl <| WOL.nil ?_
   refine WL.ret (WL.endC1 rfl rfl (load_row tp111 P9.at_ rfl (Nat.le_of_ble_eq_true rfl)) ⟨?_,P9.hx _ Y10 (by omega)⟩)
   unfold decV
   rw [h0]
   rfl
end
end Go.Tidy
namespace Go.Tidy
open Go Go.Proofs Tab
variable {tp:TProg}
theorem u228':Tryz.prog.underlying 252 = some (.int .u64):=by kernel_rfl
section
variable {h:TH} {l:List Nat} {v:Value} {n k:Nat}
set_option maxRecDepth 10000 in
theorem k1029 (H:Has tp) (hk:k ≤ 8) (f:Free0 h.next h):CallW Tryz.prog tp (.func (.func 135) #[] #[]) #[zi (n:Nat),zi (k:Nat)] h fun w h' => HX h h' ∧ OwnL encY h.next h' w 5 (bytesN n k):=by
 refine CallW.fnL (H.fn 135 f1029 rfl rfl) ?_
 refine WL.sr <| WOL.as rfl <| WOL.nil <| keep [(0,_),(1,_)] ⟨rfl,rfl,trivial⟩ ?_
 refine WL.sr <| WOL.as rfl <| WOL.nil <| keep [(0,_),(1,_),(5,_)] ⟨rfl,rfl,rfl,trivial⟩ ?_
 refine WL.seq <| WL.sr <| WOL.mv rfl ?_
 refine WOL.bi (v:=zi ((k:Int) - 1 - (0:Nat))) rfl rfl (by show some (Value.int .i64 (fwrap .i64 ((k:Int) - 1))) = _; rw [fwrap_i64 (by omega) (by omega)]; simp) ?_
 refine WOL.as rfl <| WOL.nil <| keep [(0,_),(1,_),(5,_),(6,_)] ⟨rfl,rfl,rfl,rfl,trivial⟩ ?_
 refine WL.block ?_
 refine WL.loop (fun q a g => ∃ (j:Nat) (w:Value),j ≤ k ∧ q = k - j ∧ HX h g ∧ OwnL encY h.next g w 5 ((List.range j).map (bytN n k)) ∧ Kn [(0,zi (n:Nat)),(1,zi (k:Nat)),(5,w),(6,zi ((k:Int) - 1 - (j:Nat)))] a) k (fun a q => ⟨0,_,by omega,by omega,HX.refl _,OwnL.nil,q.sub ⟨rfl,rfl,rfl,rfl,trivial⟩⟩) ?_
 rintro q a g ⟨j,w,hj,rfl,X1,O1,q⟩
 refine q.go ?_
 refine WL.seq <| WL.sr <| WOL.mv rfl ?_
 refine WOL.bi (v:=.bool (decide ((k:Int) - 1 - (j:Nat) ≥ 0))) rfl rfl rfl <| WOL.nil <| keep [(0,_),(1,_),(5,_),(6,_),(10,_)] ⟨rfl,rfl,rfl,rfl,rfl,trivial⟩ ?_
 by_cases hlt:j < k
 ·rw [show decide ((k:Int) - 1 - (j:Nat) ≥ 0) = true from decide_eq_true (by omega)]
  refine WL.yes rfl <| WL.skip ?_
  refine WL.seq <| WL.block <| WL.reg ?_
  refine WOL.mv rfl <| WOL.mv rfl <| WOL.mv rfl ?_
  refine WOL.bi (v:=zi ((8 * (k - 1 - j):Nat):Int)) rfl rfl (by show some (Value.int .i64 (fwrap .i64 (8 * ((k:Int) - 1 - (j:Nat))))) = _; rw [fwrap_i64 (by omega) (by omega)]; congr 2; omega) ?_
  refine WOL.cv u3 u228' rfl (IntWalk.u64_in _ (by omega)) ?_
  refine WOL.shr (s:=8 * (k - 1 - j)) rfl rfl (by omega) (by omega) ?_
  refine WOL.cvw u3 u5 rfl ?_
  rw [u8_wrap,show ((n:Nat):Int) / 2 ^ (8 * (k - 1 - j)) % 256 = ((bytN n k j:Nat):Int) by unfold bytN; push_cast; rfl]
  refine WOL.bs1 rfl u116 tp5 rfl fun g1 N1 => ?_
  have f1:Free0 h.next g1:=f.hx (X1.trans N1.hx)
  have X2:=X1.trans N1.hx
  obtain ⟨w2,g2,ap,O2,x2,_⟩:=own_push (sT:=106) (x:=bytN n k j) eY u116 tp5 (O1.hx N1.hx) (SlC.own (sz:=1) (m:=1) rfl N1.at_) f1 (by simp; omega) X2.next
  refine WOL.ap rfl rfl ap <| WOL.as rfl <| WOL.nil <| keep [(0,_),(1,_),(5,_),(6,_)] ⟨rfl,rfl,rfl,rfl,trivial⟩ ?_
  refine WL.reg <| WOL.mv rfl ?_
  refine WOL.bi (v:=zi ((k:Int) - 1 - ((j + 1:Nat):Int))) rfl rfl (by show some (Value.int .i64 (fwrap .i64 ((k:Int) - 1 - (j:Nat) - 1))) = _; rw [fwrap_i64 (by omega) (by omega)]; congr 2; omega) ?_
  refine WOL.as rfl <| WOL.nil ?_
  exact fun a q => ⟨k - (j + 1),by omega,j + 1,w2,by omega,rfl,x2 _ X2 (Nat.le_refl _),by rw [List.range_succ,List.map_append]; exact O2,q.sub ⟨rfl,rfl,rfl,rfl,trivial⟩⟩
 ·rw [show decide ((k:Int) - 1 - (j:Nat) ≥ 0) = false from decide_eq_false (by omega)]
  obtain rfl:j = k:=by omega
  refine WL.no rfl <| WL.exit ?_
  refine WL.sr <| WOL.mv rfl <| WOL.as rfl <| WOL.nil ?_
  exact WL.done rfl ⟨X1,O1⟩
set_option maxRecDepth 10000 in
theorem k1031 (H:Has tp) (s:SlL encY 1 h v l) (hb:Byt l) (hl:l.length ≤ 4):CallW Tryz.prog tp (.func (.func 137) #[] #[]) #[v] h fun w h' => w = zi (numB l:Nat) ∧ h' = h:=by
 refine CallW.fnL (H.fn 137 f1031 rfl rfl) ?_
 refine WL.sr <| WOL.as rfl <| WOL.nil <| keep [(0,_)] ⟨rfl,trivial⟩ ?_
 refine WL.sr <| WOL.as rfl <| WOL.nil <| keep [(0,_),(3,_)] ⟨rfl,rfl,trivial⟩ ?_
 refine WL.seq <| WL.sr <| WOL.as rfl <| WOL.nil <| keep [(0,_),(3,_),(4,_)] ⟨rfl,rfl,rfl,trivial⟩ ?_
 refine WL.block ?_
 refine WL.loop (fun q a g => ∃ j:Nat,j ≤ l.length ∧ q = l.length - j ∧ g = h ∧ Kn [(0,v),(3,zi (numB (l.take j):Nat)),(4,zi (j:Nat))] a) l.length (fun a q => ⟨0,by omega,by omega,rfl,q.sub ⟨rfl,rfl,rfl,trivial⟩⟩) ?_
 rintro q a h ⟨j,hj,rfl,rfl,q⟩
 refine q.go ?_
 refine WL.seq <| WL.sr <| WOL.mv rfl <| WOL.mv rfl ?_
 refine WOL.len rfl s u116 ?_
 refine WOL.bi (v:=.bool (decide ((j:Int) < (l.length:Int)))) rfl rfl rfl <| WOL.nil <| keep [(0,_),(3,_),(4,_),(8,_)] ⟨rfl,rfl,rfl,rfl,trivial⟩ ?_
 by_cases hlt:j < l.length
 ·rw [show decide ((j:Int) < (l.length:Int)) = true from decide_eq_true (by omega)]
  obtain ⟨p,ip,lp⟩:=elemY s hlt
  have bt:=hb.at j
  have ti:numB (l.take j) < 256 ^ 4:=Nat.lt_of_lt_of_le (numB_lt hb j (by omega)) (Nat.pow_le_pow_right (by decide) (by omega))
  refine WL.yes rfl <| WL.skip ?_
  refine WL.seq <| WL.block <| WL.reg ?_
  refine WOL.mv rfl ?_
  refine WOL.bi (v:=zi ((256 * numB (l.take j):Nat):Int)) rfl rfl (by show some (Value.int .i64 (fwrap .i64 (256 * (numB (l.take j):Nat)))) = _; rw [fwrap_i64 (by omega) (by omega)]; rfl) ?_
  refine WOL.mv rfl <| WOL.mv rfl <| WOL.ix rfl rfl ip <| WOL.ld rfl lp <| WOL.convU u5 u3 rfl (by omega) (by omega) ?_
  refine WOL.add rfl rfl (by omega) (by omega) ?_
  refine WOL.as rfl <| WOL.nil <| keep [(0,_),(3,_),(4,_)] ⟨rfl,rfl,rfl,trivial⟩ ?_
  have e:(((256 * numB (l.take j):Nat):Int) + (l.getD j 0:Nat)) = ((numB (l.take (j + 1)):Nat):Int):=by rw [numB_step hlt]; omega
  rw [e]
  refine WL.reg ?_
  refine WOL.mv rfl <| WOL.bi (v:=zi ((j + 1:Nat):Int)) rfl rfl (by show some (Value.int .i64 (fwrap .i64 ((j:Int) + 1))) = _; rw [fwrap_i64 (by omega) (by omega)]; rfl) ?_
  refine WOL.as rfl <| WOL.nil ?_
  exact fun a q => ⟨l.length - (j + 1),by omega,j + 1,by omega,rfl,rfl,q.sub ⟨rfl,rfl,rfl,trivial⟩⟩
 ·rw [show decide ((j:Int) < (l.length:Int)) = false from decide_eq_false (by omega)]
  obtain rfl:j = l.length:=by omega
  refine WL.no rfl <| WL.exit ?_
  refine WL.sr <| WOL.mv rfl <| WOL.as rfl <| WOL.nil ?_
  rw [List.take_length]
  exact WL.done rfl ⟨rfl,rfl⟩
theorem k1030 (H:Has tp) (Y:HasY tp) {b:Nat} (hw:b < 4294967296) (f:Free0 h.next h):CallW Tryz.prog tp (.func (.func 136) #[] #[]) #[.float .f32 b] h fun w h' => HX h h' ∧ SlL encY 1 h' w (bytesN (wordF b) 4):=by
 refine CallW.fnL (H.fn 136 f1030 rfl rfl) ?_
 refine WL.sr <| WOL.as rfl <| WOL.nil <| keep [(0,_)] ⟨rfl,trivial⟩ ?_
 refine WL.seq <| WL.sr <| WOL.mv rfl <| WOL.feq0 rfl rfl <| WOL.nil <| keep [(0,_),(4,_)] ⟨rfl,rfl,trivial⟩ ?_
 cases hz:zeroF b with
 | true =>
  rw [show wordF b = 0 by unfold wordF; rw [hz]; rfl]
  refine WL.yes rfl <| WL.sr <| WOL.bsl rfl u116 tp5 (by decide) (by decide) (by decide) (cs:=cat encY [0,0,0,0]) rfl fun h1 N1 => ?_
  refine WOL.as rfl <| WOL.nil ?_
  exact WL.ret (WL.end_ rfl ⟨N1.hx,SlL.own eY (l:=[0,0,0,0]) N1.at_ rfl⟩)
 | false =>
  rw [show wordF b = b by unfold wordF; rw [hz]; rfl]
  refine WL.no rfl <| WL.skip ?_
  refine WL.sr <| WOL.mv rfl ?_
  refine WOL.x1E (v:=.int .u32 (b:Nat)) rfl Y.no1 Y.bits (word_exact hw) rfl rfl ?_
  refine WOL.cvw u216 u3 rfl ?_
  rw [show IntKind.i64.wrap (b:Nat) = ((b:Nat):Int) from IntWalk.i64_in _ (by omega)]
  refine WOL.cl2 rfl rfl rfl ((k1029 H (k:=4) (by decide) f).mono ?_)
  rintro w h1 ⟨X1,O1⟩
  refine WOL.as rfl <| WOL.nil ?_
  exact WL.done rfl ⟨X1,O1.sl eY⟩
end
end Go.Tidy
namespace Go.Tidy
open Go Go.Proofs Tab
variable {tp:TProg}
section
variable {P:Program} {h:TH} {α:Type} {enc:α → List Value} {n0 n:Nat} {v v2:Value} {e:TypeId} {l m:List α} {z:List Value} {row:Bool}
theorem own_catF {sT:TypeId} (E:Enc enc n) (hu:P.underlying sT = some (.slice e)) (he:Tp P e n z row) (o:OwnF enc n0 h v e l) (s2:SlL enc n h v2 m) (hm:0 < m.length) (f:Free0 n0 h) (hl:l.length + m.length ≤ 1000000) (hn0:n0 ≤ h.next) :
  ∃ v' h',appendT P #[sT,sT] #[v,v2] h = some (v',h') ∧ OwnF enc n0 h' v' e (l ++ m) ∧ (∀ h0,HX h0 h → h0.next ≤ n0 → HX h0 h') ∧ h.next ≤ h'.next:=by
 have hne:l ++ m ≠ []:=fun e => by
  have this:=congrArg List.length e
  rw [List.length_append,List.length_nil] at this
  omega
 rcases o with (⟨rfl,rfl⟩ | ⟨_,b,rfl,h2,h3⟩) | ⟨b,rfl,h2,h3⟩
 ·refine ⟨_,_,append_first hu he s2 hm (by omega) (E.all m),.inl (.inr ⟨hne,h.next,by rw [List.nil_append],hn0,?_⟩),fun h0 hx hb => hx.trans (HX.new _ _),Nat.le_succ _⟩
  rw [List.nil_append]
  exact At.new _ _
 ·refine ⟨_,_,append_more hu he h3 (E.cat_len l) s2 hm (by omega) (E.all m) f h2,.inl (.inr ⟨hne,h.next,by rw [List.length_append],hn0,?_⟩),fun h0 hx hb => (hx.upd (by omega) _).trans (HX.new _ _),Nat.le_succ _⟩
  rw [cat_append]
  exact At.new (h.upd b .dead) _
 ·refine ⟨_,_,append_fix hu he h3 (E.cat_len l) s2 hm (by omega) (E.all m),.inl (.inr ⟨hne,h.next,by rw [List.length_append],hn0,?_⟩),fun h0 hx hb => hx.trans (HX.new _ _),Nat.le_succ _⟩
  rw [cat_append]
  exact At.new h _
end
section
variable {P:Program} {h:TH} {K:Regs → TH → Prop} {rest:List TOper} {d:Option Tmp} {ty:TypeId} {i:Nat} {L:Rg} {f x0 x1 l0:Operand} {ls:List Operand} {fv v0 v1:Value} {ts:Array TypeId}
theorem WOL.lr2 (os:List (Option Nat)) (hb:(l0 :: ls).map (fun x => (getL L x).map blockOf) = os.map some) (hf:getL L f = some fv) (h0:getL L x0 = some v0) (h1:getL L x1 = some v1) (w:∀ M,(∀ l,l ∈ M → some l ∈ os ∨ l ∈ h.lock) → CallW P tp fv #[v0,v1] (h.withLock M) fun v h1 => ∀ a,Kn (putL L d v) a → WO P tp rest a (h1.withLock h.lock) K):∀ a,Kn L a → WO P tp (⟨d,.call ⟨.value f,#[x0,x1],ts⟩,ty,none,l0 :: ls,i⟩ :: rest) a h K :=
 fun a k => WO.cons_lock rfl rfl (StepW.call (by
  rw [getO_eval (k.o hf)]
  simpa [getO_eval (k.o h0),getO_eval (k.o h1)] using (w _ (lockOf_in _ a os h.lock (lockL_o k hb))).mono fun _ _ q => k.nx q))
end
theorem OwnL.relock {α:Type} {enc:α → List Value} {n0:Nat} {h:TH} {v:Value} {e:TypeId} {l:List α} (o:OwnL enc n0 h v e l) (M:List Nat):OwnL enc n0 (h.withLock M) v e l:=o.imp id fun ⟨h0,b,h1,h2,h3⟩ => ⟨h0,b,h1,h2,h3.relock M⟩
theorem fo1003_0:fieldOff Tryz.prog 84 0 = some 0:=by kernel_rfl
theorem fo1003_1:fieldOff Tryz.prog 84 1 = some 1:=by kernel_rfl
theorem fo1003_2:fieldOff Tryz.prog 84 2 = some 2:=by kernel_rfl
theorem tp1003:Tp Tryz.prog 84 5 [.int .i64 0,.int .i64 0,.float .f32 0,.float .f32 0,.float .f32 0] true:=tp_of (by kernel_rfl) (by kernel_rfl) rfl
theorem ix106 {c i:Nat} (hi:i < 20):indexAddrT Tryz.prog 85 (.pointer (some ⟨c,0,none⟩)) (zi (i:Nat)) = some (.pointer (some ⟨c,i,none⟩)):=by
 obtain ⟨inf,q1,q2,_⟩:=tp5.i
 have e:(decide ((0:Int) ≤ (i:Int)) && decide ((i:Int) < ((20:Nat):Int))) = true:=by
  rw [decide_eq_true (by omega),decide_eq_true (by omega)]; rfl
 simp only [indexAddrT,u106,e,Bool.cond_true,q1,Option.map_some,q2,Nat.mul_one,Int.toNat_natCast,Nat.zero_add]
theorem fill_setN {l:List Nat} {N i:Nat} (hl:l.length = N) (hi:i < l.length):(l.take i ++ List.replicate (N - i) 0).set i l[i] = l.take (i + 1) ++ List.replicate (N - (i + 1)) 0:=by
 subst hl
 exact fill_set l 0 i hi
section
variable {h:TH} {s c x y z:Nat}
set_option maxHeartbeats 4000000 in
set_option maxRecDepth 10000 in
theorem k1016 (H:Has tp) (Y:HasY tp) (hs:s < 256) (hc:c < 65536) (hx:x < 4294967296) (hy:y < 4294967296) (hz:z < 4294967296) (f:Free0 h.next h) :
    CallW Tryz.prog tp (.func (.func 62) #[] #[]) #[pak s c x y z] h fun v h' => v = .agg (cat encY (frameB s c x y z)).toArray ∧ HX h h':=by
  have hw:∀ k,wd x y z k < 4294967296:=fun k => by unfold wd; split <;> assumption
  refine CallW.fnL (H.fn 62 f1016 rfl rfl) ?_
  refine WL.sr <| WOL.box rfl fun h1 N1 => WOL.al tp106 fun h2 N2 => WOL.nil <| keep [(1,_),(2,_)] ⟨rfl,rfl,trivial⟩ ?_
  have A1:At h2 h.next (.cells [zi s,zi c,.float .f32 x,.float .f32 y,.float .f32 z] true true 84):=N1.at_.hx N2.hx
  have A2:=N2.at_
  have X2:=N1.hx.trans N2.hx
  have f2:=f.on X2
  have n1:=N1.next
  have n2:=N2.next
  refine WL.sr <| WOL.fa rfl (fa_of fo1003_0) <| WOL.ld rfl (load_one tp3 A1 rfl) ?_
  refine WOL.cvw u3 u5 rfl ?_
  rw [u8_wrap,Int.emod_eq_of_lt (by omega) (by omega)]
  refine WOL.bsl rfl u116 tp5 (by decide) (by decide) (by decide) (cs:=cat encY [90,s]) rfl fun h3 N3 => ?_
  have n3:=N3.next
  have f3:=f2.on N3.hx
  refine WOL.fa rfl (fa_of fo1003_1) <| WOL.ld rfl (load_one tp3 (A1.hx N3.hx) rfl) ?_
  have O3:OwnF encY h2.next h3 (.slice (some ⟨h2.next,0,none⟩) 2 2) 5 [90,s]:=.inr ⟨_,rfl,Nat.le_refl _,N3.at_⟩
  refine WOL.lr2 [some h2.next,none,none,some h.next] rfl rfl rfl rfl fun M hM => ((k1029 H (h:=h3.withLock M) (n:=c) (k:=2) (by decide) (f3.heldO hM (fun b hb => by simp at hb; omega))).mono ?_)
  rintro w h4 ⟨X4,O4⟩
  replace X4:HX h3 (h4.withLock h3.lock):=X4.relock
  replace O4:=(O4.relock h3.lock).sl eY
  show ∀ a,Kn _ a → WO _ _ _ a (h4.withLock h3.lock) _
  generalize h4.withLock h3.lock = h4 at *
  have n4:=X4.next
  have Z4:=N3.hx.trans X4
  obtain ⟨w5,h5,ap,O5,x5,n5⟩:=own_catF (sT:=106) eY u116 tp5 (O3.hx X4) O4 (by rw [bytesN_len]; decide) ((f2.hx Z4).up (Nat.le_refl _)) (by rw [bytesN_len]; simp) (by omega)
  have X5:=x5 _ Z4 (Nat.le_refl _)
  refine WOL.ap rfl rfl ap <| WOL.as rfl <| WOL.nil <| keep [(1,_),(2,_),(3,_)] ⟨rfl,rfl,rfl,trivial⟩ ?_
  refine WL.seq <| WL.sr <| WOL.as rfl <| WOL.nil <| keep [(1,_),(2,_),(3,_),(4,_)] ⟨rfl,rfl,rfl,rfl,trivial⟩ ?_
  refine WL.block ?_
  refine WL.loop (fun q a g => ∃ (k:Nat) (w:Value),k ≤ 3 ∧ q = 3 - k ∧ HX h2 g ∧ OwnF encY h2.next g w 5 (bodyK s c x y z k) ∧ h2.next ≤ g.next ∧ Kn [(1,ptr h.next),(2,ptr h1.next),(3,w),(4,zi (k:Nat))] a) 3 (fun a q => ⟨0,w5,by omega,by omega,X5,by simpa [bodyK] using O5,by omega,q.sub ⟨rfl,rfl,rfl,rfl,trivial⟩⟩) ?_
  rintro q a g ⟨k,w,hk,rfl,X6,O6,n6,q⟩
  refine q.go ?_
  refine WL.seq <| WL.sr <| WOL.mv rfl ?_
  refine WOL.bi (v:=.bool (decide ((k:Int) < 3))) rfl rfl rfl <| WOL.nil <| keep [(1,_),(2,_),(3,_),(4,_),(17,_)] ⟨rfl,rfl,rfl,rfl,rfl,trivial⟩ ?_
  have lk:=bodyK_len (s:=s) (c:=c) (x:=x) (y:=y) (z:=z) k
  by_cases hk3:k < 3
  · rw [show decide ((k:Int) < 3) = true from decide_eq_true (by omega)]
    refine WL.yes rfl <| WL.skip ?_
    have hwk:[zi (s:Nat),zi (c:Nat),.float .f32 x,.float .f32 y,.float .f32 z][2 + k]? = some (.float .f32 (wd x y z k)):=by
      obtain rfl | rfl | rfl:k = 0 ∨ k = 1 ∨ k = 2:=by omega
      · rfl
      · rfl
      · rfl
    refine WL.seq <| WL.block <| WL.reg ?_
    refine WOL.mv rfl <| WOL.mv rfl <| WOL.fa rfl (fa_of fo1003_2) <| WOL.ix rfl rfl (ix109 hk3) ?_
    refine WOL.ld rfl (load_one tp25 (A1.hx X6) hwk) ?_
    refine WOL.cl1 rfl rfl ((k1030 H Y (hw k) (f2.on X6)).mono ?_)
    rintro v g2 ⟨X7,s7⟩
    have Z7:=X6.trans X7
    obtain ⟨w8,g3,ap,O8,x8,n8⟩:=own_catF (sT:=106) eY u116 tp5 (O6.hx X7) s7 (by rw [bytesN_len]; decide) ((f2.hx Z7).up (Nat.le_refl _)) (by rw [bytesN_len]; omega) (by have:=X7.next; omega)
    refine WOL.ap rfl rfl ap <| WOL.as rfl <| WOL.nil <| keep [(1,_),(2,_),(3,_),(4,_)] ⟨rfl,rfl,rfl,rfl,trivial⟩ ?_
    refine WL.reg <| WOL.mv rfl ?_
    refine WOL.bi (v:=zi ((k + 1:Nat):Int)) rfl rfl (by show some (Value.int .i64 (fwrap .i64 ((k:Int) + 1))) = _; rw [fwrap_i64 (by omega) (by omega)]; rfl) ?_
    refine WOL.as rfl <| WOL.nil ?_
    exact fun a q => ⟨3 - (k + 1),by omega,k + 1,w8,by omega,rfl,x8 _ Z7 (Nat.le_refl _),by
      have e:bodyK s c x y z (k + 1) = bodyK s c x y z k ++ bytesN (wordF (wd x y z k)) 4:=by
        unfold bodyK
        rw [List.range_succ,List.flatMap_append,← List.append_assoc]
        simp
      rw [e]; exact O8,by have:=X7.next; omega,q.sub ⟨rfl,rfl,rfl,rfl,trivial⟩⟩
  · rw [show decide ((k:Int) < 3) = false from decide_eq_false (by omega)]
    obtain rfl:k = 3:=by omega
    refine WL.no rfl <| WL.exit ?_
    have hb:=bodyK_byt (c:=c) (x:=x) (y:=y) (z:=z) hs 3
    have sl:=O6.sl eY
    have ti:=tot_in (bodyK s c x y z 3) (bodyK s c x y z 3).length
    rw [List.take_length] at ti
    obtain ⟨T,hT⟩:∃ T:Nat,tot (bodyK s c x y z 3) = (T:Int):=⟨(tot (bodyK s c x y z 3)).toNat,by omega⟩
    refine WL.sr <| WOL.mv rfl ?_
    refine WOL.cl1 rfl rfl ((k70 H sl hb (by omega)).mono ?_)
    rintro v g2 ⟨rfl,rfl⟩
    rw [hT]
    refine WOL.as rfl <| WOL.nil <| keep [(1,_),(2,_),(3,_),(5,_)] ⟨rfl,rfl,rfl,rfl,trivial⟩ ?_
    refine WL.sr <| WOL.mv rfl <| WOL.mv rfl ?_
    refine WOL.cl2 rfl rfl rfl ((k1029 H (n:=T) (k:=4) (by decide) (f2.on X6)).mono ?_)
    rintro w7 g3 ⟨X7,O7⟩
    have Z7:=X6.trans X7
    obtain ⟨w8,g4,ap,O8,x8,n8⟩:=own_catF (sT:=106) eY u116 tp5 (O6.hx X7) (O7.sl eY) (by rw [bytesN_len]; decide) ((f2.hx Z7).up (Nat.le_refl _)) (by rw [bytesN_len]; omega) (by have:=X7.next; omega)
    have X8:=x8 _ Z7 (Nat.le_refl _)
    have e:bodyK s c x y z 3 ++ bytesN T 4 = frameB s c x y z:=by
      unfold frameB bodyB
      rw [hT,Int.toNat_natCast]
    rw [e] at O8
    have fl:=frameB_len (s:=s) (c:=c) (x:=x) (y:=y) (z:=z)
    have s8:=O8.sl eY
    have cl:(cat encY (frameB s c x y z)).length = 20:=by rw [eY.cat_len,fl]
    refine WOL.ap rfl rfl ap <| WOL.as rfl <| WOL.nil <| keep [(2,_),(3,_)] ⟨rfl,rfl,trivial⟩ ?_
    refine WL.sr <| WOL.al tp106 fun g5 N5 => WOL.nil <| keep [(2,_),(3,_),(6,_)] ⟨rfl,rfl,rfl,trivial⟩ ?_
    have n5':=N5.next
    have X9:=X8.trans N5.hx
    have x9:=X9.next
    have e20:List.replicate 20 (Value.int .u8 0) = cat encY ((frameB s c x y z).take 0 ++ List.replicate (20 - 0) 0):=rfl
    have B6:At g5 g4.next (.cells (cat encY ((frameB s c x y z).take 0 ++ List.replicate (20 - 0) 0)) true true 85):=by rw [← e20]; exact N5.at_
    refine WL.seq <| WL.sr <| WOL.as rfl <| WOL.nil <| keep [(2,_),(3,_),(6,_),(7,_)] ⟨rfl,rfl,rfl,rfl,trivial⟩ ?_
    refine WL.block ?_
    refine WL.loop (fun q a g => ∃ i:Nat,i ≤ 20 ∧ q = 20 - i ∧ HX g4 g ∧ g4.next < g.next ∧ At g g4.next (.cells (cat encY ((frameB s c x y z).take i ++ List.replicate (20 - i) 0)) true true 85) ∧ Kn [(2,ptr h1.next),(3,w8),(6,ptr g4.next),(7,zi (i:Nat))] a) 20 (fun a q => ⟨0,by omega,by omega,N5.hx,by omega,B6,q.sub ⟨rfl,rfl,rfl,rfl,trivial⟩⟩) ?_
    rintro q a g ⟨i,hi,rfl,X10,n10,B,q⟩
    refine q.go ?_
    refine WL.seq <| WL.sr <| WOL.mv rfl ?_
    refine WOL.bi (v:=.bool (decide ((i:Int) < 20))) rfl rfl rfl <| WOL.nil <| keep [(2,_),(3,_),(6,_),(7,_),(34,_)] ⟨rfl,rfl,rfl,rfl,rfl,trivial⟩ ?_
    have Y10:=X8.trans X10
    have f4:Free0 g4.next g4:=f2.on X8
    by_cases hi2:i < 20
    · rw [show decide ((i:Int) < 20) = true from decide_eq_true (by omega)]
      obtain ⟨p,ip,lp⟩:=elemY (s8.hx X10) (by omega:i < (frameB s c x y z).length)
      refine WL.yes rfl <| WL.skip ?_
      refine WL.seq <| WL.block <| WL.reg ?_
      refine WOL.mv rfl <| WOL.mv rfl <| WOL.mv rfl <| WOL.ix rfl rfl ip <| WOL.ld rfl lp <| WOL.ix rfl rfl (ix106 hi2) ?_
      refine WOL.sto (vs:=encY ((frameB s c x y z).getD i 0)) rfl rfl tp5 B rfl rfl (by rw [eY.cat_len]; simp; omega) rfl (f4.hx X10) (Nat.le_refl _) fun g6 P6 => ?_
      have B':=P6.at_
      have hs':=eY.set (l:=(frameB s c x y z).take i ++ List.replicate (20 - i) 0) (i:=i) (by simp; omega) ((frameB s c x y z).getD i 0)
      rw [Nat.mul_one] at hs'
      rw [hs'] at B'
      have hfs:((frameB s c x y z).take i ++ List.replicate (20 - i) 0).set i (frameB s c x y z)[i] = (frameB s c x y z).take (i + 1) ++ List.replicate (20 - (i + 1)) 0:=by
        exact fill_setN fl (by omega)
      rw [show (frameB s c x y z).getD i 0 = (frameB s c x y z)[i] by rw [List.getD_eq_getElem?_getD,List.getElem?_eq_getElem (by omega)]; rfl,hfs] at B'
      refine WOL.nil <| keep [(2,_),(3,_),(6,_),(7,_)] ⟨rfl,rfl,rfl,rfl,trivial⟩ ?_
      refine WL.reg <| WOL.mv rfl ?_
      refine WOL.bi (v:=zi ((i + 1:Nat):Int)) rfl rfl (by show some (Value.int .i64 (fwrap .i64 ((i:Int) + 1))) = _; rw [fwrap_i64 (by omega) (by omega)]; rfl) ?_
      refine WOL.as rfl <| WOL.nil ?_
      exact fun a q => ⟨20 - (i + 1),by omega,i + 1,by omega,rfl,P6.hx _ X10 (Nat.le_refl _),by rw [P6.next]; exact n10,B',q.sub ⟨rfl,rfl,rfl,rfl,trivial⟩⟩
    · rw [show decide ((i:Int) < 20) = false from decide_eq_false (by omega)]
      obtain rfl:i = 20:=by omega
      refine WL.no rfl <| WL.exit ?_
      have eF:(frameB s c x y z).take 20 ++ List.replicate (20 - 20) 0 = frameB s c x y z:=by rw [List.take_of_length_le (by omega)]; simp
      rw [eF] at B
      refine WL.sr <| WOL.ld rfl (load_row tp106 B (l:=cat encY (frameB s c x y z)) (by rw [List.drop_zero,List.take_of_length_le (by omega)]) (by omega)) ?_
      refine WOL.sto (vs:=cat encY (frameB s c x y z)) rfl rfl tp106 (A2.hx Y10) rfl cl (Nat.le_of_ble_eq_true rfl) (eY.all _) (f.hx (X2.trans Y10)) N1.hx.next fun g7 P7 => ?_
      have B7:=P7.at_
      rw [splice_all _ _ (by rw [cl]; rfl)] at B7
      refine WOL.nil ?_
      exact WL.ret (WL.endC rfl (load_row tp106 B7 (l:=cat encY (frameB s c x y z)) (by rw [List.drop_zero,List.take_of_length_le (by omega)]) (by omega)) ⟨rfl,P7.hx _ (X2.trans Y10) N1.hx.next⟩)
end
end Go.Tidy
namespace Go.Tidy
open Go Go.Proofs Tab
variable {tp:TProg}
def hdF (l:List Nat):Int:=firstNZ [cond ((l.getD 0 0:Int) != 90) 1 0,cond (((numB (l.drop 16):Nat):Int) != tot (l.take 16)) 27 0]
def badW (l:List Nat):Nat → Bool
 | 0 => false
 | k + 1 => cond (badW l k) true (((wrdB l k:Nat):Int) == 2147483648)
def tlF (l:List Nat) (es:List Int):Int:=firstNZ [firstNZ es,cond (badW l 3) 1 0]
def decF (l:List Nat) (es:List Int):Int:=cond (hdF l != 0) (hdF l) (tlF l es)
def decR (l:List Nat) (es:List Int):Value:=cond (decF l es != 0) (.tuple #[pak 0 0 0 0 0,zi (decF l es)]) (.tuple #[pak (srcB l) (cntB l) (wrdB l 0) (wrdB l 1) (wrdB l 2),zi 0])
theorem bd1003 {a b:Int}:buildT Tryz.prog 84 [(0,.int .i64 a),(1,.int .i64 b)] = some (pak a b 0 0 0):=by kernel_rfl
theorem bd1003z:buildT Tryz.prog 84 [] = some (pak 0 0 0 0 0):=by kernel_rfl
theorem r9_step {h:TH} {K:Regs → TH → Prop} {v1 v2 v5 v7:Value} {b:Bool} {w:Int} (q:∀ a,Kn [(1,v1),(2,v2),(5,v5),(6,.bool (cond b true (w == 2147483648))),(7,v7),(8,zi w)] a → K a h):∀ a,Kn [(1,v1),(2,v2),(5,v5),(6,.bool b),(7,v7),(8,zi w)] a → WO Tryz.prog tp r1017_9 a h K:=by
 refine WOL.mv rfl <| WOL.mv rfl ?_
 cases b with
 | true => exact WOL.skp (b:=true) rfl rfl <| WOL.skp (b:=true) rfl rfl <| WOL.pkt rfl rfl <| WOL.as rfl <| WOL.nil <| keep [(1,_),(2,_),(5,_),(6,_),(7,_),(8,_)] ⟨rfl,rfl,rfl,rfl,rfl,rfl,trivial⟩ q
 | false => exact WOL.now (b:=false) rfl rfl <| WOL.mv rfl <| WOL.now (b:=false) rfl rfl <| WOL.bi (v:=.bool (w == 2147483648)) rfl rfl rfl <| WOL.pkf rfl rfl <| WOL.as rfl <| WOL.nil <| keep [(1,_),(2,_),(5,_),(6,_),(7,_),(8,_)] ⟨rfl,rfl,rfl,rfl,rfl,rfl,trivial⟩ q
section
variable {h:TH} {l:List Nat} {es:List Int}
set_option maxHeartbeats 4000000 in
set_option maxRecDepth 10000 in
theorem k1017 (H:Has tp) (Y:HasY tp) (hl:l.length = 20) (hb:Byt l) (hE:SErr [wrdB l 0,wrdB l 1,wrdB l 2] es) (f:Free0 h.next h):CallW Tryz.prog tp (.func (.func 63) #[] #[]) #[.agg (cat encY l).toArray] h fun v h' => v = decR l es ∧ HX h h':=by
 refine CallW.fnL (H.fn 63 f1017 rfl rfl) ?_
 have cl:(cat encY l).length = 20:=by rw [eY.cat_len,hl]
 refine WL.sr <| WOL.box rfl fun h1 N1 => WOL.al tp1003 fun h2 N2 => WOL.as rfl <| WOL.nil <| keep [(1,_),(2,_)] ⟨rfl,rfl,trivial⟩ ?_
 have A1:At h2 h.next (.cells (cat encY l) true true 85):=N1.at_.hx N2.hx
 have A2:=N2.at_
 have X2:=N1.hx.trans N2.hx
 have n1:=N1.next
 have n2:=N2.next
 have b0:=hb.at 0
 have b1:=hb.at 1
 have w0:=wrdB_lt hb 0
 have w1:=wrdB_lt hb 1
 have w2:=wrdB_lt hb 2
 have cc:=cntB_lt hb
 have ss:srcB l < 256:=b1
 have cg:∀ j,j < 20 → (cat encY l)[j]? = some (.int .u8 (l.getD j 0:Nat)):=fun j hj => by
  rw [cat_Y,List.getElem?_map,List.getD_eq_getElem?_getD,List.getElem?_eq_getElem (by omega:j < l.length)]
  rfl
 refine WL.seq <| WL.sr <| WOL.ix rfl rfl ix106_0 ?_
 refine WOL.ld rfl (load_one tp5 A1 (cg 0 (by decide))) ?_
 refine WOL.bi (v:=.bool ((l.getD 0 0:Int) != 90)) rfl rfl rfl ?_
 refine WOL.slG rfl rfl rfl rfl (sliceA u106 tp5 A1 (l:=16) (hh:=20) (m:=20) rfl) ?_
 refine WOL.slG rfl rfl rfl rfl (sliceA u106 tp5 A1 (l:=0) (hh:=16) (m:=20) rfl) ?_
 refine WOL.lk2 rfl rfl rfl fun M => ((k32 H _ 1 _).mono ?_)
 rintro v g ⟨rfl,rfl⟩
 have sD:=slY (lo:=16) (hi:=20) (m:=20) A1 (by decide) (by omega) (by decide)
 have eD:(l.drop 16).take (20 - 16) = l.drop 16:=List.take_of_length_le (by rw [List.length_drop]; omega)
 rw [eD] at sD
 have sT:=slY (lo:=0) (hi:=16) (m:=20) A1 (by decide) (by omega) (by decide)
 rw [List.drop_zero,Nat.sub_zero] at sT
 refine WOL.lk1 rfl rfl fun M => ((k1031 H (sD.relock M) (hb.drop _) (by rw [List.length_drop]; omega)).mono ?_)
 rintro v g ⟨rfl,rfl⟩
 show ∀ a,Kn _ a → WO _ _ _ a h2 _
 refine WOL.cl1 rfl rfl ((k70 H sT (hb.take _) (by rw [List.length_take]; omega)).mono ?_)
 rintro v g ⟨rfl,rfl⟩
 refine WOL.bi (v:=.bool (((numB (l.drop 16):Nat):Int) != tot (l.take 16))) rfl rfl rfl ?_
 refine WOL.cl2 rfl rfl rfl ((k32 H _ 27 _).mono ?_)
 rintro v g ⟨rfl,rfl⟩
 refine WOL.bsl rfl u29 tp3 (by decide) (by decide) (by decide) (cs:=[_,_].map (.int .i64)) rfl fun h3 N3 => ?_
 have n3:=N3.next
 have X3:=X2.trans N3.hx
 refine WOL.cl1 rfl rfl ((k13 H (l:=[_,_]) N3.at_.get (by simp)).mono ?_)
 rintro v g ⟨rfl,e3⟩
 replace e3:=e3.symm
 subst e3
 refine WOL.as rfl <| WOL.nil <| keep [(1,_),(2,_),(4,_)] ⟨rfl,rfl,rfl,trivial⟩ ?_
 refine WL.sr <| WOL.mv rfl <| WOL.bi rfl rfl nzero <| WOL.nil <| keep [(1,_),(2,_),(4,_),(23,_)] ⟨rfl,rfl,rfl,rfl,trivial⟩ ?_
 show ∀ a,Kn [(1,_),(2,_),(4,zi (hdF l)),(23,.bool (hdF l != 0))] a → _
 rcases nz_cases (hdF l) with h0 | h0
 rotate_left
 ·rw [h0]
  refine WL.yes rfl <| WL.sr <| WOL.bd rfl bd1003z <| WOL.mv rfl ?_
  refine WOL.sto rfl rfl tp1003 (A2.hx N3.hx) rfl rfl (Nat.le_of_ble_eq_true rfl) rfl (f.hx X3) (by omega) fun g9 P9 => ?_
  refine WOL.as rfl <| WOL.nil ?_
  refine WL.ret (WL.endC1 rfl rfl (load_row tp1003 P9.at_ rfl (Nat.le_of_ble_eq_true rfl)) ⟨?_,P9.hx _ X3 (by omega)⟩)
  have e:decF l es = hdF l:=by unfold decF; rw [h0]; rfl
  unfold decR
  rw [e,h0]
  rfl
 have eF:decF l es = tlF l es:=by unfold decF; rw [h0]; rfl
 rw [h0]
 refine WL.no rfl <| WL.skip ?_
 refine keep [(1,_),(2,_)] ⟨rfl,rfl,trivial⟩ ?_
 have A3:=A1.hx N3.hx
 refine WL.sr <| WOL.ix rfl rfl ix106_1 ?_
 refine WOL.ld rfl (load_one tp5 A3 (cg 1 (by decide))) <| WOL.convU u5 u3 rfl (by omega) (by omega) ?_
 refine WOL.slG rfl rfl rfl rfl (sliceA u106 tp5 A3 (l:=2) (hh:=4) (m:=20) rfl) ?_
 refine WOL.al tp1003 fun h4 N4 => ?_
 have n4:=N4.next
 have X4:=X3.trans N4.hx
 have A4:=A3.hx N4.hx
 refine WOL.lk1 rfl rfl fun M => ((k1031 H ((slY (lo:=2) (hi:=4) (m:=20) A4 (by decide) (by omega) (by decide)).relock M) ((hb.drop 2).take _) (by rw [List.length_take]; omega)).mono ?_)
 rintro v g ⟨rfl,rfl⟩
 show ∀ a,Kn _ a → WO _ _ _ a h4 _
 refine WOL.bd rfl bd1003 ?_
 refine WOL.sto rfl rfl tp1003 N4.at_ rfl rfl (Nat.le_of_ble_eq_true rfl) rfl (f.hx X4) (by omega) fun h5 P5 => ?_
 have Y5:=P5.hx _ X4 (by omega)
 have n5:=P5.next
 have A15:At h5 h.next (.cells (cat encY l) true true 85):=P5.oth _ _ (by omega) A4
 have A25:=P5.oth h1.next _ (by omega) ((A2.hx N3.hx).hx N4.hx)
 have A45:At h5 h3.next (.cells (pakC (srcB l) (cntB l) (wrdB l) 0) true true 84):=P5.at_
 refine WOL.nil <| keep [(1,_),(2,_),(5,_)] ⟨rfl,rfl,rfl,trivial⟩ ?_
 refine WL.sr <| WOL.as rfl <| WOL.nil <| keep [(1,_),(2,_),(5,_),(6,_)] ⟨rfl,rfl,rfl,rfl,trivial⟩ ?_
 refine WL.seq <| WL.sr <| WOL.as rfl <| WOL.nil <| keep [(1,_),(2,_),(5,_),(6,_),(7,_)] ⟨rfl,rfl,rfl,rfl,rfl,trivial⟩ ?_
 refine WL.block ?_
 refine WL.loop (fun q a g => ∃ k:Nat,k ≤ 3 ∧ q = 3 - k ∧ HX h g ∧ h3.next < g.next ∧ At g h.next (.cells (cat encY l) true true 85) ∧ At g h1.next (.cells [.int .i64 0,.int .i64 0,.float .f32 0,.float .f32 0,.float .f32 0] true true 84) ∧ At g h3.next (.cells (pakC (srcB l) (cntB l) (wrdB l) k) true true 84) ∧ Kn [(1,ptr h.next),(2,ptr h1.next),(5,ptr h3.next),(6,.bool (badW l k)),(7,zi (k:Nat))] a) 3 (fun a q => ⟨0,by omega,by omega,Y5,A45.lt,A15,A25,A45,q.sub ⟨rfl,rfl,rfl,rfl,rfl,trivial⟩⟩) ?_
 rintro q a g ⟨k,hk,rfl,X6,hg,B1,B2,B4,q⟩
 refine q.go ?_
 refine WL.seq <| WL.sr <| WOL.mv rfl ?_
 refine WOL.bi (v:=.bool (decide ((k:Int) < 3))) rfl rfl rfl <| WOL.nil <| keep [(1,_),(2,_),(5,_),(6,_),(7,_),(33,_)] ⟨rfl,rfl,rfl,rfl,rfl,rfl,trivial⟩ ?_
 by_cases hk3:k < 3
 ·rw [show decide ((k:Int) < 3) = true from decide_eq_true (by omega)]
  refine WL.yes rfl <| WL.skip ?_
  refine WL.seq <| WL.block ?_
  refine WL.sr <| WOL.mv rfl ?_
  refine WOL.bi (v:=zi ((4 * k:Nat):Int)) rfl rfl (by show some (Value.int .i64 (fwrap .i64 (4 * (k:Int)))) = _; rw [fwrap_i64 (by omega) (by omega)]; rfl) ?_
  refine WOL.bi (v:=zi ((4 + 4 * k:Nat):Int)) rfl rfl (by show some (Value.int .i64 (fwrap .i64 (4 + ((4 * k:Nat):Int)))) = _; rw [fwrap_i64 (by omega) (by omega)]; congr 2) ?_
  refine WOL.mv rfl ?_
  refine WOL.bi (v:=zi ((4 * k:Nat):Int)) rfl rfl (by show some (Value.int .i64 (fwrap .i64 (4 * (k:Int)))) = _; rw [fwrap_i64 (by omega) (by omega)]; rfl) ?_
  refine WOL.bi (v:=zi ((8 + 4 * k:Nat):Int)) rfl rfl (by show some (Value.int .i64 (fwrap .i64 (8 + ((4 * k:Nat):Int)))) = _; rw [fwrap_i64 (by omega) (by omega)]; congr 2) ?_
  refine WOL.slG rfl rfl rfl rfl (sliceA u106 tp5 B1 (cut_at hk3)) ?_
  have sl:=slY (lo:=4 + 4 * k) (hi:=8 + 4 * k) (m:=20) B1 (by omega) (by omega) (by omega)
  rw [show 8 + 4 * k - (4 + 4 * k) = 4 by omega] at sl ⊢
  have wk:=wrdB_lt hb k
  refine WOL.cl1 rfl rfl ((k1031 H sl ((hb.drop _).take _) (by rw [List.length_take]; omega)).mono ?_)
  rintro v g2 ⟨rfl,rfl⟩
  refine WOL.as rfl <| WOL.nil <| keep [(1,_),(2,_),(5,_),(6,_),(7,_),(8,_)] ⟨rfl,rfl,rfl,rfl,rfl,rfl,trivial⟩ ?_
  show ∀ a,Kn [(1,ptr h.next),(2,ptr h1.next),(5,ptr h3.next),(6,.bool (badW l k)),(7,zi (k:Nat)),(8,zi (wrdB l k:Nat))] a → _
  refine WL.sr <| r9_step ?_
  show ∀ a,Kn [(1,ptr h.next),(2,ptr h1.next),(5,ptr h3.next),(6,.bool (badW l (k + 1))),(7,zi (k:Nat)),(8,zi (wrdB l k:Nat))] a → _
  refine WL.reg <| WOL.mv rfl <| WOL.mv rfl <| WOL.cvw u3 u216 rfl ?_
  rw [u32_wrap,Int.emod_eq_of_lt (by omega) (by omega)]
  refine WOL.x1E (v:=.float .f32 (wrdB l k)) rfl Y.no2 Y.back rfl rfl (word_exact wk) ?_
  refine WOL.fa rfl (fa_of fo1003_2) <| WOL.ix rfl rfl (ix109 hk3) ?_
  refine WOL.sto rfl rfl tp25 B4 rfl rfl (by show 2 + k + 1 ≤ 5; omega) rfl (f.hx X6) (by omega) fun g3 P3 => ?_
  have C4:At g3 h3.next (.cells (splice (pakC (srcB l) (cntB l) (wrdB l) k) (2 + k) [.float .f32 (wrdB l k)]) true true 84):=P3.at_
  rw [pakC_next hk3] at C4
  have p3:=P3.next
  refine WOL.nil ?_
  refine WL.reg <| WOL.mv rfl ?_
  refine WOL.bi (v:=zi ((k + 1:Nat):Int)) rfl rfl (by show some (Value.int .i64 (fwrap .i64 ((k:Int) + 1))) = _; rw [fwrap_i64 (by omega) (by omega)]; rfl) ?_
  refine WOL.as rfl <| WOL.nil ?_
  exact fun a q => ⟨3 - (k + 1),by omega,k + 1,by omega,rfl,P3.hx _ X6 (by omega),by omega,P3.oth _ _ (by omega) B1,P3.oth _ _ (by omega) B2,C4,q.sub ⟨rfl,rfl,rfl,rfl,rfl,trivial⟩⟩
 ·rw [show decide ((k:Int) < 3) = false from decide_eq_false (by omega)]
  obtain rfl:k = 3:=by omega
  refine WL.no rfl <| WL.exit ?_
  have B4':At g h3.next (.cells [zi (srcB l),zi (cntB l),.float .f32 (wrdB l 0),.float .f32 (wrdB l 1),.float .f32 (wrdB l 2)] true true 84):=B4
  refine WL.seq <| WL.sr <| WOL.fa rfl (fa_of fo1003_2) ?_
  refine WOL.slG rfl rfl rfl rfl (sliceA u109 tp25 B4' rfl) ?_
  refine WOL.cl1 rfl rfl ((k141 H (slR B4') hE (by simp)).mono ?_)
  rintro v g5 ⟨rfl,rfl⟩
  refine WOL.mv rfl <| WOL.cl2 rfl rfl rfl ((k32 H _ 1 _).mono ?_)
  rintro v g6 ⟨rfl,rfl⟩
  refine WOL.bsl rfl u29 tp3 (by decide) (by decide) (by decide) (cs:=[_,_].map (.int .i64)) rfl fun g7 N7 => ?_
  have Y10:=X6.trans N7.hx
  have n7:=N7.next
  refine WOL.cl1 rfl rfl ((k13 H (l:=[_,_]) N7.at_.get (by simp)).mono ?_)
  rintro v g8 ⟨rfl,rfl⟩
  have B2':=B2.hx N7.hx
  have B4'':=B4'.hx N7.hx
  refine WOL.as rfl <| WOL.nil <| keep [(1,_),(2,_),(5,_),(9,_)] ⟨rfl,rfl,rfl,rfl,trivial⟩ ?_
  refine WL.sr <| WOL.mv rfl <| WOL.bi rfl rfl nzero <| WOL.nil <| keep [(1,_),(2,_),(5,_),(9,_),(63,_)] ⟨rfl,rfl,rfl,rfl,rfl,trivial⟩ ?_
  show ∀ a,Kn [(1,_),(2,_),(5,_),(9,zi (tlF l es)),(63,.bool (tlF l es != 0))] a → _
  rcases nz_cases (tlF l es) with h1' | h1'
  ·rw [h1']
   refine WL.no rfl <| WL.skip ?_
   refine WL.sr <| WOL.ld rfl (load_row tp1003 B4'' rfl (Nat.le_of_ble_eq_true rfl)) ?_
   refine WOL.sto rfl rfl tp1003 B2' rfl rfl (Nat.le_of_ble_eq_true rfl) rfl (f.hx Y10) (by omega) fun g9 P9 => ?_
   refine WOL.as rfl <| WOL.nil ?_
   refine WL.ret (WL.endC1 rfl rfl (load_row tp1003 P9.at_ rfl (Nat.le_of_ble_eq_true rfl)) ⟨?_,P9.hx _ Y10 (by omega)⟩)
   unfold decR
   rw [eF,h1']
   rfl
  ·rw [h1']
   refine WL.yes rfl <| WL.sr <| WOL.bd rfl bd1003z <| WOL.mv rfl ?_
   refine WOL.sto rfl rfl tp1003 B2' rfl rfl (Nat.le_of_ble_eq_true rfl) rfl (f.hx Y10) (by omega) fun g9 P9 => ?_
   refine WOL.as rfl <| WOL.nil ?_
   refine WL.ret (WL.endC1 rfl rfl (load_row tp1003 P9.at_ rfl (Nat.le_of_ble_eq_true rfl)) ⟨?_,P9.hx _ Y10 (by omega)⟩)
   unfold decR
   rw [eF,h1']
   rfl
end
end Go.Tidy
namespace Go.Tidy
open Go Go.Proofs Tab
theorem numB_div {l:List Nat} (hb:Byt l):∀ d j,j + d = l.length → numB l / 256 ^ d = numB (l.take j)
 | 0,j,h => by
  rw [List.take_of_length_le (by omega),Nat.pow_zero,Nat.div_one]
 | d + 1,j,h => by
  rw [Nat.pow_succ,← Nat.div_div_eq_div_mul,numB_div hb d (j + 1) (by omega),numB_step (by omega)]
  have:=hb.at j
  omega
theorem bytesB {m:List Nat} (hb:Byt m):bytesN (numB m) m.length = m:=by
 refine List.ext_getElem bytesN_len fun i h1 h2 => ?_
 have e:(bytesN (numB m) m.length)[i] = bytN (numB m) m.length i:=by simp [bytesN]
 rw [e]
 unfold bytN
 rw [show (2:Nat) ^ (8 * (m.length - 1 - i)) = 256 ^ (m.length - 1 - i) by rw [Nat.pow_mul],numB_div hb (m.length - 1 - i) (i + 1) (by omega),numB_step h2]
 have:=hb.at i
 rw [List.getD_eq_getElem?_getD,List.getElem?_eq_getElem h2] at this ⊢
 simp only [Option.getD_some] at this ⊢
 omega
theorem bytesB' {m:List Nat} {k:Nat} (hb:Byt m) (hk:m.length = k):bytesN (numB m) k = m:=hk ▸ bytesB hb
theorem wordF_id {w:Nat} (h:w < 4294967296) (hn:(((w:Nat):Int) == 2147483648) = false):wordF w = w:=by
 have:¬ (w:Int) = 2147483648:=by simpa using hn
 unfold wordF zeroF
 by_cases h0:w % 2147483648 = 0
 ·rw [decide_eq_true h0]
  show 0 = w
  omega
 ·rw [decide_eq_false h0]; rfl
theorem wordF_bad {w:Nat} (hn:(((w:Nat):Int) == 2147483648) = true):w = 2147483648 ∧ wordF w = 0:=by
 have:(w:Int) = 2147483648:=by simpa using hn
 obtain rfl:w = 2147483648:=by omega
 exact ⟨rfl,rfl⟩
theorem part_f {s c x y z:Nat} {k:Nat} (hk:k < 3):((frameB s c x y z).drop (4 + 4 * k)).take 4 = bytesN (wordF (wd x y z k)) 4:=by
 obtain rfl | rfl | rfl:k = 0 ∨ k = 1 ∨ k = 2:=by omega
 ·rfl
 ·rfl
 ·rfl
theorem cut_body (l:List Nat) (hl:l.length = 20):l.take 16 = [l.getD 0 0,l.getD 1 0] ++ (l.drop 2).take 2 ++ (l.drop 4).take 4 ++ (l.drop 8).take 4 ++ (l.drop 12).take 4:=by
 match l,hl with
 | [_,_,_,_,_,_,_,_,_,_,_,_,_,_,_,_,_,_,_,_],_ => rfl
theorem bad_at {l:List Nat} (h:badW l 3 = true):∃ k,k < 3 ∧ (((wrdB l k:Nat):Int) == 2147483648) = true:=by
 by_cases h0:(((wrdB l 0:Nat):Int) == 2147483648) = true
 ·exact ⟨0,by decide,h0⟩
 by_cases h1:(((wrdB l 1:Nat):Int) == 2147483648) = true
 ·exact ⟨1,by decide,h1⟩
 by_cases h2:(((wrdB l 2:Nat):Int) == 2147483648) = true
 ·exact ⟨2,by decide,h2⟩
 rw [Bool.not_eq_true] at h0 h1 h2
 unfold badW badW badW badW at h
 rw [h0,h1,h2] at h
 cases h
theorem bad_not {l:List Nat} (h:badW l 3 = false):∀ k,k < 3 → (((wrdB l k:Nat):Int) == 2147483648) = false:=by
 unfold badW badW badW badW at h
 intro k hk
 cases h0:(((wrdB l 0:Nat):Int) == 2147483648) <;> rw [h0] at h <;> try cases h
 cases h1:(((wrdB l 1:Nat):Int) == 2147483648) <;> rw [h1] at h <;> try cases h
 obtain rfl | rfl | rfl:k = 0 ∨ k = 1 ∨ k = 2:=by omega
 ·exact h0
 ·exact h1
 ·exact h
theorem wd_wrd {l:List Nat} {k:Nat} (hk:k < 3):wd (wrdB l 0) (wrdB l 1) (wrdB l 2) k = wrdB l k:=by
 obtain rfl | rfl | rfl:k = 0 ∨ k = 1 ∨ k = 2:=by omega
 ·rfl
 ·rfl
 ·rfl
theorem again {l:List Nat} (hl:l.length = 20) (hb:Byt l) (h90:l.getD 0 0 = 90) (ht:((numB (l.drop 16):Nat):Int) = tot (l.take 16)):(!decide (frameB (srcB l) (cntB l) (wrdB l 0) (wrdB l 1) (wrdB l 2) = l)) = badW l 3:=by
 cases h:badW l 3 with
 | true =>
  obtain ⟨k,hk,hw⟩:=bad_at h
  obtain ⟨e1,e2⟩:=wordF_bad hw
  rw [decide_eq_false]
  ·rfl
  intro e
  have p:=part_f (s:=srcB l) (c:=cntB l) (x:=wrdB l 0) (y:=wrdB l 1) (z:=wrdB l 2) hk
  rw [e,wd_wrd hk,e2] at p
  have q:wrdB l k = numB (bytesN 0 4):=by rw [← p]; rfl
  rw [e1] at q
  exact absurd q (by decide)
 | false =>
  have nb:=bad_not h
  have e0:=wordF_id (wrdB_lt hb 0) (nb 0 (by decide))
  have e1:=wordF_id (wrdB_lt hb 1) (nb 1 (by decide))
  have e2:=wordF_id (wrdB_lt hb 2) (nb 2 (by decide))
  have hB:bodyB (srcB l) (cntB l) (wrdB l 0) (wrdB l 1) (wrdB l 2) = l.take 16:=by
   have:bodyB (srcB l) (cntB l) (wrdB l 0) (wrdB l 1) (wrdB l 2) = [90,srcB l] ++ bytesN (cntB l) 2 ++ bytesN (wordF (wrdB l 0)) 4 ++ bytesN (wordF (wrdB l 1)) 4 ++ bytesN (wordF (wrdB l 2)) 4:=rfl
   rw [this,e0,e1,e2,cut_body l hl,h90]
   unfold srcB cntB wrdB
   rw [bytesB' (k:=2) ((hb.drop _).take _) (by simp [hl]),bytesB' (k:=4) ((hb.drop _).take _) (by simp [hl]),bytesB' (k:=4) ((hb.drop _).take _) (by simp [hl]),bytesB' (k:=4) ((hb.drop _).take _) (by simp [hl])]
  have hF:frameB (srcB l) (cntB l) (wrdB l 0) (wrdB l 1) (wrdB l 2) = l:=by
   unfold frameB
   rw [hB,← ht,Int.toNat_natCast,bytesB' (k:=4) (hb.drop _) (by simp [hl]),List.take_append_drop]
  rw [decide_eq_true hF]
  rfl
theorem decE_eq {l:List Nat} {es:List Int} (hl:l.length = 20) (hb:Byt l):decE l es = decF l es:=by
 unfold decE decF tlF hdF
 by_cases h0:(l.getD 0 0:Int) = 90
 ·rw [show ((l.getD 0 0:Int) != 90) = false by rw [h0]; rfl]
  by_cases h1:((numB (l.drop 16):Nat):Int) = tot (l.take 16)
  ·rw [show (((numB (l.drop 16):Nat):Int) != tot (l.take 16)) = false by simp [h1],again hl hb (by omega) h1]
   rfl
  ·rw [show (((numB (l.drop 16):Nat):Int) != tot (l.take 16)) = true by simp [h1]]
   rfl
 ·rw [show ((l.getD 0 0:Int) != 90) = true from bne_iff_ne.2 h0]
  rfl
theorem decV_eq {l:List Nat} {es:List Int} (hl:l.length = 20) (hb:Byt l):decV l es = decR l es:=by
 unfold decV decR
 rw [decE_eq hl hb]
end Go.Tidy
namespace Go.Tidy
open Go Go.Proofs Tab
variable {tp:TProg}
abbrev Pkt:=Int × Int × Nat × Nat × Nat
def encP (p:Pkt):List Value:=[zi p.1,zi p.2.1,.float .f32 p.2.2.1,.float .f32 p.2.2.2.1,.float .f32 p.2.2.2.2]
def pakP (p:Pkt):Value:=pak p.1 p.2.1 p.2.2.1 p.2.2.2.1 p.2.2.2.2
theorem eP:Enc encP 5:=⟨fun _ => rfl,fun _ => rfl⟩
def PE (p:Pkt) (e:Int):Prop:=∃ es,SErr [p.2.2.1,p.2.2.2.1,p.2.2.2.2] es ∧ e = pakE p.1 p.2.1 es
def PErr (l:List Pkt) (E:List Int):Prop:=l.length = E.length ∧ ∀ (i:Nat) (p:Pkt) (e:Int),l[i]? = some p → E[i]? = some e → PE p e
theorem pe_ex (p:Pkt):∃ e,PE p e:=by
 obtain ⟨es,h⟩:=serr_ex [p.2.2.1,p.2.2.2.1,p.2.2.2.2]
 exact ⟨_,es,h,rfl⟩
theorem perr_ex:∀ l:List Pkt,∃ E,PErr l E
  | [] => ⟨[],rfl,fun i b e h => by simp at h⟩
  | p :: l => by
    obtain ⟨E,h1,h2⟩:=perr_ex l
    obtain ⟨e,he⟩:=pe_ex p
    refine ⟨e :: E,by simp [h1],fun i q e' hq hE => ?_⟩
    cases i with
    | zero =>
      simp at hq hE
      subst hq hE
      exact he
    | succ i => exact h2 i q e' (by simpa using hq) (by simpa using hE)
theorem u1004:Tryz.prog.underlying 86 = some (.slice 84):=by kernel_rfl
theorem u113:Tryz.prog.underlying 96 = some (.slice 92):=by kernel_rfl
section
variable {h:TH} {p:Pkt} {v:Value} {l:List Pkt} {E:List Int}
theorem k1014 (H:Has tp) {e:Int} (hE:PE p e):CallW Tryz.prog tp (.func (.func 60) #[] #[]) #[pakP p] h fun v h' => v = zi e ∧ HX h h':=by
 obtain ⟨es,hE,rfl⟩:=hE
 obtain ⟨s,c,x,y,z⟩:=p
 refine CallW.fnL (H.fn 60 f1014 rfl rfl) ?_
 refine WL.sr <| WOL.box rfl fun h1 N1 => WOL.as rfl <| WOL.nil <| keep [(1,_)] ⟨rfl,trivial⟩ ?_
 have A1:At h1 h.next (.cells [zi s,zi c,.float .f32 x,.float .f32 y,.float .f32 z] true true 84):=N1.at_
 refine WL.sr <| WOL.fa rfl (fa_of fo1003_0) <| WOL.ld rfl (load_one tp3 A1 rfl) <| WOL.fa rfl (fa_of fo1003_1) <| WOL.ld rfl (load_one tp3 A1 rfl) <| WOL.fa rfl (fa_of fo1003_2) ?_
 refine WOL.slG rfl rfl rfl rfl (sliceA u109 tp25 A1 rfl) ?_
 refine WOL.lk3 rfl rfl rfl rfl fun M => ((k14 H s 0 255 _).mono ?_)
 rintro v h2 ⟨rfl,rfl⟩
 refine WOL.lk3 rfl rfl rfl rfl fun M2 => ((k14 H c 0 65535 _).mono ?_)
 rintro v h3 ⟨rfl,rfl⟩
 refine WOL.cl1 rfl rfl ((k141 H (slR A1) hE (by simp)).mono ?_)
 rintro v h4 ⟨rfl,rfl⟩
 refine WOL.bsl rfl u29 tp3 (by decide) (by decide) (by decide) (filled_ints3 _ _ _) fun h5 N5 => ?_
 refine WOL.cl1 rfl rfl ((k13 H (l:=[_,_,_]) N5.at_.get (by simp)).mono ?_)
 rintro v h6 ⟨rfl,rfl⟩
 refine WOL.as rfl <| WOL.nil ?_
 exact WL.done rfl ⟨rfl,N1.hx.trans N5.hx⟩
theorem k151 (H:Has tp) {n:Int} (h0:0 ≤ n) (h1:n < 65536):CallW Tryz.prog tp (.func (.func 185) #[] #[]) #[zi n] h fun v h' => v = zi ((n + 1) % 65536) ∧ h' = h:=by
 refine CallW.fnL (H.fn 185 f151 rfl rfl) ?_
 refine WL.sr <| WOL.as rfl <| WOL.nil <| keep [(0,_)] ⟨rfl,trivial⟩ ?_
 refine WL.sr <| WOL.mv rfl <| WOL.add (m:=n) (n:=1) rfl rfl (by omega) (by omega) ?_
 refine WOL.rem (m:=n + 1) (n:=65536) rfl rfl (by omega) (by decide) ?_
 refine WOL.as rfl <| WOL.nil ?_
 exact WL.done rfl ⟨rfl,rfl⟩
theorem k1012 (H:Has tp) (s:SlL encP 5 h v l):CallW Tryz.prog tp (.func (.func 55) #[] #[]) #[v] h fun w h' => w = .bool (cond (decide ((l.length:Int) ≤ 20)) true ((l.length:Int) == 1025)) ∧ h' = h:=by
 refine CallW.fnL (H.fn 55 f1012 rfl rfl) ?_
 refine WL.sr <| WOL.as rfl <| WOL.nil <| keep [(0,_)] ⟨rfl,trivial⟩ ?_
 refine WL.sr <| WOL.mv rfl <| WOL.len rfl s u1004 <| WOL.bi (v:=.bool (decide ((l.length:Int) ≤ 20))) rfl rfl rfl <| WOL.mv rfl ?_
 cases hb:decide ((l.length:Int) ≤ 20) with
 | true =>
  refine WOL.skp (b:=true) rfl rfl <| WOL.skp (b:=true) rfl rfl <| WOL.skp (b:=true) rfl rfl <| WOL.pkt rfl rfl <| WOL.as rfl <| WOL.nil ?_
  exact WL.done rfl ⟨rfl,rfl⟩
 | false =>
  refine WOL.now (b:=false) rfl rfl <| WOL.mv rfl <| WOL.now (b:=false) rfl rfl <| WOL.len rfl s u1004 <| WOL.now (b:=false) rfl rfl <| WOL.bi (v:=.bool ((l.length:Int) == 1025)) rfl rfl rfl <| WOL.pkf rfl rfl <| WOL.as rfl <| WOL.nil ?_
  exact WL.done rfl ⟨rfl,rfl⟩
def chkE (n:Nat) (E:List Int):Int:=cond (decide ((n:Int) > 1024)) 5 (firstNZ E)
theorem k1015 (H:Has tp) (s:SlL encP 5 h v l) (hE:PErr l E) (hl:l.length ≤ 1000000):CallW Tryz.prog tp (.func (.func 61) #[] #[]) #[v] h fun w h' => w = zi (chkE l.length E) ∧ HX h h':=by
 refine CallW.fnL (H.fn 61 f1015 rfl rfl) ?_
 refine WL.sr <| WOL.as rfl <| WOL.nil <| keep [(0,_)] ⟨rfl,trivial⟩ ?_
 refine WL.seq <| WL.sr <| WOL.mv rfl <| WOL.len rfl s u1004 <| WOL.bi (v:=.bool (decide ((l.length:Int) > 1024))) rfl rfl rfl <| WOL.nil <| keep [(0,_),(7,_)] ⟨rfl,rfl,trivial⟩ ?_
 unfold chkE
 cases hb:decide ((l.length:Int) > 1024) with
 | true =>
  refine WL.yes rfl <| WL.sr <| WOL.as rfl <| WOL.nil ?_
  exact WL.ret (WL.end_ rfl ⟨rfl,HX.refl _⟩)
 | false =>
 refine WL.no rfl <| WL.skip ?_
 refine WL.seq <| WL.sr <| WOL.as rfl <| WOL.nil <| keep [(0,_),(3,_)] ⟨rfl,rfl,trivial⟩ ?_
 refine WL.block ?_
 refine WL.loop (fun q a g => ∃ j:Nat,j ≤ l.length ∧ q = l.length - j ∧ HX h g ∧ (∀ x,x ∈ E.take j → x = 0) ∧ Kn [(0,v),(3,zi (j:Nat))] a) l.length (fun a q => ⟨0,by omega,by omega,HX.refl _,fun x hx => (by cases hx),q.sub ⟨rfl,rfl,trivial⟩⟩) ?_
 rintro q a g ⟨j,hj,rfl,X1,hz,q⟩
 refine q.go ?_
 refine WL.seq <| WL.sr <| WOL.mv rfl <| WOL.mv rfl <| WOL.len rfl (s.hx X1) u1004 <| WOL.bi (v:=.bool (decide ((j:Int) < (l.length:Int)))) rfl rfl rfl <| WOL.nil <| keep [(0,_),(3,_),(11,_)] ⟨rfl,rfl,rfl,trivial⟩ ?_
 by_cases hlt:j < l.length
 ·rw [show decide ((j:Int) < (l.length:Int)) = true from decide_eq_true (by omega)]
  refine WL.yes rfl <| WL.skip ?_
  have hp:l[j]? = some l[j]:=List.getElem?_eq_getElem hlt
  have hlE:j < E.length:=hE.1 ▸ hlt
  have hpE:E[j]? = some E[j]:=List.getElem?_eq_getElem hlE
  obtain ⟨b,o,cc,fix,wr,el,g1,g2,g3,g4,g5⟩:=(s.hx X1).at eP u1004 tp1003 hp .i64
  refine WL.seq <| WL.block ?_
  refine WL.sr <| WOL.mv rfl <| WOL.mv rfl <| WOL.ix rfl rfl g1 <| WOL.ld rfl (load_row tp1003 g2 g4 g3) ?_
  refine WOL.cl1 rfl rfl ((k1014 H (p:=l[j]) (hE.2 j _ _ hp hpE)).mono ?_)
  rintro w g6 ⟨rfl,X2⟩
  have X3:=X1.trans X2
  refine WOL.as rfl <| WOL.nil <| keep [(0,_),(3,_),(4,_)] ⟨rfl,rfl,rfl,trivial⟩ ?_
  refine WL.sr <| WOL.mv rfl <| WOL.bi rfl rfl nzero <| WOL.nil <| keep [(0,_),(3,_),(4,_),(20,_)] ⟨rfl,rfl,rfl,rfl,trivial⟩ ?_
  rcases nz_cases E[j] with h0 | h0
  ·rw [h0]
   refine WL.no rfl <| WL.skip ?_
   refine WL.reg <| WOL.mv rfl ?_
   refine WOL.bi (v:=zi ((j + 1:Nat):Int)) rfl rfl (by show some (Value.int .i64 (fwrap .i64 ((j:Int) + 1))) = _; rw [fwrap_i64 (by omega) (by omega)]; rfl) ?_
   refine WOL.as rfl <| WOL.nil ?_
   exact fun a q => ⟨l.length - (j + 1),by omega,j + 1,by omega,rfl,X3,take_more hpE hz h0,q.sub ⟨rfl,rfl,trivial⟩⟩
  ·rw [h0]
   refine WL.yes rfl <| WL.sr <| WOL.mv rfl <| WOL.as rfl <| WOL.nil ?_
   exact WL.ret (WL.end_ rfl ⟨by rw [firstNZ_at hpE hz (by simpa using h0)]; rfl,X3⟩)
 ·rw [show decide ((j:Int) < (l.length:Int)) = false from decide_eq_false (by omega)]
  obtain rfl:j = l.length:=by omega
  refine WL.no rfl <| WL.exit ?_
  refine WL.sr <| WOL.as rfl <| WOL.nil ?_
  rw [hE.1,List.take_length] at hz
  exact WL.done rfl ⟨by rw [firstNZ_all hz]; rfl,X1⟩
end
end Go.Tidy
namespace Go.Tidy
open Go Go.Proofs Tab
variable {tp:TProg}
theorem cat_I:∀ l:List Int,cat encI l = l.map (.int .i64)
 | [] => rfl
 | x :: l => by
  show encI x ++ cat encI l = _
  rw [cat_I l]; rfl
theorem ms_I (m:Nat):(List.replicate m [Value.int .i64 0]).flatten = cat encI (List.replicate m 0):=by
 rw [cat_I,List.map_replicate]
 induction m with
 | zero => rfl
 | succ m ih => rw [List.replicate_succ,List.flatten_cons,ih,List.replicate_succ]; rfl
theorem ixS {P:Program} {t e:TypeId} {z:List Value} {row:Bool} {b off n c j:Nat} (hu:P.underlying t = some (.slice e)) (he:Tp P e 1 z row) (hj:j < n):indexAddrT P t (.slice (some ⟨b,off,none⟩) n c) (zi (j:Nat)) = some (.pointer (some ⟨b,off + j,none⟩)):=by
 obtain ⟨inf,q1,q2,_⟩:=he.i
 have h0:(0:Int) ≤ (j:Int):=by omega
 have h1:(j:Int) < (n:Int):=by omega
 simp [indexAddrT,hu,h0,h1,q1,q2,hj]
section
variable {h:TH} {v:Value} {l:List Pkt} {E:List Int}
theorem k1013 (H:Has tp) (s:SlL encP 5 h v l) (hl:l.length ≤ 1000000) (f:Free0 h.next h):CallW Tryz.prog tp (.func (.func 59) #[] #[]) #[v] h fun w h' => HX h h' ∧ OwnL encP h.next h' w 92 l:=by
 refine CallW.fnL (H.fn 59 f1013 rfl rfl) ?_
 refine WL.sr <| WOL.as rfl <| WOL.nil <| keep [(0,_)] ⟨rfl,trivial⟩ ?_
 refine WL.sr <| WOL.as rfl <| WOL.nil <| keep [(0,_),(3,_)] ⟨rfl,rfl,trivial⟩ ?_
 refine WL.seq <| WL.sr <| WOL.mv rfl <| WOL.len rfl s u1004 <| WOL.mv rfl <| WOL.nil <| keep [(3,_),(6,_),(7,_),(8,_)] ⟨rfl,rfl,rfl,rfl,trivial⟩ ?_
 refine WL.block ?_
 refine WL.loop (fun q a g => ∃ (j:Nat) (w:Value),j ≤ l.length ∧ q = l.length - j ∧ HX h g ∧ OwnL encP h.next g w 92 (l.take j) ∧ h.next ≤ g.next ∧ Kn [(3,w),(6,v),(7,zi (l.length:Nat)),(8,zi (j:Nat))] a) l.length (fun a q => ⟨0,_,by omega,by omega,HX.refl _,OwnL.nil,Nat.le_refl _,q.sub ⟨rfl,rfl,rfl,rfl,trivial⟩⟩) ?_
 rintro q a g ⟨j,w,hj,rfl,X1,O1,n1,q⟩
 refine q.go ?_
 refine WL.sr <| WOL.bi (v:=.bool (decide ((j:Int) < (l.length:Int)))) rfl rfl rfl <| WOL.nil <| keep [(3,_),(6,_),(7,_),(8,_),(9,_)] ⟨rfl,rfl,rfl,rfl,rfl,trivial⟩ ?_
 refine WL.seq ?_
 by_cases hlt:j < l.length
 ·rw [show decide ((j:Int) < (l.length:Int)) = true from decide_eq_true (by omega)]
  refine WL.yes rfl <| WL.skip ?_
  have hp:l[j]? = some l[j]:=List.getElem?_eq_getElem hlt
  obtain ⟨b,o,cc,fix,wr,el,g1,g2,g3,g4,g5⟩:=(s.hx X1).at eP u1004 tp1003 hp .i64
  refine WL.seq <| WL.block ?_
  refine WL.sr <| WOL.ix rfl rfl g1 <| WOL.ld rfl (load_row tp1003 g2 g4 g3) ?_
  refine WOL.al tp1003 fun h2 N2 => ?_
  have X2:=X1.trans N2.hx
  have n2:=N2.next
  refine WOL.sto (vs:=encP l[j]) rfl rfl tp1003 N2.at_ rfl rfl (Nat.le_of_ble_eq_true rfl) rfl (f.hx X2) (by omega) fun h3 P3 => ?_
  have X3:=P3.hx _ X2 (by omega)
  have n3:=P3.next
  have A3:At h3 g.next (.cells (encP l[j]) true true 84):=P3.at_
  refine WOL.nil <| keep [(3,_),(5,_),(6,_),(7,_),(8,_)] ⟨rfl,rfl,rfl,rfl,rfl,trivial⟩ ?_
  refine WL.reg <| WOL.mv rfl <| WOL.ld rfl (load_row tp1003 A3 rfl (Nat.le_of_ble_eq_true rfl)) ?_
  refine WOL.bsl rfl u113 tp111 (by decide) (by decide) (by decide) (cs:=encP l[j]) rfl fun h4 N4 => ?_
  have X4:=X3.trans N4.hx
  have n4:=N4.next
  have O4:OwnL encP h.next h4 w 92 (l.take j):=(O1.keep fun c y hc hA => P3.oth c y (by have:=hA.lt; omega) (hA.hx N2.hx)).hx N4.hx
  obtain ⟨w5,h5,ap,O5,x5,_,_,n5⟩:=own_push (sT:=96) (x:=l[j]) eP u113 tp111 O4 (SlC.own (sz:=5) (m:=1) rfl N4.at_) (f.hx X4) (by rw [List.length_take]; omega) (by omega)
  refine WOL.ap rfl rfl ap <| WOL.as rfl <| WOL.nil <| keep [(3,_),(6,_),(7,_),(8,_)] ⟨rfl,rfl,rfl,rfl,trivial⟩ ?_
  refine WL.reg ?_
  refine WOL.bi (v:=zi ((j + 1:Nat):Int)) rfl rfl (by show some (Value.int .i64 (fwrap .i64 ((j:Int) + 1))) = _; rw [fwrap_i64 (by omega) (by omega)]; rfl) ?_
  refine WOL.mv rfl <| WOL.nil ?_
  exact fun a q => ⟨l.length - (j + 1),by omega,j + 1,w5,by omega,rfl,x5 _ X4 (Nat.le_refl _),by rw [List.take_succ_eq_append_getElem hlt]; exact O5,by omega,q.sub ⟨rfl,rfl,rfl,rfl,trivial⟩⟩
 ·rw [show decide ((j:Int) < (l.length:Int)) = false from decide_eq_false (by omega)]
  obtain rfl:j = l.length:=by omega
  refine WL.no rfl <| WL.exit ?_
  refine WL.sr <| WOL.mv rfl <| WOL.as rfl <| WOL.nil ?_
  rw [List.take_length] at O1
  exact WL.done rfl ⟨X1,O1⟩
theorem k118 (H:Has tp) (X:HasX tp) (s:SlL encP 5 h v l) (hE:PErr l E) (hl:l.length ≤ 1000000) (f:Free0 h.next h):CallW Tryz.prog tp (.func (.func 132) #[] #[]) #[v,.func (.func 127) #[] #[]] h fun w h' => HX h h' ∧ ∃ b,w = .slice (some ⟨b,0,none⟩) E.length E.length ∧ At h' b (.cells (E.map (.int .i64)) true true 30) ∧ h.next ≤ b:=by
 refine CallW.fnL (H.fn 132 f118 rfl rfl) ?_
 refine WL.sr <| WOL.as rfl <| WOL.nil <| keep [(0,_),(1,_)] ⟨rfl,rfl,trivial⟩ ?_
 refine WL.sr <| WOL.mv rfl <| WOL.len rfl s u113 ?_
 refine WOL.ms rfl rfl u166 tp30 (by decide) (by omega) fun h1 N1 => WOL.as rfl <| WOL.nil <| keep [(0,_),(1,_),(5,_)] ⟨rfl,rfl,rfl,trivial⟩ ?_
 have n1:=N1.next
 have A1:=N1.at_
 rw [ms_I,hE.1] at A1
 refine WL.seq <| WL.sr <| WOL.mv rfl <| WOL.len rfl (s.hx N1.hx) u113 <| WOL.mv rfl <| WOL.nil <| keep [(1,_),(5,_),(11,_),(12,_),(13,_)] ⟨rfl,rfl,rfl,rfl,rfl,trivial⟩ ?_
 refine WL.block ?_
 refine WL.loop (fun q a g => ∃ j:Nat,j ≤ l.length ∧ q = l.length - j ∧ HX h g ∧ At g h.next (.cells (cat encI (E.take j ++ List.replicate (E.length - j) 0)) true true 30) ∧ h.next < g.next ∧ Kn [(1,.func (.func 127) #[] #[]),(5,.slice (some ⟨h.next,0,none⟩) l.length l.length),(11,v),(12,zi (l.length:Nat)),(13,zi (j:Nat))] a) l.length (fun a q => ⟨0,by omega,by omega,N1.hx,A1,by omega,q.sub ⟨rfl,rfl,rfl,rfl,rfl,trivial⟩⟩) ?_
 rintro q a g ⟨j,hj,rfl,X1,B1,m1,q⟩
 refine q.go ?_
 refine WL.sr <| WOL.bi (v:=.bool (decide ((j:Int) < (l.length:Int)))) rfl rfl rfl <| WOL.nil <| keep [(1,_),(5,_),(11,_),(12,_),(13,_),(14,_)] ⟨rfl,rfl,rfl,rfl,rfl,rfl,trivial⟩ ?_
 refine WL.seq ?_
 by_cases hlt:j < l.length
 ·rw [show decide ((j:Int) < (l.length:Int)) = true from decide_eq_true (by omega)]
  refine WL.yes rfl <| WL.skip ?_
  have hp:l[j]? = some l[j]:=List.getElem?_eq_getElem hlt
  have hlE:j < E.length:=hE.1 ▸ hlt
  have hpE:E[j]? = some E[j]:=List.getElem?_eq_getElem hlE
  obtain ⟨b,o,cc,fix,wr,el,g1,g2,g3,g4,g5⟩:=(s.hx X1).at eP u113 tp111 hp .i64
  refine WL.seq <| WL.block ?_
  refine WL.sr <| WOL.mv rfl <| WOL.ix rfl rfl g1 <| WOL.ld rfl (load_row tp111 g2 g4 g3) ?_
  refine WOL.al tp111 fun h2 N2 => WOL.as rfl ?_
  have X2:=X1.trans N2.hx
  have n2:=N2.next
  refine WOL.sto (vs:=encP l[j]) rfl rfl tp111 N2.at_ rfl rfl (Nat.le_of_ble_eq_true rfl) rfl (f.hx X2) (by omega) fun h3 P3 => ?_
  have X3:=P3.hx _ X2 (by omega)
  have n3:=P3.next
  have A3:At h3 g.next (.cells (encP l[j]) true true 92):=P3.at_
  have B3:=P3.oth _ _ (by omega) (B1.hx N2.hx)
  refine WOL.nil <| keep [(1,_),(5,_),(6,_),(7,_),(11,_),(12,_),(13,_)] ⟨rfl,rfl,rfl,rfl,rfl,rfl,rfl,trivial⟩ ?_
  refine WL.reg <| WOL.mv rfl <| WOL.mv rfl <| WOL.mv rfl <| WOL.ld rfl (load_row tp111 A3 rfl (Nat.le_of_ble_eq_true rfl)) ?_
  obtain ⟨es,hes,he⟩:=hE.2 j _ _ hp hpE
  refine WOL.cl1 rfl rfl ((k116 H X hes).mono ?_)
  rintro w h4 ⟨rfl,X4⟩
  rw [← he]
  have X5:=X3.trans X4
  have n4:=X4.next
  refine WOL.ix rfl rfl (ixS u166 tp30 hlt) ?_
  have lE:(E.take j ++ List.replicate (E.length - j) 0).length = E.length:=by rw [List.length_append,List.length_take,List.length_replicate]; omega
  refine WOL.sto (vs:=encI E[j]) rfl rfl tp30 (B3.hx X4) rfl rfl (by rw [eI.cat_len,lE]; omega) rfl (f.hx X5) (Nat.le_refl _) fun h5 P5 => ?_
  have B5:=P5.at_
  have X6:=P5.hx _ X5 (Nat.le_refl _)
  have n5:=P5.next
  have hs:=eI.set (l:=E.take j ++ List.replicate (E.length - j) 0) (i:=j) (by omega) E[j]
  rw [Nat.mul_one] at hs
  rw [Nat.zero_add,hs,fill_set E 0 j hlE] at B5
  refine WOL.nil <| keep [(1,_),(5,_),(11,_),(12,_),(13,_)] ⟨rfl,rfl,rfl,rfl,rfl,trivial⟩ ?_
  refine WL.reg ?_
  refine WOL.bi (v:=zi ((j + 1:Nat):Int)) rfl rfl (by show some (Value.int .i64 (fwrap .i64 ((j:Int) + 1))) = _; rw [fwrap_i64 (by omega) (by omega)]; rfl) ?_
  refine WOL.mv rfl <| WOL.nil ?_
  exact fun a q => ⟨l.length - (j + 1),by omega,j + 1,by omega,rfl,X6,B5,by omega,q.sub ⟨rfl,rfl,rfl,rfl,rfl,trivial⟩⟩
 ·rw [show decide ((j:Int) < (l.length:Int)) = false from decide_eq_false (by omega)]
  obtain rfl:j = l.length:=by omega
  refine WL.no rfl <| WL.exit ?_
  refine WL.sr <| WOL.mv rfl <| WOL.as rfl <| WOL.nil ?_
  rw [hE.1,Nat.sub_self,List.replicate_zero,List.append_nil,List.take_length,cat_I] at B1
  exact WL.done rfl ⟨X1,_,by rw [hE.1]; rfl,B1,Nat.le_refl _⟩
end
end Go.Tidy
namespace Go.Tidy
open Go Go.Proofs Tab
variable {tp:TProg}
def gapN (a c:Nat):Nat:=(c + 65535 - a) % 65536
def seqAt (a j:Nat):Nat:=(a + 1 + j) % 65536
def gap (a c:Nat):List Int:=(List.range (gapN a c)).map fun j => ((seqAt a j:Nat):Int)
def lastZ:Option Nat → Int | none => -1 | some a => a
def more (o:Option Nat) (c:Nat):List Int:=match o with | none => [] | some a => gap a c
def lstep (src:Int) (st:Option Nat × List Int) (p:Pkt):Option Nat × List Int:=cond (p.1 != src) st (some p.2.1.toNat,st.2 ++ more st.1 p.2.1.toNat)
def lostS (src:Int) (l:List Pkt):Option Nat × List Int:=l.foldl (lstep src) (none,[])
theorem lostS_step {src:Int} {l:List Pkt} {j:Nat} (hj:j < l.length):lostS src (l.take (j + 1)) = lstep src (lostS src (l.take j)) l[j]:=by
 unfold lostS
 rw [List.take_succ_eq_append_getElem hj,List.foldl_append]
 rfl
theorem lost_grow {src:Int}:∀ (r:List Pkt) (st:Option Nat × List Int),st.2.length ≤ (r.foldl (lstep src) st).2.length
  | [],_ => Nat.le_refl _
  | p :: r,st => by
    refine Nat.le_trans ?_ (lost_grow r (lstep src st p))
    unfold lstep
    cases p.1 != src
    · show st.2.length ≤ (st.2 ++ _).length
      rw [List.length_append]; omega
    · exact Nat.le_refl _
theorem lost_le {src:Int} {l:List Pkt} (j:Nat):(lostS src (l.take j)).2.length ≤ (lostS src l).2.length:=by
 conv => rhs; rw [← List.take_append_drop j l]
 unfold lostS
 rw [List.foldl_append]
 exact lost_grow _ _
theorem seq_end {a c t:Nat} (ha:a < 65536) (hc:c < 65536) (ht:t ≤ gapN a c):(((seqAt a t:Nat):Int) != (c:Int)) = decide (t < gapN a c):=by
 unfold seqAt gapN at *
 by_cases h:t < (c + 65535 - a) % 65536
 ·rw [decide_eq_true h,bne_iff_ne]
  omega
 ·rw [decide_eq_false h]
  have e:(((a + 1 + t) % 65536:Nat):Int) = (c:Int):=by omega
  rw [e,bne_self_eq_false]
theorem seq_next {a t:Nat}:(((seqAt a t:Nat):Int) + 1) % 65536 = ((seqAt a (t + 1):Nat):Int):=by
 unfold seqAt
 omega
theorem gap_len {a c:Nat}:(gap a c).length = gapN a c:=by simp [gap]
theorem gap_next {a c t:Nat} (h:t < gapN a c):(gap a c).take (t + 1) = (gap a c).take t ++ [((seqAt a t:Nat):Int)]:=by
 rw [List.take_succ_eq_append_getElem (by rw [gap_len]; exact h)]
 simp [gap]
def CntOk (l:List Pkt):Prop:=∀ p,p ∈ l → 0 ≤ p.2.1 ∧ p.2.1 < 65536
section
variable {h:TH} {v:Value} {l:List Pkt} {src:Int}
def LostA (L:List Int) (n0:Nat) (h:TH) (w:Value) (e:Int):Prop:=(L.length ≤ 256 ∧ e = 0 ∧ OwnL encI n0 h w 3 L) ∨ (256 < L.length ∧ e = 5 ∧ w = .slice none 0 0)
set_option maxHeartbeats 4000000 in
theorem k1018 (H:Has tp) (s:SlL encP 5 h v l) (hl:l.length ≤ 1000000) (hk:CntOk l) (f:Free0 h.next h):CallW Tryz.prog tp (.func (.func 64) #[] #[]) #[v,zi src] h fun w h' => HX h h' ∧ ∃ w1 e,w = .tuple #[w1,zi e] ∧ LostA (lostS src l).2 h.next h' w1 e:=by
  refine CallW.fnL (H.fn 64 f1018 rfl rfl) ?_
  refine WL.sr <| WOL.as rfl <| WOL.as rfl <| WOL.nil <| keep [(0,_),(1,_)] ⟨rfl,rfl,trivial⟩ ?_
  refine WL.sr <| WOL.as rfl <| WOL.nil <| keep [(0,_),(1,_),(6,_)] ⟨rfl,rfl,rfl,trivial⟩ ?_
  refine WL.sr <| WOL.as rfl <| WOL.nil <| keep [(0,_),(1,_),(6,_),(7,_)] ⟨rfl,rfl,rfl,rfl,trivial⟩ ?_
  refine WL.seq <| WL.sr <| WOL.as rfl <| WOL.nil <| keep [(0,_),(1,_),(6,_),(7,_),(8,_)] ⟨rfl,rfl,rfl,rfl,rfl,trivial⟩ ?_
  refine WL.block ?_
  refine WL.loop (fun q a g => ∃ (j:Nat) (w:Value),j ≤ l.length ∧ q = l.length - j ∧ HX h g ∧ OwnL encI h.next g w 3 (lostS src (l.take j)).2 ∧ h.next ≤ g.next ∧ (lostS src (l.take j)).2.length ≤ 256 ∧ (∀ a,(lostS src (l.take j)).1 = some a → a < 65536) ∧ Kn [(0,v),(1,zi src),(6,w),(7,zi (lastZ (lostS src (l.take j)).1)),(8,zi (j:Nat))] a) l.length (fun a q => ⟨0,_,by omega,by omega,HX.refl _,OwnL.nil,Nat.le_refl _,Nat.zero_le _,(fun _ h => nomatch h),q.sub ⟨rfl,rfl,rfl,rfl,rfl,trivial⟩⟩) ?_
  rintro q a g ⟨j,w,hj,rfl,X1,O1,n1,l1,a1,q⟩
  refine q.go ?_
  refine WL.seq <| WL.sr <| WOL.mv rfl <| WOL.mv rfl <| WOL.len rfl (s.hx X1) u1004 <| WOL.bi (v:=.bool (decide ((j:Int) < (l.length:Int)))) rfl rfl rfl <| WOL.nil <| keep [(0,_),(1,_),(6,_),(7,_),(8,_),(13,_)] ⟨rfl,rfl,rfl,rfl,rfl,rfl,trivial⟩ ?_
  by_cases hlt:j < l.length
  · rw [show decide ((j:Int) < (l.length:Int)) = true from decide_eq_true (by omega)]
    refine WL.yes rfl <| WL.skip ?_
    have hp:l[j]? = some l[j]:=List.getElem?_eq_getElem hlt
    have hk1:=hk l[j] (List.getElem_mem hlt)
    have es:=lostS_step (src:=src) hlt
    have gr:=lost_le (src:=src) (l:=l) (j + 1)
    obtain ⟨o,acc,hS⟩:∃ o acc,lostS src (l.take j) = (o,acc):=⟨_,_,rfl⟩
    rw [hS] at es O1 l1 a1 ⊢
    generalize l[j] = p at hp hk1 es
    obtain ⟨c,hc⟩:∃ c:Nat,p.2.1 = (c:Int):=⟨p.2.1.toNat,by omega⟩
    refine WL.seq <| WL.block ?_
    obtain ⟨b,o',cc,fix,wr,el,g1,g2,g3,g4,g5⟩:=(s.hx X1).at eP u1004 tp1003 hp .i64
    refine WL.seq <| WL.sr <| WOL.mv rfl <| WOL.mv rfl <| WOL.ix rfl rfl g1 <| WOL.fa rfl (fa_of fo1003_0) <| WOL.ld rfl (load_one tp3 g2 (g5 0 (by decide))) <| WOL.mv rfl <| WOL.bi (v:=.bool (p.1 != src)) rfl rfl rfl <| WOL.nil <| keep [(0,_),(1,_),(6,_),(7,_),(8,_),(22,_)] ⟨rfl,rfl,rfl,rfl,rfl,rfl,trivial⟩ ?_
    cases hs:p.1 != src with
    | true =>
      have e1:lostS src (l.take (j + 1)) = (o,acc):=by rw [es]; unfold lstep; rw [hs]; rfl
      refine WL.yes rfl <| WL.exit ?_
      refine WL.reg <| WOL.mv rfl ?_
      refine WOL.bi (v:=zi ((j + 1:Nat):Int)) rfl rfl (by show some (Value.int .i64 (fwrap .i64 ((j:Int) + 1))) = _; rw [fwrap_i64 (by omega) (by omega)]; rfl) ?_
      refine WOL.as rfl <| WOL.nil ?_
      exact fun a q => ⟨l.length - (j + 1),by omega,j + 1,w,by omega,rfl,X1,by rw [e1]; exact O1,n1,by rw [e1]; exact l1,by rw [e1]; exact a1,by rw [e1]; exact q.sub ⟨rfl,rfl,rfl,rfl,rfl,trivial⟩⟩
    | false =>
      have e1:lostS src (l.take (j + 1)) = (some c,acc ++ more o c):=by rw [es]; unfold lstep; rw [hs,hc]; rfl
      refine WL.no rfl <| WL.skip ?_
      refine WL.seq <| WL.sr <| WOL.mv rfl <| WOL.bi (v:=.bool (decide (lastZ o ≥ 0))) rfl rfl rfl <| WOL.nil <| keep [(0,_),(1,_),(6,_),(7,_),(8,_),(24,_)] ⟨rfl,rfl,rfl,rfl,rfl,rfl,trivial⟩ ?_
      cases o with
      | none =>
        refine WL.no rfl <| WL.skip ?_
        refine WL.reg <| WOL.mv rfl <| WOL.mv rfl <| WOL.ix rfl rfl g1 <| WOL.fa rfl (fa_of fo1003_1) <| WOL.ld rfl (load_one tp3 g2 (g5 1 (by decide))) <| WOL.as rfl <| WOL.nil <| keep [(0,_),(1,_),(6,_),(7,_),(8,_)] ⟨rfl,rfl,rfl,rfl,rfl,trivial⟩ ?_
        refine WL.reg <| WOL.mv rfl ?_
        refine WOL.bi (v:=zi ((j + 1:Nat):Int)) rfl rfl (by show some (Value.int .i64 (fwrap .i64 ((j:Int) + 1))) = _; rw [fwrap_i64 (by omega) (by omega)]; rfl) ?_
        refine WOL.as rfl <| WOL.nil ?_
        rw [show acc ++ more none c = acc from List.append_nil _] at e1
        refine fun a q => ⟨l.length - (j + 1),by omega,j + 1,w,by omega,rfl,X1,by rw [e1]; exact O1,n1,by rw [e1]; exact l1,by rw [e1]; rintro a ⟨⟩; omega,?_⟩
        rw [e1]
        show Kn [(0,v),(1,zi src),(6,w),(7,zi (c:Nat)),(8,zi ((j + 1:Nat):Int))] a
        rw [← hc]
        exact q.sub ⟨rfl,rfl,rfl,rfl,rfl,trivial⟩
      | some a0 =>
        have ha:=a1 a0 rfl
        rw [show decide (lastZ (some a0) ≥ 0) = true from decide_eq_true (by show (a0:Int) ≥ 0; omega)]
        refine WL.yes rfl ?_
        refine WL.sr <| WOL.mv rfl <| WOL.add (m:=a0) (n:=1) rfl rfl (by omega) (by omega) ?_
        refine WOL.rem (m:=(a0:Int) + 1) (n:=65536) rfl rfl (by omega) (by decide) ?_
        refine WOL.as rfl <| WOL.nil <| keep [(0,_),(1,_),(6,_),(7,_),(8,_),(9,_)] ⟨rfl,rfl,rfl,rfl,rfl,rfl,trivial⟩ ?_
        rw [show ((a0:Int) + 1) % 65536 = ((seqAt a0 0:Nat):Int) by unfold seqAt; omega]
        refine WL.block ?_
        refine WL.loop (fun q a g => ∃ (t:Nat) (w:Value),t ≤ gapN a0 c ∧ q = gapN a0 c - t ∧ HX h g ∧ OwnL encI h.next g w 3 (acc ++ (gap a0 c).take t) ∧ h.next ≤ g.next ∧ (acc ++ (gap a0 c).take t).length ≤ 256 ∧ Kn [(0,v),(1,zi src),(6,w),(8,zi (j:Nat)),(9,zi (seqAt a0 t:Nat))] a) (gapN a0 c) (fun a q => ⟨0,w,by omega,by omega,X1,by rw [List.take_zero,List.append_nil]; exact O1,n1,by rw [List.take_zero,List.append_nil]; exact l1,q.sub ⟨rfl,rfl,rfl,rfl,rfl,trivial⟩⟩) ?_
        rintro q a g2 ⟨t,w2,ht,rfl,X2,O2,n2,l2,q⟩
        refine q.go ?_
        obtain ⟨b,o',cc,fix,wr,el,g1,g2,g3,g4,g5⟩:=(s.hx X2).at eP u1004 tp1003 hp .i64
        have g6:=load_one tp3 g2 (v:=zi (c:Nat)) (by rw [g5 1 (by decide),← hc]; rfl)
        refine WL.seq <| WL.sr <| WOL.mv rfl <| WOL.mv rfl <| WOL.mv rfl <| WOL.ix rfl rfl g1 <| WOL.fa rfl (fa_of fo1003_1) <| WOL.ld rfl g6 <| WOL.bi (v:=.bool (((seqAt a0 t:Nat):Int) != (c:Int))) rfl rfl rfl <| WOL.nil <| keep [(0,_),(1,_),(6,_),(8,_),(9,_),(34,_)] ⟨rfl,rfl,rfl,rfl,rfl,rfl,trivial⟩ ?_
        rw [seq_end ha (by omega) ht]
        by_cases htl:t < gapN a0 c
        · rw [decide_eq_true htl]
          refine WL.yes rfl <| WL.skip ?_
          refine WL.seq <| WL.block ?_
          refine WL.sr <| WOL.mv rfl <| WOL.mv rfl <| WOL.bs1 rfl u29 tp3 rfl fun h3 N3 => ?_
          have X3:=X2.trans N3.hx
          have n3:=N3.next
          obtain ⟨w4,h4,ap,O4,x4,_,_,n4⟩:=own_push (sT:=29) (x:=((seqAt a0 t:Nat):Int)) eI u29 tp3 (O2.hx N3.hx) (SlC.own (sz:=1) (m:=1) rfl N3.at_) (f.hx X3) (by omega) (by omega)
          have X4:=x4 _ X3 (Nat.le_refl _)
          rw [List.append_assoc,← gap_next htl] at O4
          have l4:(acc ++ (gap a0 c).take (t + 1)).length = (acc ++ (gap a0 c).take t).length + 1:=by rw [gap_next htl,← List.append_assoc,List.length_append]; rfl
          refine WOL.ap rfl rfl ap <| WOL.as rfl <| WOL.nil <| keep [(0,_),(1,_),(6,_),(8,_),(9,_)] ⟨rfl,rfl,rfl,rfl,rfl,trivial⟩ ?_
          refine WL.sr <| WOL.mv rfl <| WOL.len rfl (O4.sl eI) u29 <| WOL.bi (v:=.bool (decide (((acc ++ (gap a0 c).take (t + 1)).length:Int) > 256))) rfl rfl rfl <| WOL.nil <| keep [(0,_),(1,_),(6,_),(8,_),(9,_),(44,_)] ⟨rfl,rfl,rfl,rfl,rfl,rfl,trivial⟩ ?_
          by_cases hf:(((acc ++ (gap a0 c).take (t + 1)).length:Nat):Int) > 256
          · rw [decide_eq_true hf]
            refine WL.yes rfl <| WL.sr <| WOL.as rfl <| WOL.as rfl <| WOL.nil ?_
            refine WL.ret (WL.end_ rfl ⟨X4,_,_,rfl,.inr ⟨?_,rfl,rfl⟩⟩)
            rw [e1] at gr
            replace gr:(acc ++ more (some a0) c).length ≤ (lostS src l).2.length:=gr
            have:(acc ++ (gap a0 c).take (t + 1)).length ≤ (acc ++ more (some a0) c).length:=by
              show _ ≤ (acc ++ gap a0 c).length
              rw [List.length_append,List.length_append,List.length_take]; omega
            omega
          · rw [decide_eq_false hf]
            refine WL.no rfl <| WL.skip ?_
            refine WL.reg <| WOL.mv rfl <| WOL.add (m:=(seqAt a0 t:Nat)) (n:=1) rfl rfl (by omega) (by unfold seqAt; omega) ?_
            refine WOL.rem (m:=((seqAt a0 t:Nat):Int) + 1) (n:=65536) rfl rfl (by omega) (by decide) ?_
            refine WOL.as rfl <| WOL.nil ?_
            rw [seq_next]
            exact fun a q => ⟨gapN a0 c - (t + 1),by omega,t + 1,w4,by omega,rfl,X4,O4,by omega,by omega,q.sub ⟨rfl,rfl,rfl,rfl,rfl,trivial⟩⟩
        · rw [decide_eq_false htl]
          obtain rfl:t = gapN a0 c:=by omega
          rw [List.take_of_length_le (by rw [gap_len]; exact Nat.le_refl _)] at O2 l2
          refine WL.no rfl <| WL.exit ?_
          refine WL.reg <| WOL.mv rfl <| WOL.mv rfl <| WOL.ix rfl rfl g1 <| WOL.fa rfl (fa_of fo1003_1) <| WOL.ld rfl g6 <| WOL.as rfl <| WOL.nil <| keep [(0,_),(1,_),(6,_),(7,_),(8,_)] ⟨rfl,rfl,rfl,rfl,rfl,trivial⟩ ?_
          refine WL.reg <| WOL.mv rfl ?_
          refine WOL.bi (v:=zi ((j + 1:Nat):Int)) rfl rfl (by show some (Value.int .i64 (fwrap .i64 ((j:Int) + 1))) = _; rw [fwrap_i64 (by omega) (by omega)]; rfl) ?_
          refine WOL.as rfl <| WOL.nil ?_
          refine fun a q => ⟨l.length - (j + 1),by omega,j + 1,w2,by omega,rfl,X2,by rw [e1]; exact O2,n2,by rw [e1]; exact l2,by rw [e1]; rintro a ⟨⟩; omega,?_⟩
          rw [e1]
          exact q.sub ⟨rfl,rfl,rfl,rfl,rfl,trivial⟩
  · rw [show decide ((j:Int) < (l.length:Int)) = false from decide_eq_false (by omega)]
    obtain rfl:j = l.length:=by omega
    refine WL.no rfl <| WL.exit ?_
    refine WL.sr <| WOL.mv rfl <| WOL.as rfl <| WOL.as rfl <| WOL.nil ?_
    rw [List.take_length] at O1 l1
    exact WL.ret (WL.end_ rfl ⟨X1,_,_,rfl,.inl ⟨l1,rfl,O1⟩⟩)
end
end Go.Tidy
namespace Go.Tidy
open Go Go.Proofs Tab
variable {tp:TProg}
theorem pv_none111:pv Tryz.prog (Op.equal 92 (pak (-1) 0 0 0 0) (pak (-1) 0 0 0 0)) = some true:=by kernel_rfl
theorem pv_some111 {n:Nat} {c:Int} {x y z:Nat}:pv Tryz.prog (Op.equal 92 (pak (n:Nat) c x y z) (pak (-1) 0 0 0 0)) = some false:=by kernel_rfl
def NoNan (p:Pkt):Prop:=nanB .f32 p.2.2.1 = false ∧ nanB .f32 p.2.2.2.1 = false ∧ nanB .f32 p.2.2.2.2 = false
theorem pakP_plain {p:Pkt} (h:NoNan p):plain (pakP p) = true:=by
 obtain ⟨h1,h2,h3⟩:=h
 simp [pakP,pak,plain,plain1,plain0,h1,h2,h3]
def noP:Pkt:=(-1,0,0,0,0)
theorem noP_plain:plain (pakP noP) = true:=by decide
theorem WOL.eq111 {h:TH} {K:Regs → TH → Prop} {rest:List TOper} {d:Option Tmp} {ty:TypeId} {i:Nat} {x y:Operand} {u:TypeId} {L:Rg} {p q:Pkt} {b:Bool} (hp:plain (pakP p) = true) (hp2:plain (pakP q) = true) (hb:pv Tryz.prog (Op.equal 92 (pakP p) (pakP q)) = some b) (hx:getL L x = some (pakP p)) (hy:getL L y = some (pakP q))
    (w:∀ r,Kn (putL L d (.bool b)) r → WO Tryz.prog tp rest r h K):∀ r,Kn L r → WO Tryz.prog tp (⟨d,.binOp .eql 92 x y u,ty,none,[],i⟩ :: rest) r h K:=by
  intro r k
  have ex:=getO_eval (k.o hx)
  have ey:=getO_eval (k.o hy)
  have eg:eqT Tryz.prog 92 (pakP p) (pakP q) = none:=eqT_agg
  refine WO.plainly rfl rfl rfl (by simp [fastOp,fastBin,ex,ey,pakP,pak]) (by simp [valueOp,ex,ey,eg]) (plainOp_of (by rfl) (fun q hq => ?_) ?_ rfl) (w _ (k.put d _))
  · simp only [Op.operands] at hq
    simp at hq
    rcases hq with rfl | rfl
    · rw [ex]; exact hp
    · rw [ey]; exact hp2
  · show pv Tryz.prog (execOp r.eval ⟨d, .binOp .eql 92 x y u, ty, "", #[], none⟩) = _
    have hg:Tryz.prog.eqGuardType Tryz.prog.depth 92 = false:=by kernel_rfl
    unfold pakP pak at hb ex ey
    simp [execOp,pv_bind,pv_map,pv_pure,pv_program,ex,ey,eqGuard,binOp,hb,hg]
theorem bd111n:buildT Tryz.prog 92 [(0,.int .i64 (-1))] = some (pakP noP):=by kernel_rfl
def PkOk (p:Pkt):Prop:=0 ≤ p.1 ∧ 0 ≤ p.2.1 ∧ p.2.1 < 65536 ∧ NoNan p
def PrevIs (o:Option Nat) (p:Pkt):Prop:=match o with | none => p = noP | some a => PkOk p ∧ p.2.1 = (a:Int)
theorem eq_prev {o:Option Nat} {p:Pkt} (h:PrevIs o p):plain (pakP p) = true ∧ pv Tryz.prog (Op.equal 92 (pakP p) (pakP noP)) = some o.isNone:=by
 cases o with
 | none => obtain rfl:p = noP:=h; exact ⟨noP_plain,pv_none111⟩
 | some a =>
  obtain ⟨⟨h1,_,_,h4⟩,_⟩:=h
  refine ⟨pakP_plain h4,?_⟩
  obtain ⟨s,c,x,y,z⟩:=p
  obtain ⟨n,rfl⟩:∃ n:Nat,s = (n:Int):=⟨s.toNat,by simp at h1; omega⟩
  exact pv_some111
section
variable {h:TH} {v:Value} {l:List Pkt} {src:Int}
def LostB (L:List Int) (n0:Nat) (h:TH) (w:Value) (b:Bool):Prop:=(L.length ≤ 256 ∧ b = true ∧ OwnL encI n0 h w 3 L) ∨ (256 < L.length ∧ b = false)
set_option maxHeartbeats 4000000 in
theorem k119 (H:Has tp) (s:SlL encP 5 h v l) (hl:l.length ≤ 1000000) (hk:∀ p,p ∈ l → PkOk p) (f:Free0 h.next h):CallW Tryz.prog tp (.func (.func 133) #[] #[]) #[v,zi src] h fun w h' => HX h h' ∧ ∃ w1 b,w = .tuple #[w1,.bool b] ∧ LostB (lostS src l).2 h.next h' w1 b:=by
  refine CallW.fnL (H.fn 133 f119 rfl rfl) ?_
  refine WL.sr <| WOL.as rfl <| WOL.as rfl <| WOL.nil <| keep [(0,_),(1,_)] ⟨rfl,rfl,trivial⟩ ?_
  refine WL.sr <| WOL.as rfl <| WOL.nil <| keep [(0,_),(1,_),(6,_)] ⟨rfl,rfl,rfl,trivial⟩ ?_
  refine WL.sr <| WOL.as rfl <| WOL.nil <| keep [(0,_),(1,_),(6,_),(7,_)] ⟨rfl,rfl,rfl,rfl,trivial⟩ ?_
  refine WL.sr <| WOL.bd rfl bd111n <| WOL.al tp111 fun h1 N1 => ?_
  have n1:=N1.next
  refine WOL.sto (vs:=encP noP) rfl rfl tp111 N1.at_ rfl rfl (Nat.le_of_ble_eq_true rfl) rfl (f.hx N1.hx) (Nat.le_refl _) fun h2 P2 => WOL.nil <| keep [(0,_),(1,_),(6,_),(7,_),(8,_)] ⟨rfl,rfl,rfl,rfl,rfl,trivial⟩ ?_
  have X2:=P2.hx _ N1.hx (Nat.le_refl _)
  have n2:=P2.next
  have A2:At h2 h.next (.cells (encP noP) true true 92):=P2.at_
  refine WL.sr <| WOL.ld rfl (load_row tp111 A2 rfl (Nat.le_of_ble_eq_true rfl)) <| WOL.al tp111 fun h3 N3 => ?_
  have n3:=N3.next
  have X3:=X2.trans N3.hx
  refine WOL.sto (vs:=encP noP) rfl rfl tp111 N3.at_ rfl rfl (Nat.le_of_ble_eq_true rfl) rfl (f.hx X3) (by omega) fun h4 P4 => WOL.nil <| keep [(0,_),(1,_),(6,_),(7,_),(8,_),(9,_)] ⟨rfl,rfl,rfl,rfl,rfl,rfl,trivial⟩ ?_
  have X4:=P4.hx _ X3 (by omega)
  have n4:=P4.next
  have A4:At h4 h2.next (.cells (encP noP) true true 92):=P4.at_
  have B4:=P4.oth h.next _ (by omega) (A2.hx N3.hx)
  refine WL.seq <| WL.skip ?_
  refine WL.seq <| WL.sr <| WOL.mv rfl <| WOL.len rfl (s.hx X4) u113 <| WOL.mv rfl <| WOL.nil <| keep [(1,_),(6,_),(7,_),(8,_),(9,_),(15,_),(16,_),(17,_)] ⟨rfl,rfl,rfl,rfl,rfl,rfl,rfl,rfl,trivial⟩ ?_
  refine WL.block ?_
  refine WL.loop (fun q a g => ∃ (j:Nat) (w:Value) (p0:Pkt),j ≤ l.length ∧ q = l.length - j ∧ HX h g ∧ OwnL encI (h2.next + 1) g w 3 (lostS src (l.take j)).2 ∧ h2.next + 1 ≤ g.next ∧ (lostS src (l.take j)).2.length ≤ 256 ∧ PrevIs (lostS src (l.take j)).1 p0 ∧ At g h.next (.cells (encP noP) true true 92) ∧ At g h2.next (.cells (encP p0) true true 92) ∧ Kn [(1,zi src),(6,w),(7,.bool true),(8,ptr h.next),(9,ptr h2.next),(15,v),(16,zi (l.length:Nat)),(17,zi (j:Nat))] a) l.length (fun a q => ⟨0,_,noP,by omega,by omega,X4,OwnL.nil,by omega,Nat.zero_le _,rfl,B4,A4,q.sub ⟨rfl,rfl,rfl,rfl,rfl,rfl,rfl,rfl,trivial⟩⟩) ?_
  rintro q a g ⟨j,w,p0,hj,rfl,X1,O1,m1,l1,hp0,C8,C9,q⟩
  refine q.go ?_
  refine WL.sr <| WOL.bi (v:=.bool (decide ((j:Int) < (l.length:Int)))) rfl rfl rfl <| WOL.nil <| keep [(1,_),(6,_),(7,_),(8,_),(9,_),(15,_),(16,_),(17,_),(18,_)] ⟨rfl,rfl,rfl,rfl,rfl,rfl,rfl,rfl,rfl,trivial⟩ ?_
  refine WL.seq ?_
  by_cases hlt:j < l.length
  · rw [show decide ((j:Int) < (l.length:Int)) = true from decide_eq_true (by omega)]
    refine WL.yes rfl <| WL.skip ?_
    have hp:l[j]? = some l[j]:=List.getElem?_eq_getElem hlt
    have hk1:=hk l[j] (List.getElem_mem hlt)
    have es:=lostS_step (src:=src) hlt
    have gr:=lost_le (src:=src) (l:=l) (j + 1)
    obtain ⟨o,acc,hS⟩:∃ o acc,lostS src (l.take j) = (o,acc):=⟨_,_,rfl⟩
    rw [hS] at es O1 l1 hp0
    generalize l[j] = p at hp hk1 es
    obtain ⟨c,hc⟩:∃ c:Nat,p.2.1 = (c:Int):=⟨p.2.1.toNat,by have:=hk1.2.1; omega⟩
    have hcl:c < 65536:=by have:=hk1.2.2.1; omega
    refine WL.seq <| WL.block ?_
    obtain ⟨b,o',cc,fix,wr,el,g1,g2,g3,g4,g5⟩:=(s.hx X1).at eP u113 tp111 hp .i64
    refine WL.sr <| WOL.ix rfl rfl g1 <| WOL.ld rfl (load_row tp111 g2 g4 g3) ?_
    refine WOL.al tp111 fun h5 N5 => ?_
    have n5:=N5.next
    have X5:=X1.trans N5.hx
    refine WOL.sto (vs:=encP p) rfl rfl tp111 N5.at_ rfl rfl (Nat.le_of_ble_eq_true rfl) rfl (f.hx X5) (by omega) fun h6 P6 => ?_
    have X6:=P6.hx _ X5 (by omega)
    have n6:=P6.next
    have A6:At h6 g.next (.cells (encP p) true true 92):=P6.at_
    have D8:=P6.oth h.next _ (by omega) (C8.hx N5.hx)
    have D9:=P6.oth h2.next _ (by omega) (C9.hx N5.hx)
    have O6:OwnL encI (h2.next + 1) h6 w 3 acc:=O1.keep fun c y hcc hA => P6.oth c y (by have:=hA.lt; omega) (hA.hx N5.hx)
    refine WOL.nil <| keep [(1,_),(6,_),(7,_),(8,_),(9,_),(11,_),(15,_),(16,_),(17,_)] ⟨rfl,rfl,rfl,rfl,rfl,rfl,rfl,rfl,rfl,trivial⟩ ?_
    refine WL.seq <| WL.sr <| WOL.fa rfl (fa_of fo111_0) <| WOL.ld rfl (load_one tp3 A6 rfl) <| WOL.mv rfl <| WOL.bi (v:=.bool (p.1 != src)) rfl rfl rfl <| WOL.nil <| keep [(1,_),(6,_),(7,_),(8,_),(9,_),(11,_),(15,_),(16,_),(17,_),(24,_)] ⟨rfl,rfl,rfl,rfl,rfl,rfl,rfl,rfl,rfl,rfl,trivial⟩ ?_
    cases hs:p.1 != src with
    | true =>
      have e1:lostS src (l.take (j + 1)) = (o,acc):=by rw [es]; unfold lstep; rw [hs]; rfl
      refine WL.yes rfl <| WL.exit ?_
      refine WL.reg ?_
      refine WOL.bi (v:=zi ((j + 1:Nat):Int)) rfl rfl (by show some (Value.int .i64 (fwrap .i64 ((j:Int) + 1))) = _; rw [fwrap_i64 (by omega) (by omega)]; rfl) ?_
      refine WOL.mv rfl <| WOL.nil ?_
      exact fun a q => ⟨l.length - (j + 1),by omega,j + 1,w,p0,by omega,rfl,X6,by rw [e1]; exact O6,by omega,by rw [e1]; exact l1,by rw [e1]; exact hp0,D8,D9,q.sub ⟨rfl,rfl,rfl,rfl,rfl,rfl,rfl,rfl,trivial⟩⟩
    | false =>
      have e1:lostS src (l.take (j + 1)) = (some c,acc ++ more o c):=by rw [es]; unfold lstep; rw [hs,hc]; rfl
      refine WL.no rfl <| WL.skip ?_
      obtain ⟨pl,pe⟩:=eq_prev hp0
      refine WL.seq <| WL.sr <| WOL.ld rfl (load_row tp111 D9 rfl (Nat.le_of_ble_eq_true rfl)) <| WOL.ld rfl (load_row tp111 D8 rfl (Nat.le_of_ble_eq_true rfl)) ?_
      refine WOL.eq111 (p:=p0) (q:=noP) pl noP_plain pe rfl rfl <| WOL.nil <| keep [(1,_),(6,_),(7,_),(8,_),(9,_),(11,_),(15,_),(16,_),(17,_),(27,_)] ⟨rfl,rfl,rfl,rfl,rfl,rfl,rfl,rfl,rfl,rfl,trivial⟩ ?_
      cases o with
      | none =>
        refine WL.yes rfl <| WL.sr <| WOL.ld rfl (load_row tp111 A6 rfl (Nat.le_of_ble_eq_true rfl)) ?_
        refine WOL.sto (vs:=encP p) rfl rfl tp111 D9 rfl rfl (Nat.le_of_ble_eq_true rfl) rfl (f.hx X6) (by omega) fun h7 P7 => WOL.nil <| keep [(1,_),(6,_),(7,_),(8,_),(9,_),(11,_),(15,_),(16,_),(17,_)] ⟨rfl,rfl,rfl,rfl,rfl,rfl,rfl,rfl,rfl,trivial⟩ ?_
        have X7:=P7.hx _ X6 (by omega)
        have n7:=P7.next
        have F9:At h7 h2.next (.cells (encP p) true true 92):=P7.at_
        have F8:=P7.oth h.next _ (by omega) D8
        have O7:OwnL encI (h2.next + 1) h7 w 3 acc:=O6.keep fun c y hcc hA => P7.oth c y (by have:=(O6.lt hcc).1; omega) hA
        refine WL.exit ?_
        refine WL.reg ?_
        refine WOL.bi (v:=zi ((j + 1:Nat):Int)) rfl rfl (by show some (Value.int .i64 (fwrap .i64 ((j:Int) + 1))) = _; rw [fwrap_i64 (by omega) (by omega)]; rfl) ?_
        refine WOL.mv rfl <| WOL.nil ?_
        rw [show acc ++ more none c = acc from List.append_nil _] at e1
        exact fun a q => ⟨l.length - (j + 1),by omega,j + 1,w,p,by omega,rfl,X7,by rw [e1]; exact O7,by omega,by rw [e1]; exact l1,by rw [e1]; exact ⟨hk1,hc⟩,F8,F9,q.sub ⟨rfl,rfl,rfl,rfl,rfl,rfl,rfl,rfl,trivial⟩⟩
      | some a0 =>
        obtain ⟨hpo,ha0⟩:=hp0
        have ha:a0 < 65536:=by have:=hpo.2.2.1; omega
        refine WL.no rfl <| WL.skip ?_
        refine WL.seq ?_
        have g7:=load_one tp3 D9 (off:=1) (v:=zi (a0:Nat)) (by rw [← ha0]; rfl)
        refine WL.sr <| WOL.fa rfl (fa_of fo111_1) <| WOL.ld rfl g7 ?_
        refine WOL.cl1 rfl rfl ((k151 H (by omega) (by omega)).mono ?_)
        rintro w5 g8 ⟨rfl,e8⟩
        replace e8:=e8.symm
        subst e8
        refine WOL.as rfl <| WOL.nil <| keep [(1,_),(6,_),(7,_),(8,_),(9,_),(11,_),(12,_),(15,_),(16,_),(17,_)] ⟨rfl,rfl,rfl,rfl,rfl,rfl,rfl,rfl,rfl,rfl,trivial⟩ ?_
        rw [show ((a0:Int) + 1) % 65536 = ((seqAt a0 0:Nat):Int) by unfold seqAt; omega]
        refine WL.block ?_
        refine WL.loop (fun q a g' => ∃ (t:Nat) (w:Value),t ≤ gapN a0 c ∧ q = gapN a0 c - t ∧ HX h g' ∧ OwnL encI (h2.next + 1) g' w 3 (acc ++ (gap a0 c).take t) ∧ h2.next + 1 ≤ g'.next ∧ (acc ++ (gap a0 c).take t).length ≤ 256 ∧ At g' h.next (.cells (encP noP) true true 92) ∧ At g' h2.next (.cells (encP p0) true true 92) ∧ At g' g.next (.cells (encP p) true true 92) ∧ (∀ c,bl w = some c → c ≠ g.next) ∧ Kn [(1,zi src),(6,w),(7,.bool true),(8,ptr h.next),(9,ptr h2.next),(11,ptr g.next),(12,zi (seqAt a0 t:Nat)),(15,v),(16,zi (l.length:Nat)),(17,zi (j:Nat))] a) (gapN a0 c) (fun a q => ⟨0,w,by omega,by omega,X6,by rw [List.take_zero,List.append_nil]; exact O6,by omega,by rw [List.take_zero,List.append_nil]; exact l1,D8,D9,A6,fun c hcc => by have:=(O1.lt hcc).2; omega,q.sub ⟨rfl,rfl,rfl,rfl,rfl,rfl,rfl,rfl,rfl,rfl,trivial⟩⟩) ?_
        rintro q a g2' ⟨t,w2,ht,rfl,Y2,Q2,k2,l2,E8,E9,E11,ne,q⟩
        refine q.go ?_
        have g6:=load_one tp3 E11 (off:=1) (v:=zi (c:Nat)) (by rw [← hc]; rfl)
        refine WL.seq <| WL.sr <| WOL.mv rfl <| WOL.fa rfl (fa_of fo111_1) <| WOL.ld rfl g6 <| WOL.bi (v:=.bool (((seqAt a0 t:Nat):Int) != (c:Int))) rfl rfl rfl <| WOL.nil <| keep [(1,_),(6,_),(7,_),(8,_),(9,_),(11,_),(12,_),(15,_),(16,_),(17,_),(35,_)] ⟨rfl,rfl,rfl,rfl,rfl,rfl,rfl,rfl,rfl,rfl,rfl,trivial⟩ ?_
        rw [seq_end ha hcl ht]
        by_cases htl:t < gapN a0 c
        · rw [decide_eq_true htl]
          refine WL.yes rfl <| WL.skip ?_
          refine WL.seq <| WL.block ?_
          refine WL.seq <| WL.sr <| WOL.mv rfl <| WOL.len rfl (Q2.sl eI) u29 <| WOL.bi (v:=.bool (((acc ++ (gap a0 c).take t).length:Int) == 256)) rfl rfl rfl <| WOL.nil <| keep [(1,_),(6,_),(7,_),(8,_),(9,_),(11,_),(12,_),(15,_),(16,_),(17,_),(40,_)] ⟨rfl,rfl,rfl,rfl,rfl,rfl,rfl,rfl,rfl,rfl,rfl,trivial⟩ ?_
          have l4:(acc ++ (gap a0 c).take (t + 1)).length = (acc ++ (gap a0 c).take t).length + 1:=by rw [gap_next htl,← List.append_assoc,List.length_append]; rfl
          cases hf:((acc ++ (gap a0 c).take t).length:Int) == 256 with
          | true =>
            have hf':((acc ++ (gap a0 c).take t).length:Int) = 256:=by simpa using hf
            refine WL.yes rfl <| WL.sr <| WOL.as rfl <| WOL.nil ?_
            refine WL.exit ?_
            refine WL.sr <| WOL.mv rfl <| WOL.mv rfl <| WOL.as rfl <| WOL.as rfl <| WOL.nil ?_
            refine WL.ret (WL.end_ rfl ⟨Y2,_,_,rfl,.inr ⟨?_,rfl⟩⟩)
            rw [e1] at gr
            replace gr:(acc ++ more (some a0) c).length ≤ (lostS src l).2.length:=gr
            have:(acc ++ (gap a0 c).take (t + 1)).length ≤ (acc ++ more (some a0) c).length:=by
              show _ ≤ (acc ++ gap a0 c).length
              rw [List.length_append,List.length_append,List.length_take]; omega
            omega
          | false =>
            have hf':¬ ((acc ++ (gap a0 c).take t).length:Int) = 256:=by simpa using hf
            refine WL.no rfl <| WL.skip ?_
            refine WL.reg <| WOL.mv rfl <| WOL.mv rfl <| WOL.bs1 rfl u29 tp3 rfl fun h7 N7 => ?_
            have Y7:=Y2.trans N7.hx
            have n7:=N7.next
            obtain ⟨w4,h8,ap,O8,x8,keep8,bw,n8⟩:=own_push (sT:=29) (x:=((seqAt a0 t:Nat):Int)) eI u29 tp3 (Q2.hx N7.hx) (SlC.own (sz:=1) (m:=1) rfl N7.at_) ((f.hx Y7).up (by omega)) (by omega) (by omega)
            have Y8:=x8 _ Y7 (by omega)
            rw [List.append_assoc,← gap_next htl] at O8
            have lw:∀ c,bl w2 = some c → h2.next + 1 ≤ c:=fun c hcc => (Q2.lt hcc).1
            refine WOL.ap rfl rfl ap <| WOL.as rfl <| WOL.nil <| keep [(1,_),(6,_),(7,_),(8,_),(9,_),(11,_),(12,_),(15,_),(16,_),(17,_)] ⟨rfl,rfl,rfl,rfl,rfl,rfl,rfl,rfl,rfl,rfl,trivial⟩ ?_
            refine WL.reg <| WOL.mv rfl ?_
            refine WOL.cl1 rfl rfl ((k151 H (n:=(seqAt a0 t:Nat)) (by omega) (by unfold seqAt; omega)).mono ?_)
            rintro w5 g8 ⟨rfl,e8⟩
            replace e8:=e8.symm
            subst e8
            rw [seq_next]
            refine WOL.as rfl <| WOL.nil ?_
            exact fun a q => ⟨gapN a0 c - (t + 1),by omega,t + 1,w4,by omega,rfl,Y8,O8,by omega,by omega,keep8 _ _ (fun e => by have:=lw _ e; omega) (E8.hx N7.hx),keep8 _ _ (fun e => by have:=lw _ e; omega) (E9.hx N7.hx),keep8 _ _ (fun e => ne _ e rfl) (E11.hx N7.hx),fun c hcc => by rw [bw] at hcc; cases hcc; have:=E11.lt; omega,q.sub ⟨rfl,rfl,rfl,rfl,rfl,rfl,rfl,rfl,rfl,rfl,trivial⟩⟩
        · rw [decide_eq_false htl]
          obtain rfl:t = gapN a0 c:=by omega
          rw [List.take_of_length_le (by rw [gap_len]; exact Nat.le_refl _)] at Q2 l2
          refine WL.no rfl <| WL.exit ?_
          refine WL.reg <| WOL.ld rfl (load_row tp111 E11 rfl (Nat.le_of_ble_eq_true rfl)) ?_
          refine WOL.sto (vs:=encP p) rfl rfl tp111 E9 rfl rfl (Nat.le_of_ble_eq_true rfl) rfl (f.hx Y2) (by omega) fun h7 P7 => WOL.nil <| keep [(1,_),(6,_),(7,_),(8,_),(9,_),(11,_),(15,_),(16,_),(17,_)] ⟨rfl,rfl,rfl,rfl,rfl,rfl,rfl,rfl,rfl,trivial⟩ ?_
          have X7:=P7.hx _ Y2 (by omega)
          have n7:=P7.next
          have F9:At h7 h2.next (.cells (encP p) true true 92):=P7.at_
          have F8:=P7.oth h.next _ (by omega) E8
          have O7:OwnL encI (h2.next + 1) h7 w2 3 (acc ++ gap a0 c):=Q2.keep fun c y hcc hA => P7.oth c y (by have:=(Q2.lt hcc).1; omega) hA
          refine WL.reg ?_
          refine WOL.bi (v:=zi ((j + 1:Nat):Int)) rfl rfl (by show some (Value.int .i64 (fwrap .i64 ((j:Int) + 1))) = _; rw [fwrap_i64 (by omega) (by omega)]; rfl) ?_
          refine WOL.mv rfl <| WOL.nil ?_
          exact fun a q => ⟨l.length - (j + 1),by omega,j + 1,w2,p,by omega,rfl,X7,by rw [e1]; exact O7,by omega,by rw [e1]; exact l2,by rw [e1]; exact ⟨hk1,hc⟩,F8,F9,q.sub ⟨rfl,rfl,rfl,rfl,rfl,rfl,rfl,rfl,trivial⟩⟩
  · rw [show decide ((j:Int) < (l.length:Int)) = false from decide_eq_false (by omega)]
    obtain rfl:j = l.length:=by omega
    refine WL.no rfl <| WL.exit ?_
    refine WL.sr <| WOL.mv rfl <| WOL.mv rfl <| WOL.as rfl <| WOL.as rfl <| WOL.nil ?_
    rw [List.take_length] at O1 l1
    exact WL.ret (WL.end_ rfl ⟨X1,_,_,rfl,.inl ⟨l1,rfl,O1.imp id fun ⟨h0,b,e1,e2,e3⟩ => ⟨h0,b,e1,by omega,e3⟩⟩⟩)
end
end Go.Tidy
namespace Go.Tidy
open Go Go.Proofs Tab
variable {tp:TProg}
theorem sampleE_nan {b:Nat} {e:Int} (h:SampleE b e) (h0:e = 0):nanB .f32 b = false:=by
 cases h with
 | nan h => cases h0
 | inf s h => cases h0
 | num neg m k h => exact not_nan h.read
theorem outB_in {n l m:Int} (h:outB n l m = 0):l ≤ n ∧ n ≤ m:=by
 unfold outB at h
 by_cases h1:n < l
 ·simp [h1] at h
 ·by_cases h2:n > m
  ·simp [h2] at h
  ·omega
theorem pe_ok {p:Pkt} (h:PE p 0):PkOk p:=by
 obtain ⟨es,hE,h⟩:=h
 have z:=firstNZ_zero h.symm
 have z1:=outB_in (z (outB p.1 0 255) (by simp))
 have z2:=outB_in (z (outB p.2.1 0 65535) (by simp))
 have z3:=firstNZ_zero (z (firstNZ es) (by simp))
 obtain ⟨hl,hs⟩:=hE
 match es,hl with
 | [e1,e2,e3],_ =>
  exact ⟨z1.1,z2.1,by omega,sampleE_nan (hs 0 _ e1 rfl rfl) (z3 _ (by simp)),sampleE_nan (hs 1 _ e2 rfl rfl) (z3 _ (by simp)),sampleE_nan (hs 2 _ e3 rfl rfl) (z3 _ (by simp))⟩
theorem perr_ok {l:List Pkt} {E:List Int} (h:PErr l E) (h0:firstNZ E = 0):∀ p,p ∈ l → PkOk p:=by
 intro p hp
 obtain ⟨i,hi,rfl⟩:=List.getElem_of_mem hp
 have hiE:i < E.length:=h.1 ▸ hi
 have q:=h.2 i l[i] E[i] (List.getElem?_eq_getElem hi) (List.getElem?_eq_getElem hiE)
 rw [firstNZ_zero h0 E[i] (List.getElem_mem hiE)] at q
 exact pe_ok q
section
variable {h:TH} {v:Value} {l:List Pkt} {E:List Int} {src:Int}
def lostE (n:Nat) (E:List Int) (src:Int):Int:=firstNZ [chkE n E,outB src 0 255]
def LostQ (l:List Pkt) (E:List Int) (src:Int) (n0:Nat) (h:TH) (w:Value) (e:Int):Prop :=
 (lostE l.length E src ≠ 0 ∧ w = .slice none 0 0 ∧ e = lostE l.length E src) ∨ (lostE l.length E src = 0 ∧ LostA (lostS src l).2 n0 h w e)
set_option maxHeartbeats 1000000 in
theorem k66 (H:Has tp) (X:HasX tp) (s:SlL encP 5 h v l) (hE:PErr l E) (hl:l.length ≤ 1000000) (f:Free0 h.next h):CallW Tryz.prog tp (.func (.func 58) #[] #[]) #[v,zi src] h fun w h' => HX h h' ∧ ∃ w1 e,w = .tuple #[w1,zi e] ∧ LostQ l E src h.next h' w1 e:=by
  refine CallW.fnL (H.fn 58 f66 rfl rfl) ?_
  refine WL.sr <| WOL.as rfl <| WOL.as rfl <| WOL.nil <| keep [(0,_),(1,_)] ⟨rfl,rfl,trivial⟩ ?_
  refine WL.seq <| WL.sr <| WOL.mv rfl <| WOL.len rfl s u113 <| WOL.bi (v:=.bool (decide ((l.length:Int) > 1024))) rfl rfl rfl <| WOL.nil <| keep [(0,_),(1,_),(12,_)] ⟨rfl,rfl,rfl,trivial⟩ ?_
  cases hb:decide ((l.length:Int) > 1024) with
  | true =>
    have e5:lostE l.length E src = 5:=by unfold lostE chkE; rw [hb]; rfl
    refine WL.yes rfl <| WL.sr <| WOL.as rfl <| WOL.as rfl <| WOL.nil ?_
    exact WL.ret (WL.end_ rfl ⟨HX.refl _,_,_,rfl,.inl ⟨by rw [e5]; decide,rfl,e5.symm⟩⟩)
  | false =>
    have ec:chkE l.length E = firstNZ E:=by unfold chkE; rw [hb]; rfl
    refine WL.no rfl <| WL.skip ?_
    refine WL.sr <| WOL.mv rfl <| WOL.cl2 rfl rfl rfl ((k118 H X s hE hl f).mono ?_)
    rintro w h1 ⟨X1,b,rfl,A1,hb1⟩
    refine WOL.as rfl <| WOL.nil <| keep [(0,_),(1,_),(6,_)] ⟨rfl,rfl,rfl,trivial⟩ ?_
    refine WL.seq <| WL.sr <| WOL.mv rfl <| WOL.cl1 rfl rfl ((k71 H A1.get (by rw [← hE.1]; exact hl)).mono ?_)
    rintro w h2 ⟨rfl,e2⟩
    replace e2:=e2.symm
    subst e2
    refine WOL.mv rfl <| WOL.cl3 rfl rfl rfl rfl ((k72 H src 0 255 _).mono ?_)
    rintro w h2 ⟨rfl,e2⟩
    replace e2:=e2.symm
    subst e2
    refine WOL.bsl rfl u166 tp30 (by decide) (by decide) (by decide) (cs:=[_,_].map (.int .i64)) rfl fun h3 N3 => ?_
    have X3:=X1.trans N3.hx
    refine WOL.cl1 rfl rfl ((k71 H (l:=[_,_]) N3.at_.get (by simp)).mono ?_)
    rintro w h2 ⟨rfl,e2⟩
    replace e2:=e2.symm
    subst e2
    refine WOL.as rfl <| WOL.nil <| keep [(0,_),(1,_),(7,_)] ⟨rfl,rfl,rfl,trivial⟩ ?_
    show ∀ a,Kn [(0,v),(1,zi src),(7,zi (firstNZ [firstNZ E,outB src 0 255]))] a → _
    rw [← ec]
    show ∀ a,Kn [(0,v),(1,zi src),(7,zi (lostE l.length E src))] a → _
    refine WL.sr <| WOL.mv rfl <| WOL.bi rfl rfl nzero <| WOL.nil <| keep [(0,_),(1,_),(7,_),(22,_)] ⟨rfl,rfl,rfl,rfl,trivial⟩ ?_
    rcases nz_cases (lostE l.length E src) with h0 | h0
    · rw [h0]
      have hz:=firstNZ_zero h0
      have hzE:firstNZ E = 0:=by rw [← ec]; exact hz _ (by simp)
      have n3:h.next ≤ h3.next:=X3.next
      refine WL.no rfl <| WL.skip ?_
      refine WL.sr <| WOL.mv rfl <| WOL.mv rfl <| WOL.cl2 rfl rfl rfl ((k119 H (s.hx X3) hl (perr_ok hE hzE) ((f.hx X3).up n3)).mono ?_)
      rintro w h4 ⟨X4,w1,full,rfl,hL⟩
      have X5:=X3.trans X4
      refine WOL.mv rfl <| WOL.ex rfl rfl <| WOL.ex rfl rfl <| WOL.as rfl <| WOL.as rfl <| WOL.nil <| keep [(8,_),(9,_)] ⟨rfl,rfl,trivial⟩ ?_
      refine WL.seq <| WL.sr <| WOL.mv rfl <| WOL.nt rfl <| WOL.nil <| keep [(8,_),(31,_)] ⟨rfl,rfl,trivial⟩ ?_
      rcases hL with ⟨hL,rfl,O⟩ | ⟨hL,rfl⟩
      · refine WL.no rfl <| WL.skip ?_
        refine WL.sr <| WOL.mv rfl <| WOL.as rfl <| WOL.as rfl <| WOL.nil ?_
        exact WL.ret (WL.end_ rfl ⟨X5,_,_,rfl,.inr ⟨h0,.inl ⟨hL,rfl,O.imp id fun ⟨q0,b,q1,q2,q3⟩ => ⟨q0,b,q1,by omega,q3⟩⟩⟩⟩)
      · refine WL.yes rfl <| WL.sr <| WOL.as rfl <| WOL.as rfl <| WOL.nil ?_
        exact WL.ret (WL.end_ rfl ⟨X5,_,_,rfl,.inr ⟨h0,.inr ⟨hL,rfl,rfl⟩⟩⟩)
    · rw [h0]
      refine WL.yes rfl <| WL.sr <| WOL.mv rfl <| WOL.as rfl <| WOL.as rfl <| WOL.nil ?_
      exact WL.ret (WL.end_ rfl ⟨X3,_,_,rfl,.inl ⟨by simpa using h0,rfl,rfl⟩⟩)
end
end Go.Tidy
namespace Go.Tidy
open Go Go.Proofs Tab
theorem u1003 : Tryz.prog.underlying 84 = some (.struct #[⟨"Source", 3, 0, false, "", "", 0⟩, ⟨"Counter", 3, 1, false, "", "", 8⟩, ⟨"Readings", 82, 2, false, "", "", 16⟩]) := by kernel_rfl
def SelfEq (b:Nat):Prop:=Op.floatEq .f32 b b = true
theorem pv_int_self {d:Nat} {n:Int}:pv Tryz.prog (Op.equalIn (d + 1) 3 (zi n) (zi n)) = some true:=by
 rw [Op.equalIn,pv_bind,pv_underlying u3,Option.bind_some]
 simp [pv_pure]
theorem pv_f_self {d b:Nat} (h:SelfEq b):pv Tryz.prog (Op.equalIn (d + 1) 25 (.float .f32 b) (.float .f32 b)) = some true:=by
 rw [Op.equalIn,pv_bind,pv_underlying u25,Option.bind_some]
 have:Op.floatEq .f32 b b = true:=h
 simp [pv_pure,this]
theorem pv_s25:pv Tryz.prog (sizeOf 25) = some 1:=by kernel_rfl
theorem part25 {x y z k:Nat} (hk:k < 3):pv Tryz.prog (Go.part 25 #[.float .f32 x,.float .f32 y,.float .f32 z] k) = some (.float .f32 (wd x y z k)):=by
 obtain rfl | rfl | rfl:k = 0 ∨ k = 1 ∨ k = 2:=by omega
 ·kernel_rfl
 ·kernel_rfl
 ·kernel_rfl
theorem pv_eq109 {d x y z:Nat} (hx:SelfEq x) (hy:SelfEq y) (hz:SelfEq z):pv Tryz.prog (Op.equalIn (d + 1 + 1) 82 (.agg #[.float .f32 x,.float .f32 y,.float .f32 z]) (.agg #[.float .f32 x,.float .f32 y,.float .f32 z])) = some true:=by
 rw [Op.equalIn,pv_bind,pv_underlying u109,Option.bind_some]
 simp only [Std.Legacy.Range.forIn_eq_forIn_range',Std.Legacy.Range.size,pv_bind,pv_s25,Option.bind_some]
 rw [show List.range' 0 ((3 - 0 + 1 - 1) / 1) 1 = [0,1,2] from rfl]
 have p0:=part25 (x:=x) (y:=y) (z:=z) (k:=0) (by decide)
 have p1:=part25 (x:=x) (y:=y) (z:=z) (k:=1) (by decide)
 have p2:=part25 (x:=x) (y:=y) (z:=z) (k:=2) (by decide)
 have s0:=pv_f_self (d:=d) hx
 have s1:=pv_f_self (d:=d) hy
 have s2:=pv_f_self (d:=d) hz
 simp only [wd] at p0 p1 p2
 simp [List.forIn_cons,pv_bind,pv_pure,p0,p1,p2,s0,s1,s2]
theorem stood1003:Tryz.prog.stoodInHeld 84 = false:=by kernel_rfl
theorem part1003 {s c:Int} {x y z:Nat}:pv Tryz.prog (Go.part 3 #[zi s,zi c,.float .f32 x,.float .f32 y,.float .f32 z] 0) = some (zi s) ∧ pv Tryz.prog (Go.part 3 #[zi s,zi c,.float .f32 x,.float .f32 y,.float .f32 z] 1) = some (zi c) ∧ pv Tryz.prog (Go.part 82 #[zi s,zi c,.float .f32 x,.float .f32 y,.float .f32 z] 2) = some (.agg #[.float .f32 x,.float .f32 y,.float .f32 z]) :=
 ⟨by kernel_rfl,by kernel_rfl,by kernel_rfl⟩
theorem pv_eq1003 {s c:Int} {x y z:Nat} (hx:SelfEq x) (hy:SelfEq y) (hz:SelfEq z):pv Tryz.prog (Op.equal 84 (pak s c x y z) (pak s c x y z)) = some true:=by
 show pv Tryz.prog (Op.equalIn (9996 + 1 + 1 + 1 + 1) 84 _ _) = _
 unfold pak
 rw [Op.equalIn,pv_bind,pv_underlying u1003,Option.bind_some]
 obtain ⟨p0,p1,p2⟩:=part1003 (s:=s) (c:=c) (x:=x) (y:=y) (z:=z)
 have i0:=pv_int_self (d:=9998) (n:=s)
 have i1:=pv_int_self (d:=9998) (n:=c)
 have i2:=pv_eq109 (d:=9997) hx hy hz
 simp [pv_bind,pv_pure,pv_program,stood1003,p0,p1,p2,i0,i1,i2]
end Go.Tidy
namespace Go.Tidy
open Go Go.Proofs Tab
variable {tp:TProg}
theorem self_eq {b:Nat} {e:Int} (h:SampleE b e) (h0:e = 0):SelfEq b:=by
 cases h with
 | nan h => cases h0
 | inf s h => cases h0
 | num neg m k h =>
  show (Ieee.single.order b b == some .eq) = true
  unfold Ieee.Format.order
  rw [h.read,order_num,cmp_self]
  rfl
def GoodW (p:Pkt):Prop:=NoNan p ∧ SelfEq p.2.2.1 ∧ SelfEq p.2.2.2.1 ∧ SelfEq p.2.2.2.2
theorem goodW_of {p:Pkt} {es:List Int} (h:SErr [p.2.2.1,p.2.2.2.1,p.2.2.2.2] es) (h0:firstNZ es = 0):GoodW p:=by
 have z:=firstNZ_zero h0
 obtain ⟨hl,hs⟩:=h
 match es,hl with
 | [e1,e2,e3],_ =>
  have z1:=z e1 (by simp)
  have z2:=z e2 (by simp)
  have z3:=z e3 (by simp)
  have s1:=hs 0 _ e1 rfl rfl
  have s2:=hs 1 _ e2 rfl rfl
  have s3:=hs 2 _ e3 rfl rfl
  exact ⟨⟨sampleE_nan s1 z1,sampleE_nan s2 z2,sampleE_nan s3 z3⟩,self_eq s1 z1,self_eq s2 z2,self_eq s3 z3⟩
theorem goodW_zero:GoodW (0,0,0,0,0):=⟨⟨by decide,by decide,by decide⟩,by unfold SelfEq; decide,by unfold SelfEq; decide,by unfold SelfEq; decide⟩
section
variable {h:TH} {K:Regs → TH → Prop} {rest:List TOper} {d:Option Tmp} {ty:TypeId} {i:Nat} {x y:Operand} {u:TypeId} {L:Rg} {l:List Nat}
theorem WOL.eq1003 {p:Pkt} (hg:GoodW p) (hx:getL L x = some (pakP p)) (hy:getL L y = some (pakP p))
    (w:∀ r,Kn (putL L d (.bool true)) r → WO Tryz.prog tp rest r h K):∀ r,Kn L r → WO Tryz.prog tp (⟨d,.binOp .eql 84 x y u,ty,none,[],i⟩ :: rest) r h K:=by
  intro r k
  have ex:=getO_eval (k.o hx)
  have ey:=getO_eval (k.o hy)
  have pl:=pakP_plain hg.1
  have hb:=pv_eq1003 (s:=p.1) (c:=p.2.1) hg.2.1 hg.2.2.1 hg.2.2.2
  have eg:eqT Tryz.prog 84 (pakP p) (pakP p) = none:=eqT_agg
  refine WO.plainly rfl rfl rfl (by simp [fastOp,fastBin,ex,ey,pakP,pak]) (by simp [valueOp,ex,ey,eg]) (plainOp_of (by rfl) (fun q hq => ?_) ?_ rfl) (w _ (k.put d _))
  · simp only [Op.operands] at hq
    simp at hq
    rcases hq with rfl | rfl
    · rw [ex]; exact pl
    · rw [ey]; exact pl
  · show pv Tryz.prog (execOp r.eval ⟨d, .binOp .eql 84 x y u, ty, "", #[], none⟩) = _
    have hg:Tryz.prog.eqGuardType Tryz.prog.depth 84 = false:=by kernel_rfl
    unfold pakP pak at ex ey
    unfold pak at hb
    simp [execOp,pv_bind,pv_map,pv_pure,pv_program,ex,ey,eqGuard,binOp,hb,hg]
theorem WOL.eq106 (h1:l.length = 20) (hx:getL L x = some (.agg (cat encY l).toArray)) (hy:getL L y = some (.agg (cat encY l).toArray))
    (w:∀ r,Kn (putL L d (.bool true)) r → WO Tryz.prog tp rest r h K):∀ r,Kn L r → WO Tryz.prog tp (⟨d,.binOp .eql 85 x y u,ty,none,[],i⟩ :: rest) r h K:=by
  intro r k
  have ex:=getO_eval (k.o hx)
  have ey:=getO_eval (k.o hy)
  have px:∀ l:List Nat,plain (.agg (cat encY l).toArray) = true:=fun l => by
    rw [cat_Y]
    show ((l.map fun b => Value.int .u8 (b:Nat)).toArray.toList).all plain0 = true
    simp [plain0]
  have hb:=pv_eq106 h1 h1
  rw [decide_eq_true rfl] at hb
  refine WO.plainly rfl rfl rfl (by simp [fastOp,fastBin,ex,ey]) (by simp [valueOp,ex,ey,eqT_agg]) (plainOp_of (by rfl) (fun q hq => ?_) ?_ rfl) (w _ (k.put d _))
  · simp only [Op.operands] at hq
    simp at hq
    rcases hq with rfl | rfl
    · rw [ex]; exact px l
    · rw [ey]; exact px l
  · show pv Tryz.prog (execOp r.eval ⟨d, .binOp .eql 85 x y u, ty, "", #[], none⟩) = _
    have hg:Tryz.prog.eqGuardType Tryz.prog.depth 85 = false:=by kernel_rfl
    simp [execOp,pv_bind,pv_map,pv_pure,pv_program,ex,ey,eqGuard,binOp,hb,hg]
end
end Go.Tidy
namespace Go.Tidy
open Go Go.Proofs Tab
theorem fo1006_0:fieldOff Tryz.prog 88 0 = some 0:=by kernel_rfl
theorem fo1006_1:fieldOff Tryz.prog 88 1 = some 1:=by kernel_rfl
theorem tp1004:Tp Tryz.prog 86 1 [.slice none 0 0] false:=tp_of (by kernel_rfl) (by kernel_rfl) rfl
def frE (p:Pkt) (e:Int):List Nat:=cond (e != 0) (List.replicate 20 0) (frameB p.1.toNat p.2.1.toNat p.2.2.1 p.2.2.2.1 p.2.2.2.2)
theorem frE_len {p:Pkt} {e:Int}:(frE p e).length = 20:=by
 unfold frE
 cases e != 0
 ·exact frameB_len
 ·rfl
theorem encV_eq {p:Pkt} {es:List Int}:encV p.1 p.2.1 p.2.2.1 p.2.2.2.1 p.2.2.2.2 es = .tuple #[.agg (cat encY (frE p (pakE p.1 p.2.1 es))).toArray,zi (pakE p.1 p.2.1 es)]:=by
 unfold encV frE
 cases h:pakE p.1 p.2.1 es != 0
 ·have:pakE p.1 p.2.1 es = 0:=by simpa using h
  rw [this]; rfl
 ·rfl
def deP (l:List Nat) (e:Int):Pkt:=cond (e != 0) (0,0,0,0,0) (srcB l,cntB l,wrdB l 0,wrdB l 1,wrdB l 2)
theorem decR_eq {l:List Nat} {es:List Int}:decR l es = .tuple #[pakP (deP l (decF l es)),zi (decF l es)]:=by
 unfold decR deP
 cases h:decF l es != 0
 ·have:decF l es = 0:=by simpa using h
  rw [this]; rfl
 ·rfl
theorem deP_good {l:List Nat} {es:List Int} (hE:SErr [wrdB l 0,wrdB l 1,wrdB l 2] es):GoodW (deP l (decF l es)):=by
  unfold deP
  cases h:decF l es != 0
  · have h0:decF l es = 0:=by simpa using h
    have ht:tlF l es = 0:=by
      unfold decF at h0
      cases hh:hdF l != 0
      · rw [hh] at h0; exact h0
      · rw [hh] at h0
        have:hdF l ≠ 0:=by simpa using hh
        exact absurd h0 this
    have hz:firstNZ es = 0:=firstNZ_zero ht _ (by simp)
    exact goodW_of (p:=(srcB l,cntB l,wrdB l 0,wrdB l 1,wrdB l 2)) hE hz
  · exact goodW_zero
theorem ownI_ints {n0:Nat} {h:TH} {w:Value} {L:List Int} (o:OwnL encI n0 h w 3 L):IsInts h w L:=by
 rcases o with o | ⟨_,b,rfl,_,h3⟩
 ·exact .inl o
 ·rw [cat_I] at h3
  exact .inr ⟨b,_,_,_,_,rfl,h3.lt,h3.get⟩
theorem lostA_alike {L:List Int} {n1 n2:Nat} {g:TH} {w1 w2:Value} {e1 e2:Int} (a:LostA L n1 g w1 e1) (b:LostA L n2 g w2 e2):e1 = e2 ∧ ∃ M:List Int,M.length ≤ 256 ∧ IsInts g w1 M ∧ IsInts g w2 M:=by
 rcases a with ⟨a1,rfl,a3⟩ | ⟨a1,rfl,rfl⟩
 ·rcases b with ⟨b1,rfl,b3⟩ | ⟨b1,_,_⟩
  ·exact ⟨rfl,L,a1,ownI_ints a3,ownI_ints b3⟩
  ·omega
 ·rcases b with ⟨b1,_,_⟩ | ⟨b1,rfl,rfl⟩
  ·omega
  ·exact ⟨rfl,[],by decide,.inl ⟨rfl,rfl⟩,.inl ⟨rfl,rfl⟩⟩
theorem LostA.hx {L:List Int} {n0:Nat} {g g':TH} {w:Value} {e:Int} (a:LostA L n0 g w e) (x:HX g g'):LostA L n0 g' w e :=
 a.imp (fun ⟨h1,h2,h3⟩ => ⟨h1,h2,h3.hx x⟩) id
end Go.Tidy
namespace Go.Tidy
open Go Go.Proofs Tab
variable {tp:TProg}
section
variable {h:TH} {v:Value} {l:List Pkt} {raw:List Nat} {p:Pkt} {src:Int}
set_option maxHeartbeats 4000000 in
set_option maxRecDepth 10000 in
theorem k1006 (H:Has tp) (X:HasX tp) (Y:HasY tp) (A:Awk tp) (s:SlL encP 5 h v l) (hr:raw.length = 20) (hb:Byt raw) (hx:p.2.2.1 < 4294967296) (hy:p.2.2.2.1 < 4294967296) (hz:p.2.2.2.2 < 4294967296) (f:Free0 h.next h) :
    CallW Tryz.prog tp (.func (.func 7) #[] #[]) #[pakP p,.agg (cat encY raw).toArray,.agg #[v,zi src]] h fun w h' => w = .bool true ∧ HX h h':=by
  obtain ⟨es,hes⟩:=serr_ex [p.2.2.1,p.2.2.2.1,p.2.2.2.2]
  obtain ⟨rs,hrs⟩:=serr_ex [wrdB raw 0,wrdB raw 1,wrdB raw 2]
  obtain ⟨E,hE⟩:=perr_ex l
  have cl:(cat encY raw).length = 20:=by rw [eY.cat_len,hr]
  refine CallW.fnL (H.fn 7 f1006 rfl rfl) ?_
  refine WL.sr <| WOL.box rfl fun h1 N1 => WOL.box rfl fun h2 N2 => WOL.box rfl fun h3 N3 => WOL.as rfl <| WOL.nil <| keep [(3,_),(4,_),(5,_)] ⟨rfl,rfl,rfl,trivial⟩ ?_
  have n1:=N1.next
  have n2:=N2.next
  have n3:=N3.next
  have X3:=(N1.hx.trans N2.hx).trans N3.hx
  have A3:At h3 h.next (.cells (encP p) true true 84):=(N1.at_.hx N2.hx).hx N3.hx
  have A4:At h3 h1.next (.cells (cat encY raw) true true 85):=N2.at_.hx N3.hx
  have A5:At h3 h2.next (.cells [v,zi src] true true 88):=N3.at_
  have s3:=s.hx X3
  refine WL.seq <| WL.sr <| WOL.fa rfl (fa_of fo1006_0) <| WOL.ld rfl (load_one tp1004 A5 rfl) ?_
  refine WOL.cl1 rfl rfl ((k1012 H s3).mono ?_)
  rintro w g ⟨rfl,e⟩
  replace e:=e.symm
  subst e
  refine WOL.nt rfl <| WOL.nil <| keep [(3,_),(4,_),(5,_),(22,_)] ⟨rfl,rfl,rfl,rfl,trivial⟩ ?_
  cases hsh:cond (decide ((l.length:Int) ≤ 20)) true ((l.length:Int) == 1025) with
  | false =>
    refine WL.yes rfl <| WL.sr <| WOL.cl0 rfl ((k11 A _).mono ?_)
    rintro w g ⟨rfl,rfl⟩
    refine WOL.as rfl <| WOL.nil ?_
    exact WL.ret (WL.end_ rfl ⟨rfl,X3⟩)
  | true =>
  have hl:l.length ≤ 1000000:=by
    by_cases h20:(l.length:Int) ≤ 20
    · omega
    · rw [decide_eq_false h20] at hsh
      have:(l.length:Int) = 1025:=by simpa using hsh
      omega
  refine WL.no rfl <| WL.skip ?_
  refine WL.sr <| WOL.ld rfl (load_row tp1003 A3 rfl (Nat.le_of_ble_eq_true rfl)) ?_
  refine WOL.cl1 rfl rfl ((k65 H X Y (s:=p.1) (c:=p.2.1) hes hx hy hz (f.on X3)).mono ?_)
  rintro w g4 ⟨rfl,X4⟩
  rw [encV_eq]
  have n4:=X4.next
  refine WOL.mv rfl <| WOL.ex rfl rfl <| WOL.ex rfl rfl <| WOL.al tp106 fun g5 N5 => ?_
  have n5:=N5.next
  have Z5:=(X3.trans X4).trans N5.hx
  refine WOL.sto (vs:=cat encY (frE p (pakE p.1 p.2.1 es))) rfl rfl tp106 N5.at_ rfl (by rw [eY.cat_len,frE_len]) (Nat.le_of_ble_eq_true rfl) (eY.all _) (f.hx Z5) (by omega) fun g6 P6 => WOL.as rfl <| WOL.nil <| keep [(3,_),(4,_),(5,_),(7,_),(8,_)] ⟨rfl,rfl,rfl,rfl,rfl,trivial⟩ ?_
  have Z6:=P6.hx _ Z5 (by omega)
  have n6:=P6.next
  have hX36:HX h3 g6:=P6.hx _ (X4.trans N5.hx) (by omega)
  have A7:=P6.at_
  rw [splice_all _ _ (by rw [eY.cat_len,frE_len]; rfl)] at A7
  refine WL.sr <| WOL.ld rfl (load_row tp106 (A4.hx hX36) (l:=cat encY raw) (by rw [List.drop_zero,List.take_of_length_le (by omega)]) (by omega)) ?_
  refine WOL.cl1 rfl rfl ((k153 H X Y hr hb hrs (f.on Z6)).mono ?_)
  rintro w g7 ⟨rfl,X7⟩
  rw [decV_eq hr hb,decR_eq]
  have n7:=X7.next
  refine WOL.mv rfl <| WOL.ex rfl rfl <| WOL.ex rfl rfl <| WOL.al tp111 fun g8 N8 => ?_
  have n8:=N8.next
  have Z8:=(Z6.trans X7).trans N8.hx
  refine WOL.sto (vs:=encP (deP raw (decF raw rs))) rfl rfl tp111 N8.at_ rfl rfl (Nat.le_of_ble_eq_true rfl) rfl (f.hx Z8) (by omega) fun g9 P9 => WOL.as rfl <| WOL.nil <| keep [(3,_),(4,_),(5,_),(7,_),(8,_),(9,_),(10,_)] ⟨rfl,rfl,rfl,rfl,rfl,rfl,rfl,trivial⟩ ?_
  have Z9:=P9.hx _ Z8 (by omega)
  have n9:=P9.next
  have hX39:HX h3 g9:=P9.hx _ ((hX36.trans X7).trans N8.hx) (by omega)
  have B9:At g9 g7.next (.cells (encP (deP raw (decF raw rs))) true true 92):=P9.at_
  have B7:=P9.oth g4.next _ (by omega) ((A7.hx X7).hx N8.hx)
  have s9:=s3.hx hX39
  have A59:=A5.hx hX39
  have f9:Free0 g9.next g9:=f.on Z9
  refine WL.sr <| WOL.fa rfl (fa_of fo1006_0) <| WOL.ld rfl (load_one tp1004 A59 rfl) <| WOL.fa rfl (fa_of fo1006_1) <| WOL.ld rfl (load_one tp3 A59 rfl) ?_
  refine WOL.lr1 [some h2.next] rfl rfl rfl fun M hM => ((k1013 H (s9.relock M) hl (f9.heldO hM (fun b hb => by simp at hb; have:=hX39.next; omega))).mono ?_)
  rintro w g10 ⟨X10,O10⟩
  replace X10:HX g9 (g10.withLock g9.lock):=X10.relock
  replace O10:=(O10.relock g9.lock).sl eP
  show ∀ a,Kn _ a → WO _ _ _ a (g10.withLock g9.lock) _
  generalize g10.withLock g9.lock = g10 at *
  have Z10:=Z9.trans X10
  refine WOL.cl2 rfl rfl rfl ((k66 H X O10 hE hl (f.on Z10)).mono ?_)
  rintro w g11 ⟨X11,w1,e1,rfl,Q11⟩
  have Z11:=Z10.trans X11
  have X911:=X10.trans X11
  refine WOL.mv rfl <| WOL.ex rfl rfl <| WOL.ex rfl rfl <| WOL.as rfl <| WOL.as rfl <| WOL.nil <| keep [(3,_),(4,_),(5,_),(7,_),(8,_),(9,_),(10,_),(11,_),(12,_)] ⟨rfl,rfl,rfl,rfl,rfl,rfl,rfl,rfl,rfl,trivial⟩ ?_
  have hX311:=hX39.trans X911
  refine WL.sr <| WOL.ld rfl (load_row tp1003 (A3.hx hX311) rfl (Nat.le_of_ble_eq_true rfl)) ?_
  refine WOL.fa rfl (fa_of fo1006_0) <| WOL.ld rfl (load_one tp1004 (A5.hx hX311) rfl) <| WOL.fa rfl (fa_of fo1006_1) <| WOL.ld rfl (load_one tp3 (A5.hx hX311) rfl) ?_
  refine WOL.lk1 rfl rfl fun M => ((k1014 H (p:=p) ⟨es,hes,rfl⟩).mono ?_)
  rintro w g12 ⟨rfl,X12⟩
  replace X12:HX g11 (g12.withLock g11.lock):=X12.relock
  show ∀ a,Kn _ a → WO _ _ _ a (g12.withLock g11.lock) _
  generalize g12.withLock g11.lock = g12 at *
  refine WOL.lk1 rfl rfl fun M => ((k1015 H (((s3.hx hX311).hx X12).relock M) hE hl).mono ?_)
  rintro w g13 ⟨rfl,X13⟩
  replace X13:HX g12 (g13.withLock g12.lock):=X13.relock
  show ∀ a,Kn _ a → WO _ _ _ a (g13.withLock g12.lock) _
  generalize g13.withLock g12.lock = g13 at *
  refine WOL.cl3 rfl rfl rfl rfl ((k14 H src 0 255 _).mono ?_)
  rintro w g ⟨rfl,e⟩
  replace e:=e.symm
  subst e
  refine WOL.bsl rfl u29 tp3 (by decide) (by decide) (by decide) (cs:=[_,_].map (.int .i64)) rfl fun g14 N14 => ?_
  refine WOL.cl1 rfl rfl ((k13 H (l:=[_,_]) N14.at_.get (by simp)).mono ?_)
  rintro w g ⟨rfl,e⟩
  replace e:=e.symm
  subst e
  have X1114:=(X12.trans X13).trans N14.hx
  have Z14:=Z11.trans X1114
  refine WOL.as rfl <| WOL.as rfl <| WOL.nil <| keep [(3,_),(4,_),(5,_),(7,_),(8,_),(9,_),(10,_),(11,_),(12,_),(13,_),(14,_)] ⟨rfl,rfl,rfl,rfl,rfl,rfl,rfl,rfl,rfl,rfl,rfl,trivial⟩ ?_
  have X914:=X911.trans X1114
  refine WL.sr <| WOL.al tp106 fun g15 N15 => WOL.nil <| keep [(3,_),(4,_),(5,_),(7,_),(8,_),(9,_),(10,_),(11,_),(12,_),(13,_),(14,_),(15,_)] ⟨rfl,rfl,rfl,rfl,rfl,rfl,rfl,rfl,rfl,rfl,rfl,rfl,trivial⟩ ?_
  have n15:=N15.next
  have X915:=X914.trans N15.hx
  have Z15:=Z14.trans N15.hx
  refine WL.sr <| WOL.as rfl <| WOL.nil <| keep [(3,_),(4,_),(5,_),(7,_),(8,_),(9,_),(10,_),(11,_),(12,_),(13,_),(14,_),(15,_),(16,_)] ⟨rfl,rfl,rfl,rfl,rfl,rfl,rfl,rfl,rfl,rfl,rfl,rfl,rfl,trivial⟩ ?_
  obtain ⟨pe,hpe⟩:∃ e,pakE p.1 p.2.1 es = e:=⟨_,rfl⟩
  obtain ⟨le,hle⟩:∃ e,lostE l.length E src = e:=⟨_,rfl⟩
  rw [hpe] at B7 ⊢
  show ∀ a,Kn [(3,_),(4,_),(5,_),(7,_),(8,_),(9,_),(10,_),(11,_),(12,_),(13,_),(14,zi (lostE l.length E src)),(15,_),(16,_)] a → _
  rw [hle]
  refine WL.seq <| WL.mono (Q':=fun x a g => x = .normal ∧ HX g9 g ∧ HX h g ∧ HX g11 g ∧ HX h3 g ∧ At g g14.next (.cells (cat encY (frE p pe)) true true 85) ∧ Kn [(3,ptr h.next),(4,ptr h1.next),(5,ptr h2.next),(7,ptr g4.next),(8,zi pe),(9,ptr g7.next),(10,zi (decF raw rs)),(11,w1),(12,zi e1),(13,zi pe),(14,zi le),(15,ptr g14.next),(16,.slice none 0 0)] a) ?_ ?_
  · refine WL.sr <| WOL.mv rfl <| WOL.bi (v:=.bool (pe == 0)) rfl rfl rfl <| WOL.nil ?_
    cases h0:pe == 0 with
    | false =>
      refine WL.no rfl <| WL.skip ?_
      refine fun a q => ⟨rfl,X915,Z15,X1114.trans N15.hx,hX39.trans X915,?_,q.sub ⟨rfl,rfl,rfl,rfl,rfl,rfl,rfl,rfl,rfl,rfl,rfl,rfl,rfl,trivial⟩⟩
      have:(pe != 0) = true:=by rw [bne,h0]; rfl
      unfold frE
      rw [this]
      exact N15.at_
    | true =>
      have hp0:pe = 0:=by simpa using h0
      have z:=firstNZ_zero (hpe.trans hp0)
      have z1:=outB_in (z (outB p.1 0 255) (by simp))
      have z2:=outB_in (z (outB p.2.1 0 65535) (by simp))
      have el:((encP p).drop 0).take 5 = [zi (p.1.toNat:Nat),zi (p.2.1.toNat:Nat),.float .f32 p.2.2.1,.float .f32 p.2.2.2.1,.float .f32 p.2.2.2.2]:=by rw [Int.toNat_of_nonneg z1.1,Int.toNat_of_nonneg z2.1]; rfl
      refine WL.yes rfl <| WL.reg <| WOL.ld rfl (load_row tp1003 (A3.hx (hX39.trans X915)) el (Nat.le_of_ble_eq_true rfl)) ?_
      refine WOL.cl1 rfl rfl ((k1016 H Y (s:=p.1.toNat) (c:=p.2.1.toNat) (by omega) (by omega) hx hy hz (f.on Z15)).mono ?_)
      rintro w g16 ⟨rfl,X16⟩
      have Z16:=Z15.trans X16
      refine WOL.sto (vs:=cat encY (frameB p.1.toNat p.2.1.toNat p.2.2.1 p.2.2.2.1 p.2.2.2.2)) rfl rfl tp106 (N15.at_.hx X16) rfl (by rw [eY.cat_len,frameB_len]) (Nat.le_of_ble_eq_true rfl) (eY.all _) (f.hx Z16) (by have:=Z14.next; omega) fun g17 P17 => WOL.nil ?_
      have A17:=P17.at_
      rw [splice_all _ _ (by rw [eY.cat_len,frameB_len]; rfl)] at A17
      refine fun a q => ⟨rfl,P17.hx _ (X915.trans X16) (by have:=X914.next; omega),P17.hx _ Z16 (by have:=Z14.next; omega),P17.hx _ ((X1114.trans N15.hx).trans X16) (by have:=X1114.next; omega),P17.hx _ ((hX39.trans X915).trans X16) (by have:=(hX39.trans X914).next; omega),?_,q.sub ⟨rfl,rfl,rfl,rfl,rfl,rfl,rfl,rfl,rfl,rfl,rfl,rfl,rfl,trivial⟩⟩
      unfold frE
      rw [hp0]
      exact A17
  rintro x a g ⟨rfl,X9g,Zg,X11g,X3g,B15,q⟩
  refine q.go ?_
  refine WL.sr <| WOL.ld rfl (load_row tp106 (A4.hx X3g) (l:=cat encY raw) (by rw [List.drop_zero,List.take_of_length_le (by omega)]) (by omega)) ?_
  refine WOL.cl1 rfl rfl ((k1017 H Y hr hb hrs (f.on Zg)).mono ?_)
  rintro w g18 ⟨rfl,X18⟩
  rw [decR_eq]
  refine WOL.mv rfl <| WOL.ex rfl rfl <| WOL.ex rfl rfl <| WOL.al tp1003 fun g19 N19 => ?_
  have n19:=N19.next
  have Z19:=(Zg.trans X18).trans N19.hx
  have zn:h.next ≤ g18.next:=(Zg.trans X18).next
  refine WOL.sto (vs:=encP (deP raw (decF raw rs))) rfl rfl tp1003 N19.at_ rfl rfl (Nat.le_of_ble_eq_true rfl) rfl (f.hx Z19) zn fun g20 P20 => WOL.as rfl <| WOL.nil <| keep [(3,_),(4,_),(5,_),(7,_),(8,_),(9,_),(10,_),(11,_),(12,_),(13,_),(14,_),(15,_),(16,_),(17,_),(18,_)] ⟨rfl,rfl,rfl,rfl,rfl,rfl,rfl,rfl,rfl,rfl,rfl,rfl,rfl,rfl,rfl,trivial⟩ ?_
  have Z20:=P20.hx _ Z19 zn
  have Xg20:HX g g20:=P20.hx _ (X18.trans N19.hx) X18.next
  have B17:At g20 g18.next (.cells (encP (deP raw (decF raw rs))) true true 84):=P20.at_
  have B15':=B15.hx Xg20
  have s20:=(s3.hx X3g).hx Xg20
  refine WL.seq <| WL.mono (Q':=fun x a g' => x = .normal ∧ HX g20 g' ∧ HX h g' ∧ ∃ (w2:Value) (M:List Int),M.length ≤ 256 ∧ IsInts g' w1 M ∧ IsInts g' w2 M ∧ Kn [(7,ptr g4.next),(8,zi pe),(9,ptr g7.next),(10,zi (decF raw rs)),(11,w1),(12,zi e1),(13,zi pe),(14,zi e1),(15,ptr g14.next),(16,w2),(17,ptr g18.next),(18,zi (decF raw rs))] a) ?_ ?_
  · refine WL.sr <| WOL.mv rfl <| WOL.bi (v:=.bool (le == 0)) rfl rfl rfl <| WOL.nil ?_
    cases h0:le == 0 with
    | false =>
      have h0':le ≠ 0:=by simpa using h0
      rcases Q11 with ⟨_,hw,he⟩ | ⟨q1,_⟩
      · rw [hle] at he
        subst hw he
        refine WL.no rfl <| WL.skip ?_
        exact fun a q => ⟨rfl,HX.refl _,Z20,.slice none 0 0,[],by decide,.inl ⟨rfl,rfl⟩,.inl ⟨rfl,rfl⟩,q.sub ⟨rfl,rfl,rfl,rfl,rfl,rfl,rfl,rfl,rfl,rfl,rfl,rfl,trivial⟩⟩
      · exact absurd (hle.symm.trans q1) h0'
    | true =>
      have h0':le = 0:=by simpa using h0
      rcases Q11 with ⟨q1,_⟩ | ⟨q1,qa⟩
      · exact absurd (hle.trans h0') q1
      have hc:=firstNZ_zero q1 (chkE l.length E) (by simp)
      have hz:firstNZ E = 0:=by
        unfold chkE at hc
        cases hd:decide ((l.length:Int) > 1024)
        · rw [hd] at hc; exact hc
        · rw [hd] at hc; cases hc
      have hk:CntOk l:=fun p hp => by have:=perr_ok hE hz p hp; exact ⟨this.2.1,this.2.2.1⟩
      have A5':=(A5.hx X3g).hx Xg20
      refine WL.yes rfl <| WL.reg <| WOL.fa rfl (fa_of fo1006_0) <| WOL.ld rfl (load_one tp1004 A5' rfl) <| WOL.fa rfl (fa_of fo1006_1) <| WOL.ld rfl (load_one tp3 A5' rfl) ?_
      refine WOL.cl2 rfl rfl rfl ((k1018 H s20 hl hk (f.on Z20)).mono ?_)
      rintro w g21 ⟨X21,w2,e2,rfl,qb⟩
      obtain ⟨rfl,M,hM,i1,i2⟩:=lostA_alike (qa.hx ((X11g.trans Xg20).trans X21)) qb
      refine WOL.mv rfl <| WOL.ex rfl rfl <| WOL.ex rfl rfl <| WOL.as rfl <| WOL.as rfl <| WOL.nil ?_
      exact fun a q => ⟨rfl,X21,Z20.trans X21,w2,M,hM,i1,i2,q.sub ⟨rfl,rfl,rfl,rfl,rfl,rfl,rfl,rfl,rfl,rfl,rfl,rfl,trivial⟩⟩
  rintro x a g22 ⟨rfl,X22,Z22,w2,M,hM,i1,i2,q⟩
  refine q.go ?_
  have C7:=B7.hx ((X9g.trans Xg20).trans X22)
  have C15:=B15'.hx X22
  have C9:=B9.hx ((X9g.trans Xg20).trans X22)
  have C17:=B17.hx X22
  have lf:(cat encY (frE p pe)).length = 20:=by rw [eY.cat_len,frE_len]
  refine WL.sr <| WOL.ld rfl (load_row tp106 C7 (l:=cat encY (frE p pe)) (by rw [List.drop_zero,List.take_of_length_le (by omega)]) (by omega)) ?_
  refine WOL.ld rfl (load_row tp106 C15 (l:=cat encY (frE p pe)) (by rw [List.drop_zero,List.take_of_length_le (by omega)]) (by omega)) ?_
  refine WOL.eq106 frE_len rfl rfl <| WOL.mv rfl ?_
  refine WOL.now (b:=true) rfl rfl <| WOL.mv rfl <| WOL.now (b:=true) rfl rfl <| WOL.mv rfl <| WOL.now (b:=true) rfl rfl ?_
  refine WOL.bi (v:=.bool true) rfl rfl (by show some (Value.bool (pe == pe)) = _; rw [beq_self_eq_true]) <| WOL.pkt rfl rfl <| WOL.mv rfl ?_
  refine WOL.now (b:=true) rfl rfl <| WOL.ld rfl (load_row tp111 C9 rfl (Nat.le_of_ble_eq_true rfl)) ?_
  refine WOL.now (b:=true) rfl rfl <| WOL.ld rfl (load_row tp1003 C17 rfl (Nat.le_of_ble_eq_true rfl)) ?_
  refine WOL.now (b:=true) rfl rfl <| WOL.eq1003 (p:=deP raw (decF raw rs)) (deP_good hrs) rfl rfl <| WOL.pkt rfl rfl <| WOL.mv rfl ?_
  refine WOL.now (b:=true) rfl rfl <| WOL.mv rfl <| WOL.now (b:=true) rfl rfl <| WOL.mv rfl <| WOL.now (b:=true) rfl rfl ?_
  refine WOL.bi (v:=.bool true) rfl rfl (by show some (Value.bool (decF raw rs == decF raw rs)) = _; rw [beq_self_eq_true]) <| WOL.pkt rfl rfl <| WOL.mv rfl ?_
  refine WOL.now (b:=true) rfl rfl <| WOL.mv rfl <| WOL.now (b:=true) rfl rfl <| WOL.mv rfl <| WOL.now (b:=true) rfl rfl ?_
  refine WOL.cl2 rfl rfl rfl ((k18 H i1 i2 (by omega)).mono ?_)
  rintro w g ⟨rfl,e⟩
  replace e:=e.symm
  subst e
  rw [decide_eq_true rfl]
  refine WOL.pkt rfl rfl <| WOL.mv rfl ?_
  refine WOL.now (b:=true) rfl rfl <| WOL.mv rfl <| WOL.now (b:=true) rfl rfl <| WOL.mv rfl <| WOL.now (b:=true) rfl rfl ?_
  refine WOL.bi (v:=.bool true) rfl rfl (by show some (Value.bool (e1 == e1)) = _; rw [beq_self_eq_true]) <| WOL.pkt rfl rfl <| WOL.mv rfl ?_
  refine WOL.now (b:=true) rfl rfl <| WOL.cl0 rfl ((k11 A _).mono ?_)
  rintro w g ⟨rfl,e⟩
  replace e:=e.symm
  subst e
  refine WOL.pkt rfl rfl <| WOL.as rfl <| WOL.nil ?_
  exact WL.ret (WL.end_ rfl ⟨rfl,Z22⟩)
end
end Go.Tidy
namespace Go.Tidy
open Go Go.Proofs Tab
attribute [local irreducible] Ty valOf
theorem hasYE:HasY tpE:=⟨by kernel_rfl,by kernel_rfl,by kernel_rfl,by kernel_rfl⟩
section
variable {h:TH} {n:Nat} {ps:List Value}
theorem f32_in {b:Nat} (h:(Lit.float .f32 b).wf = true):b < 4294967296:=by
 have:decide (b < 2 ^ 32) = true:=h
 exact of_decide_eq_true this
theorem u8_nat {z:Int} (h:(Lit.int .u8 z).wf = true):∃ b:Nat,z = (b:Int) ∧ b < 256:=by
 have h:(decide (0 ≤ z) && decide (z ≤ 255)) = true:=h
 rw [Bool.and_eq_true] at h
 have h1:=of_decide_eq_true h.1
 have h2:=of_decide_eq_true h.2
 exact ⟨z.toNat,by omega,by omega⟩
abbrev B8:={b:Nat // b < 256}
theorem bytes_of:∀ l:List B8,Byt (l.map (·.1)) ∧ cat (fun b:B8 => encY b.1) l = cat encY (l.map (·.1))
  | [] => ⟨fun _ h => (by cases h),rfl⟩
  | x :: l => by
    obtain ⟨h1,h2⟩:=bytes_of l
    refine ⟨fun b hb => ?_,?_⟩
    · rcases List.mem_cons.1 hb with rfl | hb
      · exact x.2
      · exact h1 b hb
    · show encY x.1 ++ cat (fun b:B8 => encY b.1) l = encY x.1 ++ cat encY (l.map (·.1))
      rw [h2]
theorem ty_byte (y:Ty Tryz.prog h (n + 1) 5 ps):∃ b:B8,ps = encY b.1:=by
 obtain ⟨z,rfl,hz⟩:=tyg_int Tryz.underlying5 y
 obtain ⟨b,rfl,hb⟩:=u8_nat hz
 exact ⟨⟨b,hb⟩,rfl⟩
theorem ty_pkt (y:Ty Tryz.prog h (n + 3) 84 ps):∃ p:Pkt,ps = encP p ∧ p.2.2.1 < 4294967296 ∧ p.2.2.2.1 < 4294967296 ∧ p.2.2.2.2 < 4294967296:=by
 obtain ⟨p,q,rfl,_,y1,p',q',rfl,_,y2,p2,q2,rfl,_,y3,rfl⟩:=tyg_struct Tryz.underlying84 y
 obtain ⟨a,rfl,_⟩:=ty_int y1
 obtain ⟨b,rfl,_⟩:=ty_int y2
 obtain ⟨p3,q3,rfl,_,f1,p4,q4,rfl,_,f2,p5,q5,rfl,_,f3,rfl⟩:=tyg_array Tryz.underlying82 y3
 obtain ⟨w1,rfl,l1⟩:=ty_float f1
 obtain ⟨w2,rfl,l2⟩:=ty_float f2
 obtain ⟨w3,rfl,l3⟩:=ty_float f3
 exact ⟨(a,b,w1,w2,w3),rfl,f32_in l1,f32_in l2,f32_in l3⟩
theorem ty_raw20 (y:Ty Tryz.prog h (n + 2) 85 ps):∃ raw:List Nat,raw.length = 20 ∧ Byt raw ∧ ps = cat encY raw:=by
 obtain ⟨l,hl,rfl⟩:=row_cat (enc:=fun b:B8 => encY b.1) (fun p y => ty_byte y) 20 _ (tyg_array u106 y)
 obtain ⟨h1,h2⟩:=bytes_of l
 exact ⟨l.map (·.1),by rw [List.length_map]; exact hl,h1,h2⟩
theorem ty_pkts (y:Ty Tryz.prog h (n + 4) 86 ps):∃ v l,ps = [v] ∧ SlL encP 5 h v l:=by
 obtain ⟨v,l,e,s,_⟩:=tyg_slice eP u1004 (fun p y => by obtain ⟨x,e,_⟩:=ty_pkt y; exact ⟨x,e⟩) y
 exact ⟨v,l,e,s⟩
end
set_option maxRecDepth 100000 in
theorem law1006:Law tpE 7 5 [84,85,88]:=by
 intro h us f ha
 match us,ha with
 | [x0,x1,x2],⟨⟨p0,y0,e0⟩,⟨p1,y1,e1⟩,⟨p2,y2,e2⟩,_⟩ =>
  obtain ⟨p,rfl,b1,b2,b3⟩:=ty_pkt y0
  rw [val_agg (.inl ⟨_,u1003⟩)] at e0
  obtain ⟨raw,hr,hb,rfl⟩:=ty_raw20 y1
  rw [val_agg (.inr ⟨_,_,u106⟩)] at e1
  obtain ⟨q1,q2,rfl,_,z1,q3,q4,rfl,_,z2,rfl⟩:=tyg_struct Tryz.underlying88 y2
  obtain ⟨v,l,rfl,s⟩:=ty_pkts z1
  obtain ⟨src,rfl,_⟩:=ty_int z2
  rw [val_agg (.inl ⟨_,Tryz.underlying88⟩)] at e2
  subst e0 e1 e2
  exact (k1006 hasE hasXE hasYE awkE s hr hb b1 b2 b3 f).mono fun _ _ h => h.1
end Go.Tidy
