/- A part of the proof. -/
import Derived.Test.YtjibbhaeaikhpaaGreatDoorPa6
import Derived.Test.YtjibbhaeaikhpaaGreatDoorPa2
import Derived.Test.YtjibbhaeaikhpaaGreatDoorPa5
set_option linter.all false
namespace Go.Tidy
open Go Go.Proofs Tab
variable {tp:TProg}
theorem WOL.idx {P:Program} {h:TH} {K:Regs → TH → Prop} {rest:List TOper} {d:Option Tmp} {ty:TypeId} {i:Nat} {x y:Operand} {t:TypeId} {L:Rg} {cs:Array Value} {k:IntKind} {z:Int} {v:Value} (hx:getL L x = some (.agg cs)) (hy:getL L y = some (.int k z)) (hv:indexT P t (.agg cs) (.int k z) = some v) (w:∀ a,Kn (putL L d v) a → WO P tp rest a h K):∀ a,Kn L a → WO P tp (⟨d,.index t x y,ty,none,[],i⟩ :: rest) a h K:=fun a q => by
 have ex:=getO_eval (q.o hx)
 have ey:=getO_eval (q.o hy)
 exact WO.op (h1:=h) rfl rfl (fun call => by simp [stepOp,heapFirst,fastOp,valueOp,ex,ey,hv]) (w _ (q.put d _))
def Tail3 (s:Nat → ByteArray) (n:Nat → Int) (F:Nat → List Nat) (S:Nat → List (Int × Int)) (es L:Nat → List Int):Prop:=∀ k,2 ≤ k → s k = s 2 ∧ n k = n 2 ∧ F k = F 2 ∧ S k = S 2 ∧ es k = es 2 ∧ L k = L 2
section
variable {s:Nat → ByteArray} {n:Nat → Int} {v1 v2:Nat → Value} {F:Nat → List Nat} {S:Nat → List (Int × Int)} {es L:Nat → List Int} {h:TH} {lb:Nat} {el:Int}
theorem Tail3.some (t:Tail3 s n F S es L):∀ k,∃ j,j < 3 ∧ s k = s j ∧ n k = n j ∧ F k = F j ∧ S k = S j ∧ es k = es j ∧ L k = L j:=by
 intro k
 by_cases h0:k = 0
 ·subst h0; exact ⟨0,by decide,rfl,rfl,rfl,rfl,rfl,rfl⟩
 ·by_cases h1:k = 1
  ·subst h1; exact ⟨1,by decide,rfl,rfl,rfl,rfl,rfl,rfl⟩
  ·exact ⟨2,by decide,t k (by omega)⟩
end
end Go.Tidy
namespace Go.Tidy
open Go Go.Proofs Tab
variable {tp:TProg}
def optL (L:Rg):Option Operand → Option (Option Value)
 | none => some none
 | some x => (getL L x).map some
theorem optL_o {L:Rg} {a:Regs} (k:Kn L a) {x:Option Operand} {v:Option Value} (h:optL L x = some v):x.map a.eval = v:=by
 cases x with
 | none => cases h; rfl
 | some x =>
  simp only [optL,Option.map_eq_some_iff] at h
  obtain ⟨w,h1,rfl⟩:=h
  show some (a.eval x) = some w
  rw [getO_eval (k.o h1)]
section
variable {P:Program} {h:TH} {K:Regs → TH → Prop} {rest:List TOper} {d:Option Tmp} {ty:TypeId} {i:Nat} {x y:Operand} {t u e:TypeId} {L:Rg} {v vx:Value}
theorem WOL.slG {lo hi:Option Operand} {vlo vhi:Option Value} (hx:getL L x = some vx) (hp:plain vx = false) (hl:optL L lo = some vlo) (hh:optL L hi = some vhi) (hv:sliceT P t vx vlo vhi none h = some v) (w:∀ a,Kn (putL L d v) a → WO P tp rest a h K):∀ a,Kn L a → WO P tp (⟨d,.slice t x lo hi none,ty,none,[],i⟩ :: rest) a h K:=fun a k => by
 have e1:=getO_eval (k.o hx)
 have e2:=optL_o k hl
 have e3:=optL_o k hh
 refine WO.op (h1:=h) rfl rfl (fun call => ?_) (w _ (k.put d _))
 have hq:plainOp P ⟨d,.slice t x lo hi none,ty,none,[],i⟩ a.eval = none:=by
  unfold plainOp
  simp [plainly,Op.operands,e1,hp]
 simp only [stepOp,heapFirst,fastOp,valueOp,hq,heapOp,e1,e2,e3,Option.map_none,hv,Bool.cond_false]
 rfl
theorem sliceA {b off n l hh m:Nat} {z:List Value} {row:Bool} {cc:List Value} {wr:Bool} {el:TypeId} {lo hi:Option Value} (hu:P.underlying t = some (.array n e)) (he:Tp P e 1 z row) (hg:At h b (.cells cc true wr el)) (hc:cut3 n n lo hi none = some (l,hh,m)):sliceT P t (.pointer (some ⟨b,off,none⟩)) lo hi none h = some (.slice (some ⟨b,off + l,none⟩) (hh - l) (m - l)):=by
 obtain ⟨inf,q1,q2,_⟩:=he.i
 simp only [sliceT,hu,hc,Option.bind_some,q1,hg.get,q2,Nat.mul_one]
end
theorem u109:Tryz.prog.underlying 82 = some (.array 3 25):=by kernel_rfl
theorem fo111_0:fieldOff Tryz.prog 92 0 = some 0:=by kernel_rfl
theorem fo111_1:fieldOff Tryz.prog 92 1 = some 1:=by kernel_rfl
theorem fo111_2:fieldOff Tryz.prog 92 2 = some 2:=by kernel_rfl
theorem tp111:Tp Tryz.prog 92 5 [.int .i64 0,.int .i64 0,.float .f32 0,.float .f32 0,.float .f32 0] true:=tp_of (by kernel_rfl) (by kernel_rfl) rfl
theorem tp109:Tp Tryz.prog 82 3 [.float .f32 0,.float .f32 0,.float .f32 0] true:=tp_of (by kernel_rfl) (by kernel_rfl) rfl
def pak (s c:Int) (x y z:Nat):Value:=.agg #[zi s,zi c,.float .f32 x,.float .f32 y,.float .f32 z]
def pakE (s c:Int) (es:List Int):Int:=firstNZ [outB s 0 255,outB c 0 65535,firstNZ es]
section
variable {h:TH} {s c:Int} {x y z:Nat} {es:List Int}
theorem slR {b:Nat} {wr:Bool} {el:TypeId} (A:At h b (.cells [zi s,zi c,.float .f32 x,.float .f32 y,.float .f32 z] true wr el)):SlL encF 1 h (.slice (some ⟨b,2,none⟩) 3 3) [x,y,z] :=
 ⟨_,3,rfl,Nat.le_refl _,rfl,.inr ⟨b,2,_,_,_,_,rfl,A,rfl,Nat.le_of_ble_eq_true rfl⟩⟩
theorem k116 (H:Has tp) (X:HasX tp) (hE:SErr [x,y,z] es):CallW Tryz.prog tp (.func (.func 127) #[] #[]) #[pak s c x y z] h fun v h' => v = zi (pakE s c es) ∧ HX h h':=by
 refine CallW.fnL (H.fn 127 f116 rfl rfl) ?_
 refine WL.sr <| WOL.box rfl fun h1 N1 => WOL.as rfl <| WOL.nil <| keep [(1,_)] ⟨rfl,trivial⟩ ?_
 have A1:At h1 h.next (.cells [zi s,zi c,.float .f32 x,.float .f32 y,.float .f32 z] true true 92):=N1.at_
 refine WL.sr <| WOL.fa rfl (fa_of fo111_0) <| WOL.ld rfl (load_one tp3 A1 rfl) <| WOL.fa rfl (fa_of fo111_1) <| WOL.ld rfl (load_one tp3 A1 rfl) <| WOL.fa rfl (fa_of fo111_2) ?_
 refine WOL.slG rfl rfl rfl rfl (sliceA u109 tp25 A1 rfl) ?_
 refine WOL.lk3 rfl rfl rfl rfl fun M => ((k72 H s 0 255 _).mono ?_)
 rintro v h2 ⟨rfl,rfl⟩
 refine WOL.lk3 rfl rfl rfl rfl fun M2 => ((k72 H c 0 65535 _).mono ?_)
 rintro v h3 ⟨rfl,rfl⟩
 refine WOL.cl1 rfl rfl ((k99 H X (slR A1) hE (by simp)).mono ?_)
 rintro v h4 ⟨rfl,rfl⟩
 refine WOL.bsl rfl u166 tp30 (by decide) (by decide) (by decide) (filled_ints3 _ _ _) fun h5 N5 => ?_
 refine WOL.cl1 rfl rfl ((k71 H (l:=[_,_,_]) N5.at_.get (by simp)).mono ?_)
 rintro v h6 ⟨rfl,rfl⟩
 refine WOL.as rfl <| WOL.nil ?_
 exact WL.done rfl ⟨rfl,N1.hx.trans N5.hx⟩
end
theorem u106:Tryz.prog.underlying 85 = some (.array 20 5):=by kernel_rfl
theorem tp106:Tp Tryz.prog 85 20 (List.replicate 20 (.int .u8 0)) true:=tp_of (by kernel_rfl) (by kernel_rfl) rfl
section
variable {P:Program} {h:TH} {K:Regs → TH → Prop} {rest:List TOper} {d:Option Tmp} {ty:TypeId} {i:Nat} {x:Operand} {t e:TypeId} {L:Rg}
theorem WOL.sap {q:Addr} {n m c:Nat} (hu:P.underlying t = some (.array n e)) (hn:0 < n) (hm:n ≤ m) (hx:getL L x = some (.slice (some q) m c)) (w:∀ a,Kn (putL L d (.pointer (some q))) a → WO P tp rest a h K):∀ a,Kn L a → WO P tp (⟨d,.sliceToArrayPointer t x,ty,none,[],i⟩ :: rest) a h K:=fun a k => by
 have e1:=getO_eval (k.o hx)
 refine WO.op (h1:=h) rfl rfl (fun call => ?_) (w _ (k.put d _))
 have hq:plainOp P ⟨d,.sliceToArrayPointer t x,ty,none,[],i⟩ a.eval = none:=by
  unfold plainOp
  simp [plainly,Op.operands,e1,plain,plain1,plain0]
 have ha:arrayAtT P t (.slice (some q) m c) = some (.pointer (some q)):=by
  simp only [arrayAtT,hu]
  rw [ble_yes hm,show Nat.blt 0 n = true by rw [Nat.blt_eq]; exact hn]
  rfl
 simp only [stepOp,heapFirst,fastOp,valueOp,hq,heapOp,e1,ha,Bool.cond_false]
end
def wd (x y z:Nat):Nat → Nat | 0 => x | 1 => y | _ => z
def bodyK (s c x y z:Nat) (k:Nat):List Nat:=[90,s] ++ bytesN c 2 ++ (List.range k).flatMap fun i => bytesN (wordF (wd x y z i)) 4
def bodyB (s c x y z:Nat):List Nat:=bodyK s c x y z 3
def frameB (s c x y z:Nat):List Nat:=bodyB s c x y z ++ bytesN (tot (bodyB s c x y z)).toNat 4
theorem bytesN_len {n k:Nat}:(bytesN n k).length = k:=by simp [bytesN]
theorem bytesN_byt {n k:Nat}:Byt (bytesN n k):=fun b hb => by
 unfold bytesN at hb
 obtain ⟨i,_,rfl⟩:=List.mem_map.1 hb
 exact Nat.mod_lt _ (by decide)
theorem bodyK_len {s c x y z:Nat}:∀ k,(bodyK s c x y z k).length = 4 + 4 * k:=by
 intro k
 have:∀ k,((List.range k).flatMap fun i => bytesN (wordF (wd x y z i)) 4).length = 4 * k:=by
  intro k
  induction k with
  | zero => rfl
  | succ k ih => rw [List.range_succ,List.flatMap_append,List.length_append,ih]; simp [bytesN_len]; omega
 unfold bodyK
 rw [List.length_append,List.length_append,this,bytesN_len]
 rfl
theorem bodyK_byt {s c x y z:Nat} (hs:s < 256):∀ k,Byt (bodyK s c x y z k):=by
 intro k b hb
 unfold bodyK at hb
 rw [List.mem_append,List.mem_append] at hb
 rcases hb with (hb | hb) | hb
 ·simp at hb; rcases hb with rfl | rfl <;> omega
 ·exact bytesN_byt b hb
 ·obtain ⟨i,_,hb⟩:=List.mem_flatMap.1 hb
  exact bytesN_byt b hb
theorem frameB_len {s c x y z:Nat}:(frameB s c x y z).length = 20:=by
 unfold frameB bodyB
 rw [List.length_append,bodyK_len,bytesN_len]
theorem idx109 {x y z k:Nat} (hk:k < 3):indexT Tryz.prog 82 (.agg #[.float .f32 x,.float .f32 y,.float .f32 z]) (zi (k:Nat)) = some (.float .f32 (wd x y z k)):=by
 have e0:indexT Tryz.prog 82 (.agg #[.float .f32 x,.float .f32 y,.float .f32 z]) (zi 0) = some (.float .f32 x):=by kernel_rfl
 have e1:indexT Tryz.prog 82 (.agg #[.float .f32 x,.float .f32 y,.float .f32 z]) (zi 1) = some (.float .f32 y):=by kernel_rfl
 have e2:indexT Tryz.prog 82 (.agg #[.float .f32 x,.float .f32 y,.float .f32 z]) (zi 2) = some (.float .f32 z):=by kernel_rfl
 obtain rfl | rfl | rfl:k = 0 ∨ k = 1 ∨ k = 2:=by omega
 ·exact e0
 ·exact e1
 ·exact e2
theorem OwnF.at_ {α:Type} {enc:α → List Value} {n0:Nat} {h:TH} {v:Value} {e:TypeId} {l:List α} (o:OwnF enc n0 h v e l) (hl:l ≠ []):∃ b fix,v = .slice (some ⟨b,0,none⟩) l.length l.length ∧ At h b (.cells (cat enc l) fix true e):=by
 rcases o with (⟨_,rfl⟩ | ⟨_,b,rfl,_,h3⟩) | ⟨b,rfl,_,h3⟩
 ·exact absurd rfl hl
 ·exact ⟨b,_,rfl,h3⟩
 ·exact ⟨b,_,rfl,h3⟩
section
variable {h:TH} {s c x y z:Nat}
set_option maxHeartbeats 2000000 in
set_option maxRecDepth 10000 in
theorem k117 (H:Has tp) (Y:HasY tp) (hs:s < 256) (hc:c < 65536) (hx:x < 4294967296) (hy:y < 4294967296) (hz:z < 4294967296) (f:Free0 h.next h) :
    CallW Tryz.prog tp (.func (.func 128) #[] #[]) #[pak s c x y z] h fun v h' => v = .agg (cat encY (frameB s c x y z)).toArray ∧ HX h h':=by
  have hw:∀ k,wd x y z k < 4294967296:=fun k => by unfold wd; split <;> assumption
  refine CallW.fnL (H.fn 128 f117 rfl rfl) ?_
  refine WL.sr <| WOL.box rfl fun h1 N1 => WOL.al tp106 fun h2 N2 => WOL.nil <| keep [(1,_),(2,_)] ⟨rfl,rfl,trivial⟩ ?_
  have A1:At h2 h.next (.cells [zi s,zi c,.float .f32 x,.float .f32 y,.float .f32 z] true true 92):=N1.at_.hx N2.hx
  have A2:=N2.at_
  have X2:=N1.hx.trans N2.hx
  have f2:=f.on X2
  refine WL.sr <| WOL.fa rfl (fa_of fo111_0) <| WOL.ld rfl (load_one tp3 A1 rfl) ?_
  refine WOL.cvw u3 u5 rfl ?_
  rw [u8_wrap,Int.emod_eq_of_lt (by omega) (by omega)]
  refine WOL.bsl rfl u116 tp5 (by decide) (by decide) (by decide) (cs:=cat encY [90,s]) rfl fun h3 N3 => ?_
  refine WOL.fa rfl (fa_of fo111_1) <| WOL.ld rfl (load_one tp3 (A1.hx N3.hx) rfl) ?_
  have O3:OwnF encY h2.next h3 (.slice (some ⟨h2.next,0,none⟩) 2 2) 5 [90,s]:=.inr ⟨_,rfl,Nat.le_refl _,N3.at_⟩
  refine WOL.cl3 rfl rfl rfl rfl ((k127 H (k:=2) O3 (by simp) (by decide) N3.hx (Nat.le_refl _) N3.hx.next f2).mono ?_)
  rintro w h4 ⟨X4,O4,n4⟩
  refine WOL.as rfl <| WOL.nil <| keep [(1,_),(2,_),(3,_)] ⟨rfl,rfl,rfl,trivial⟩ ?_
  refine WL.seq <| WL.sr <| WOL.fa rfl (fa_of fo111_2) ?_
  refine WOL.ld rfl (load_row tp109 (A1.hx X4) rfl (Nat.le_of_ble_eq_true rfl)) <| WOL.mv rfl <| WOL.nil <| keep [(1,_),(2,_),(3,_),(14,_),(15,_)] ⟨rfl,rfl,rfl,rfl,rfl,trivial⟩ ?_
  refine WL.block ?_
  have n3:=N3.hx.next
  refine WL.loop (fun q a g => ∃ (k:Nat) (w:Value),k ≤ 3 ∧ q = 3 - k ∧ HX h2 g ∧ OwnF encY h2.next g w 5 (bodyK s c x y z k) ∧ h2.next ≤ g.next ∧ Kn [(1,ptr h.next),(2,ptr h1.next),(3,w),(14,.agg #[.float .f32 x,.float .f32 y,.float .f32 z]),(15,zi (k:Nat))] a) 3 (fun a q => ⟨0,w,by omega,by omega,X4,by simpa [bodyK] using O4,by omega,q.sub ⟨rfl,rfl,rfl,rfl,rfl,trivial⟩⟩) ?_
  rintro q a g ⟨k,w,hk,rfl,X5,O5,n5,q⟩
  refine q.go ?_
  refine WL.sr <| WOL.bi (v:=.bool (decide ((k:Int) < 3))) rfl rfl rfl <| WOL.nil <| keep [(1,_),(2,_),(3,_),(14,_),(15,_),(16,_)] ⟨rfl,rfl,rfl,rfl,rfl,rfl,trivial⟩ ?_
  refine WL.seq ?_
  have lk:=bodyK_len (s:=s) (c:=c) (x:=x) (y:=y) (z:=z) k
  by_cases hk3:k < 3
  · rw [show decide ((k:Int) < 3) = true from decide_eq_true (by omega)]
    refine WL.yes rfl <| WL.skip ?_
    refine WL.seq <| WL.block ?_
    refine WL.sr <| WOL.idx rfl rfl (idx109 hk3) <| WOL.as rfl <| WOL.nil <| keep [(1,_),(2,_),(3,_),(5,_),(14,_),(15,_)] ⟨rfl,rfl,rfl,rfl,rfl,rfl,trivial⟩ ?_
    refine WL.reg <| WOL.mv rfl <| WOL.mv rfl ?_
    refine WOL.cl2 rfl rfl rfl ((k128 H Y (hw k) O5 (by omega) X5 (Nat.le_refl _) n5 f2).mono ?_)
    rintro w2 g2 ⟨X6,O6,n6⟩
    refine WOL.as rfl <| WOL.nil ?_
    refine WL.reg ?_
    refine WOL.bi (v:=zi ((k + 1:Nat):Int)) rfl rfl (by show some (Value.int .i64 (fwrap .i64 ((k:Int) + 1))) = _; rw [fwrap_i64 (by omega) (by omega)]; rfl) ?_
    refine WOL.mv rfl <| WOL.nil ?_
    exact fun a q => ⟨3 - (k + 1),by omega,k + 1,w2,by omega,rfl,X6,by
      have e:bodyK s c x y z (k + 1) = bodyK s c x y z k ++ bytesN (wordF (wd x y z k)) 4:=by
        unfold bodyK
        rw [List.range_succ,List.flatMap_append,← List.append_assoc]
        simp
      rw [e]; exact O6,by omega,q.sub ⟨rfl,rfl,rfl,rfl,rfl,trivial⟩⟩
  · rw [show decide ((k:Int) < 3) = false from decide_eq_false (by omega)]
    obtain rfl:k = 3:=by omega
    refine WL.no rfl <| WL.exit ?_
    have hb:=bodyK_byt (c:=c) (x:=x) (y:=y) (z:=z) hs 3
    obtain ⟨bo,ew⟩:=O5.form
    have sl:=O5.sl eY
    subst ew
    have ti:=tot_in (bodyK s c x y z 3) (bodyK s c x y z 3).length
    rw [List.take_length] at ti
    obtain ⟨T,hT⟩:∃ T:Nat,tot (bodyK s c x y z 3) = (T:Int):=⟨(tot (bodyK s c x y z 3)).toNat,by omega⟩
    refine WL.sr <| WOL.mv rfl <| WOL.mv rfl ?_
    refine WOL.cl1 rfl rfl ((k129 H sl hb (by omega) (f2.on X5)).mono ?_)
    rintro v g2 ⟨rfl,X6⟩
    have X7:=X5.trans X6
    rw [hT]
    refine WOL.cl3 rfl rfl rfl rfl ((k127 H (k:=4) (O5.hx X6) (by omega) (by decide) X7 (Nat.le_refl _) (by have:=X6.next; omega) f2).mono ?_)
    rintro w3 g3 ⟨X8,O8,n8⟩
    have e:bodyK s c x y z 3 ++ bytesN T 4 = frameB s c x y z:=by
      unfold frameB bodyB
      rw [hT,Int.toNat_natCast]
    rw [e] at O8
    have fl:=frameB_len (s:=s) (c:=c) (x:=x) (y:=y) (z:=z)
    obtain ⟨b,fix,rfl,B⟩:=O8.at_ (fun e => by rw [e] at fl; cases fl)
    have cl:(cat encY (frameB s c x y z)).length = 20:=by rw [eY.cat_len,fl]
    refine WOL.sap u106 (by decide) (by omega) rfl ?_
    refine WOL.ld rfl (load_row tp106 B (l:=cat encY (frameB s c x y z)) (by rw [List.drop_zero,List.take_of_length_le (by omega)]) (by omega)) ?_
    refine WOL.sto (vs:=cat encY (frameB s c x y z)) rfl rfl tp106 (A2.hx X8) rfl cl (Nat.le_of_ble_eq_true rfl) (eY.all _) (f.hx (X2.trans X8)) N1.hx.next fun g4 P4 => ?_
    have X9:=P4.hx _ (X2.trans X8) N1.hx.next
    have B4:=P4.at_
    rw [splice_all _ _ (by rw [cl]; rfl)] at B4
    refine WOL.nil ?_
    exact WL.ret (WL.endC rfl (load_row tp106 B4 (l:=cat encY (frameB s c x y z)) (by rw [List.drop_zero,List.take_of_length_le (by omega)]) (by omega)) ⟨rfl,X9⟩)
end
end Go.Tidy
namespace Go.Tidy
open Go Go.Proofs Tab
variable {tp:TProg}
theorem cat_Y (l:List Nat):cat encY l = l.map fun b => Value.int .u8 (b:Nat):=by
 unfold cat
 induction l with
 | nil => rfl
 | cons b l ih => rw [List.flatMap_cons,ih]; rfl
section
variable {P:Program}
theorem pv_part_at {t:TypeId} {k:IntKind} {xs:List Value} {i:Nat} {v:Value} (hu:P.underlying t = some (.int k)) (hv:xs[i]? = some v):pv P (Go.part t xs.toArray i) = some v:=by
 have e:pv P (isAgg t) = some false:=by unfold isAgg; simp [pv_bind,pv_underlying hu,pv_pure]
 unfold Go.part
 rw [pv_bind,e,Option.bind_some]
 simp only [Bool.false_eq_true,if_false,List.getElem?_toArray,hv]
 rfl
theorem pv_byte {d:Nat} {a b:Nat} (hu:P.underlying 5 = some (.int .u8)):pv P (Op.equalIn (d + 1) 5 (.int .u8 (a:Nat)) (.int .u8 (b:Nat))) = some (decide (a = b)):=by
 rw [Op.equalIn,pv_bind,pv_underlying hu,Option.bind_some]
 simp only [if_pos,pv_pure]
 congr 1
 by_cases h:a = b
 ·subst h; simp
 ·simp [h]; omega
theorem pv_bytes {l l':List Nat} {d:Nat} (hu:P.underlying 5 = some (.int .u8)) (hs:pv P (sizeOf 5) = some 1) (hl:l.length = l'.length)
    (hp:∀ (m:List Nat) i b,m[i]? = some b → pv P (Go.part 5 (m.map fun b => Value.int .u8 (b:Nat)).toArray i) = some (.int .u8 (b:Nat))):∀ m i,i + m = l.length →
    pv P (forIn (List.range' i m) ((none,()):Option Bool × Unit) fun i __s => do
            let __do_lift ← Go.part 5 (l.map fun b => Value.int .u8 (b:Nat)).toArray (i * 1)
            let __do_lift_1 ← Go.part 5 (l'.map fun b => Value.int .u8 (b:Nat)).toArray (i * 1)
            let __do_lift ← Op.equalIn (d + 1) 5 __do_lift __do_lift_1
            if (!__do_lift) = true then pure (ForInStep.done (some false,()))
              else pure (ForInStep.yield (none,()))) = some (if l.drop i = l'.drop i then (none,()) else (some false,()))
  | 0,i,h => by
    rw [List.drop_of_length_le (by omega),List.drop_of_length_le (by omega),if_pos rfl]
    rfl
  | m + 1,i,h => by
    have ih:=pv_bytes (d:=d) hu hs hl hp m (i + 1) (by omega)
    have h1:i < l.length:=by omega
    have h2:i < l'.length:=by omega
    have e1:l[i]? = some l[i]:=List.getElem?_eq_getElem h1
    have e2:l'[i]? = some l'[i]:=List.getElem?_eq_getElem h2
    rw [List.range'_succ,List.forIn_cons,pv_bind,pv_bind,Nat.mul_one,hp _ _ _ e1,Option.bind_some,pv_bind,hp _ _ _ e2,Option.bind_some,pv_bind,pv_byte hu,Option.bind_some]
    rw [List.drop_eq_getElem_cons h1,List.drop_eq_getElem_cons h2]
    by_cases hb:l[i] = l'[i]
    · rw [decide_eq_true hb]
      simp only [Bool.not_true,Bool.false_eq_true,if_false,pv_pure,Option.bind_some]
      rw [ih,hb]
      by_cases hd:l.drop (i + 1) = l'.drop (i + 1)
      · rw [if_pos hd,if_pos (by rw [hd])]
      · rw [if_neg hd,if_neg fun e => hd (List.cons.inj e).2]
    · rw [decide_eq_false hb]
      simp only [Bool.not_false,if_true,pv_pure,Option.bind_some]
      rw [if_neg fun e => hb (List.cons.inj e).1]
end
theorem pv_s5:pv Tryz.prog (sizeOf 5) = some 1:=by kernel_rfl
theorem pv_eq106 {l l':List Nat} (h1:l.length = 20) (h2:l'.length = 20):pv Tryz.prog (Op.equal 85 (.agg (cat encY l).toArray) (.agg (cat encY l').toArray)) = some (decide (l = l')):=by
 rw [cat_Y,cat_Y]
 show pv Tryz.prog (Op.equalIn (9998 + 1 + 1) 85 _ _) = _
 rw [Op.equalIn,pv_bind,pv_underlying u106,Option.bind_some]
 simp only [Std.Legacy.Range.forIn_eq_forIn_range',Std.Legacy.Range.size,pv_bind,pv_s5,Option.bind_some]
 have e:=pv_bytes (P:=Tryz.prog) (l:=l) (l':=l') (d:=9998) u5 pv_s5 (by omega) (fun m i b hb => pv_part_at u5 (by rw [List.getElem?_map,hb]; rfl)) 20 0 (by omega)
 rw [show (20 - 0 + 1 - 1) / 1 = 20 from rfl,e,Option.bind_some,List.drop_zero,List.drop_zero]
 by_cases h:l = l'
 ·rw [if_pos h,decide_eq_true h]; rfl
 ·rw [if_neg h,decide_eq_false h]; rfl
theorem WOL.ne106 {h:TH} {K:Regs → TH → Prop} {rest:List TOper} {d:Option Tmp} {ty:TypeId} {i:Nat} {x y:Operand} {u:TypeId} {L:Rg} {l l':List Nat} (h1:l.length = 20) (h2:l'.length = 20) (hx:getL L x = some (.agg (cat encY l).toArray)) (hy:getL L y = some (.agg (cat encY l').toArray))
    (w:∀ r,Kn (putL L d (.bool !decide (l = l'))) r → WO Tryz.prog tp rest r h K):∀ r,Kn L r → WO Tryz.prog tp (⟨d,.binOp .neq 85 x y u,ty,none,[],i⟩ :: rest) r h K:=by
  intro r k
  have ex:=getO_eval (k.o hx)
  have ey:=getO_eval (k.o hy)
  have px:∀ l:List Nat,plain (.agg (cat encY l).toArray) = true:=fun l => by
    rw [cat_Y]
    show ((l.map fun b => Value.int .u8 (b:Nat)).toArray.toList).all plain0 = true
    simp [plain0]
  refine WO.plainly rfl rfl rfl (by simp [fastOp,fastBin,ex,ey]) (by simp [valueOp,ex,ey,eqT_agg]) (plainOp_of (by rfl) (fun q hq => ?_) ?_ rfl) (w _ (k.put d _))
  · simp only [Op.operands] at hq
    simp at hq
    rcases hq with rfl | rfl
    · rw [ex]; exact px l
    · rw [ey]; exact px l'
  · show pv Tryz.prog (execOp r.eval ⟨d, .binOp .neq 85 x y u, ty, "", #[], none⟩) = _
    have hg:Tryz.prog.eqGuardType Tryz.prog.depth 85 = false:=by kernel_rfl
    simp [execOp,pv_bind,pv_map,pv_pure,pv_program,ex,ey,eqGuard,binOp,pv_eq106 h1 h2,hg]
end Go.Tidy
namespace Go.Tidy
open Go Go.Proofs Tab
variable {tp:TProg}
theorem lockOf_in:∀ (ls:List Operand) (a:Regs) (os:List (Option Nat)) (lk:List Nat),ls.map (fun x => (getO a x).map blockOf) = os.map some → ∀ l,l ∈ lockOf ls a.eval lk → some l ∈ os ∨ l ∈ lk
  | [],_,[],_,_,l,h => .inr h
  | [],_,_ :: _,_,e,_,_ => by simp at e
  | _ :: _,_,[],_,e,_,_ => by simp at e
  | x :: r,a,o :: os,lk,e,l,h => by
    simp only [List.map_cons,List.cons.injEq] at e
    obtain ⟨e1,e2⟩:=e
    rw [Option.map_eq_some_iff] at e1
    obtain ⟨v,e3,e4⟩:=e1
    unfold lockOf at h
    rw [getO_eval e3,e4] at h
    cases o with
    | none => exact (lockOf_in r a os lk e2 l h).imp (List.mem_cons_of_mem _) id
    | some b =>
      rcases List.mem_cons.1 h with rfl | h
      · exact .inl (List.mem_cons_self ..)
      · exact (lockOf_in r a os lk e2 l h).imp (List.mem_cons_of_mem _) id
theorem Free0.heldO {n:Nat} {M:List Nat} {h:TH} {os:List (Option Nat)} (f:Free0 n h) (hM:∀ l,l ∈ M → some l ∈ os ∨ l ∈ h.lock) (hb:∀ b,some b ∈ os → b < n):Free0 n (h.withLock M) :=
 ⟨f.floor,fun l hl => (hM l hl).elim (hb l) (f.lock l)⟩
section
variable {P:Program} {h:TH} {K:Regs → TH → Prop} {rest:List TOper} {d:Option Tmp} {ty:TypeId} {i:Nat} {L:Rg} {f x0 l0:Operand} {ls:List Operand} {fv v0:Value} {ts:Array TypeId}
theorem lockL_o {a:Regs} (k:Kn L a):∀ {l:List Operand} {os:List (Option Nat)},l.map (fun x => (getL L x).map blockOf) = os.map some → l.map (fun x => (getO a x).map blockOf) = os.map some
 | [],[],_ => rfl
 | [],_ :: _,e => by simp at e
 | _ :: _,[],e => by simp at e
 | x :: r,o :: os,e => by
  simp only [List.map_cons,List.cons.injEq] at e ⊢
  obtain ⟨e1,e2⟩:=e
  rw [Option.map_eq_some_iff] at e1
  obtain ⟨v,e3,e4⟩:=e1
  exact ⟨by rw [k.o e3]; exact congrArg some e4,lockL_o k e2⟩
theorem WOL.lr1 (os:List (Option Nat)) (hb:(l0 :: ls).map (fun x => (getL L x).map blockOf) = os.map some) (hf:getL L f = some fv) (h0:getL L x0 = some v0) (w:∀ M,(∀ l,l ∈ M → some l ∈ os ∨ l ∈ h.lock) → CallW P tp fv #[v0] (h.withLock M) fun v h1 => ∀ a,Kn (putL L d v) a → WO P tp rest a (h1.withLock h.lock) K):∀ a,Kn L a → WO P tp (⟨d,.call ⟨.value f,#[x0],ts⟩,ty,none,l0 :: ls,i⟩ :: rest) a h K :=
 fun a k => WO.cons_lock rfl rfl (StepW.call (by
  rw [getO_eval (k.o hf)]
  simpa [getO_eval (k.o h0)] using (w _ (lockOf_in _ a os h.lock (lockL_o k hb))).mono fun _ _ q => k.nx q))
end
theorem bd106z:buildT Tryz.prog 85 [] = some (.agg (cat encY (List.replicate 20 0)).toArray):=by kernel_rfl
section
variable {h:TH} {s c:Int} {x y z:Nat} {es:List Int}
def encV (s c:Int) (x y z:Nat) (es:List Int):Value:=cond (pakE s c es != 0) (.tuple #[.agg (cat encY (List.replicate 20 0)).toArray,zi (pakE s c es)]) (.tuple #[.agg (cat encY (frameB s.toNat c.toNat x y z)).toArray,zi 0])
set_option maxRecDepth 10000 in
theorem k65 (H:Has tp) (X:HasX tp) (Y:HasY tp) (hE:SErr [x,y,z] es) (hx:x < 4294967296) (hy:y < 4294967296) (hz:z < 4294967296) (f:Free0 h.next h):CallW Tryz.prog tp (.func (.func 56) #[] #[]) #[pak s c x y z] h fun v h' => v = encV s c x y z es ∧ HX h h':=by
 refine CallW.fnL (H.fn 56 f65 rfl rfl) ?_
 refine WL.sr <| WOL.box rfl fun h1 N1 => WOL.al tp106 fun h2 N2 => WOL.as rfl <| WOL.nil <| keep [(1,_),(2,_)] ⟨rfl,rfl,trivial⟩ ?_
 have A1:At h2 h.next (.cells [zi s,zi c,.float .f32 x,.float .f32 y,.float .f32 z] true true 92):=N1.at_.hx N2.hx
 have X2:=N1.hx.trans N2.hx
 refine WL.seq <| WL.sr <| WOL.ld rfl (load_row tp111 A1 rfl (Nat.le_of_ble_eq_true rfl)) ?_
 refine WOL.cl1 rfl rfl ((k116 H X hE (s:=s) (c:=c)).mono ?_)
 rintro v h3 ⟨rfl,X3⟩
 have Y3:=X2.trans X3
 refine WOL.as rfl <| WOL.nil <| keep [(1,_),(2,_),(4,_)] ⟨rfl,rfl,rfl,trivial⟩ ?_
 refine WL.sr <| WOL.mv rfl <| WOL.bi rfl rfl nzero <| WOL.nil <| keep [(1,_),(2,_),(4,_),(8,_)] ⟨rfl,rfl,rfl,rfl,trivial⟩ ?_
 rcases nz_cases (pakE s c es) with h0 | h0
 ·rw [h0]
  refine WL.no rfl <| WL.skip ?_
  have z0:=firstNZ_zero h0
  have z1:=outB_zero (z0 _ (List.mem_cons_self ..))
  have z2:=outB_zero (z0 _ (List.mem_cons_of_mem _ (List.mem_cons_self ..)))
  obtain ⟨s,rfl⟩:∃ n:Nat,s = (n:Int):=⟨s.toNat,by omega⟩
  obtain ⟨c,rfl⟩:∃ n:Nat,c = (n:Int):=⟨c.toNat,by omega⟩
  refine WL.sr <| WOL.ld rfl (load_row tp111 (A1.hx X3) rfl (Nat.le_of_ble_eq_true rfl)) ?_
  refine WOL.cl1 rfl rfl ((k117 H Y (by omega) (by omega) hx hy hz (f.on Y3)).mono ?_)
  rintro v h4 ⟨rfl,X4⟩
  have Y4:=Y3.trans X4
  have fl:=frameB_len (s:=s) (c:=c) (x:=x) (y:=y) (z:=z)
  have cl:(cat encY (frameB s c x y z)).length = 20:=by rw [eY.cat_len,fl]
  refine WOL.sto (vs:=cat encY (frameB s c x y z)) rfl rfl tp106 ((N2.at_.hx X3).hx X4) rfl cl (Nat.le_of_ble_eq_true rfl) (eY.all _) (f.hx Y4) N1.hx.next fun h5 P5 => ?_
  have B5:=P5.at_
  rw [splice_all _ _ (by rw [cl]; rfl)] at B5
  refine WOL.as rfl <| WOL.nil ?_
  refine WL.ret (WL.endC1 rfl rfl (load_row tp106 B5 (l:=cat encY (frameB s c x y z)) (by rw [List.drop_zero,List.take_of_length_le (by omega)]) (by omega)) ⟨?_,P5.hx _ Y4 N1.hx.next⟩)
  unfold encV
  rw [h0,Int.toNat_natCast,Int.toNat_natCast]
  rfl
 ·rw [h0]
  refine WL.yes rfl <| WL.sr ?_
  refine WOL.bd rfl bd106z <| WOL.mv rfl ?_
  refine WOL.sto (vs:=cat encY (List.replicate 20 0)) rfl rfl tp106 (N2.at_.hx X3) rfl rfl (Nat.le_of_ble_eq_true rfl) (eY.all _) (f.hx Y3) N1.hx.next fun h5 P5 => ?_
  refine WOL.as rfl <| WOL.nil ?_
  refine WL.ret (WL.endC1 rfl rfl (load_row tp106 P5.at_ rfl (Nat.le_of_ble_eq_true rfl)) ⟨?_,P5.hx _ Y3 N1.hx.next⟩)
  unfold encV
  rw [h0]
  rfl
end
end Go.Tidy
namespace Go.Tidy
open Go Go.Proofs Tab
variable {tp:TProg}
def srcB (l:List Nat):Nat:=l.getD 1 0
def cntB (l:List Nat):Nat:=numB ((l.drop 2).take 2)
def wrdB (l:List Nat) (i:Nat):Nat:=numB ((l.drop (4 + 4 * i)).take 4)
def decE (l:List Nat) (es:List Int):Int:=firstNZ [cond ((l.getD 0 0:Int) != 90) 1 0,cond (((numB (l.drop 16):Nat):Int) != tot (l.take 16)) 27 0,firstNZ es,cond (!decide (frameB (srcB l) (cntB l) (wrdB l 0) (wrdB l 1) (wrdB l 2) = l)) 1 0]
def decV (l:List Nat) (es:List Int):Value:=cond (decE l es != 0) (.tuple #[pak 0 0 0 0 0,zi (decE l es)]) (.tuple #[pak (srcB l) (cntB l) (wrdB l 0) (wrdB l 1) (wrdB l 2),zi 0])
theorem Byt.drop {l:List Nat} (h:Byt l) (k:Nat):Byt (l.drop k):=fun b hb => h b (List.mem_of_mem_drop hb)
theorem Byt.take {l:List Nat} (h:Byt l) (k:Nat):Byt (l.take k):=fun b hb => h b (List.mem_of_mem_take hb)
theorem numB_lt' {l:List Nat} {k:Nat} (h:Byt l) (hl:l.length ≤ k):numB l < 256 ^ k:=by
 have:=numB_lt h l.length (Nat.le_refl _)
 rw [List.take_length] at this
 exact Nat.lt_of_lt_of_le this (Nat.pow_le_pow_right (by decide) hl)
theorem wrdB_lt {l:List Nat} (h:Byt l) (i:Nat):wrdB l i < 4294967296:=numB_lt' (k:=4) ((h.drop _).take 4) (by rw [List.length_take]; omega)
theorem cntB_lt {l:List Nat} (h:Byt l):cntB l < 65536:=numB_lt' (k:=2) ((h.drop _).take 2) (by rw [List.length_take]; omega)
section
variable {h:TH} {l:List Nat} {b:Nat} {fix wr:Bool} {el:TypeId}
theorem slY {lo hi m:Nat} (A:At h b (.cells (cat encY l) fix wr el)) (h1:lo ≤ hi) (h2:hi ≤ l.length) (h3:hi ≤ m):SlL encY 1 h (.slice (some ⟨b,0 + lo,none⟩) (hi - lo) (m - lo)) ((l.drop lo).take (hi - lo)):=by
 have e:((l.drop lo).take (hi - lo)).length = hi - lo:=by rw [List.length_take,List.length_drop]; omega
 refine ⟨_,m - lo,by rw [e],by omega,by rw [eY.cat_len],.inr ⟨b,0 + lo,_,_,_,_,rfl,A,?_,?_⟩⟩
 ·rw [e,Nat.zero_add]
  have:=eY.part l lo (hi - lo)
  rw [Nat.mul_one,Nat.mul_one] at this
  rw [Nat.mul_one]
  exact this
 ·rw [e,eY.cat_len]; omega
end
theorem ix106_0 {c:Nat}:indexAddrT Tryz.prog 85 (.pointer (some ⟨c,0,none⟩)) (.int .i64 0) = some (.pointer (some ⟨c,0,none⟩)):=by kernel_rfl
theorem ix106_1 {c:Nat}:indexAddrT Tryz.prog 85 (.pointer (some ⟨c,0,none⟩)) (.int .i64 1) = some (.pointer (some ⟨c,1,none⟩)):=by kernel_rfl
theorem ix109 {c k:Nat} (hk:k < 3):indexAddrT Tryz.prog 82 (.pointer (some ⟨c,2,none⟩)) (zi (k:Nat)) = some (.pointer (some ⟨c,2 + k,none⟩)):=by
 have e0:indexAddrT Tryz.prog 82 (.pointer (some ⟨c,2,none⟩)) (zi 0) = some (.pointer (some ⟨c,2,none⟩)):=by kernel_rfl
 have e1:indexAddrT Tryz.prog 82 (.pointer (some ⟨c,2,none⟩)) (zi 1) = some (.pointer (some ⟨c,3,none⟩)):=by kernel_rfl
 have e2:indexAddrT Tryz.prog 82 (.pointer (some ⟨c,2,none⟩)) (zi 2) = some (.pointer (some ⟨c,4,none⟩)):=by kernel_rfl
 obtain rfl | rfl | rfl:k = 0 ∨ k = 1 ∨ k = 2:=by omega
 ·exact e0
 ·exact e1
 ·exact e2
theorem bd111 {a b:Int}:buildT Tryz.prog 92 [(0,.int .i64 a),(1,.int .i64 b)] = some (pak a b 0 0 0):=by kernel_rfl
theorem bd111z:buildT Tryz.prog 92 [] = some (pak 0 0 0 0 0):=by kernel_rfl
theorem cut_at {k:Nat} (hk:k < 3):cut3 20 20 (some (zi ((4 + 4 * k:Nat):Int))) (some (zi ((8 + 4 * k:Nat):Int))) none = some (4 + 4 * k,8 + 4 * k,20):=by
 obtain rfl | rfl | rfl:k = 0 ∨ k = 1 ∨ k = 2:=by omega
 ·rfl
 ·rfl
 ·rfl
def pr (w:Nat → Nat) (k i:Nat):Nat:=cond (Nat.blt i k) (w i) 0
def pakC (s c:Int) (w:Nat → Nat) (k:Nat):List Value:=[zi s,zi c,.float .f32 (pr w k 0),.float .f32 (pr w k 1),.float .f32 (pr w k 2)]
theorem pakC_next {s c:Int} {w:Nat → Nat} {k:Nat} (hk:k < 3):splice (pakC s c w k) (2 + k) [.float .f32 (w k)] = pakC s c w (k + 1):=by
 obtain rfl | rfl | rfl:k = 0 ∨ k = 1 ∨ k = 2:=by omega
 ·rfl
 ·rfl
 ·rfl
section
variable {h:TH} {l:List Nat} {es:List Int}
set_option maxHeartbeats 4000000 in
set_option maxRecDepth 10000 in
theorem k153 (H:Has tp) (X:HasX tp) (Y:HasY tp) (hl:l.length = 20) (hb:Byt l) (hE:SErr [wrdB l 0,wrdB l 1,wrdB l 2] es) (f:Free0 h.next h):CallW Tryz.prog tp (.func (.func 57) #[] #[]) #[.agg (cat encY l).toArray] h fun v h' => v = decV l es ∧ HX h h':=by
 refine CallW.fnL (H.fn 57 f153 rfl rfl) ?_
 have cl:(cat encY l).length = 20:=by rw [eY.cat_len,hl]
 refine WL.sr <| WOL.box rfl fun h1 N1 => WOL.al tp111 fun h2 N2 => WOL.as rfl <| WOL.nil <| keep [(1,_),(2,_)] ⟨rfl,rfl,trivial⟩ ?_
 have A1:At h2 h.next (.cells (cat encY l) true true 85):=N1.at_.hx N2.hx
 have X2:=N1.hx.trans N2.hx
 have n1:=N1.next
 have n2:=N2.next
 have b0:=hb.at 0
 have b1:=hb.at 1
 have cg:∀ j,j < 20 → (cat encY l)[j]? = some (.int .u8 (l.getD j 0:Nat)):=fun j hj => by
  rw [cat_Y,List.getElem?_map,List.getD_eq_getElem?_getD,List.getElem?_eq_getElem (by omega:j < l.length)]
  rfl
 refine WL.sr <| WOL.ix rfl rfl ix106_1 ?_
 refine WOL.ld rfl (load_one tp5 A1 (cg 1 (by decide))) <| WOL.convU u5 u3 rfl (by omega) (by omega) ?_
 refine WOL.slG rfl rfl rfl rfl (sliceA u106 tp5 A1 (l:=2) (hh:=4) (m:=20) rfl) ?_
 refine WOL.al tp111 fun h3 N3 => ?_
 have n3:=N3.next
 have X3:=X2.trans N3.hx
 refine WOL.lr1 [some h2.next,none,none,some h.next] rfl rfl rfl fun M hM => ((k170 H ((slY (lo:=2) (hi:=4) (m:=20) A1 (by decide) (by omega) (by decide)).hx N3.hx |>.relock M) ((hb.drop 2).take _) (by rw [List.length_take]; omega) ((f.on X3).heldO hM (fun b hb => by simp at hb; omega))).mono ?_)
 rintro v h4 ⟨rfl,X4⟩
 replace X4:=X4.relock
 generalize h4.withLock h3.lock = h4 at *
 have Y4:=X3.trans X4
 have x4:=X4.next
 refine WOL.bd rfl bd111 ?_
 refine WOL.sto rfl rfl tp111 (N3.at_.hx X4) rfl rfl (Nat.le_of_ble_eq_true rfl) rfl (f.hx Y4) (by omega) fun h5 P5 => ?_
 have Y5:=P5.hx _ Y4 (by omega)
 have n5:=P5.next
 have A15:At h5 h.next (.cells (cat encY l) true true 85):=P5.oth _ _ (by omega) ((A1.hx N3.hx).hx X4)
 have A25:=P5.oth h1.next _ (by omega) ((N2.at_.hx N3.hx).hx X4)
 have A45:At h5 h2.next (.cells (pakC (srcB l) (cntB l) (wrdB l) 0) true true 92):=P5.at_
 refine WOL.nil <| keep [(1,_),(2,_),(4,_)] ⟨rfl,rfl,rfl,trivial⟩ ?_
 refine WL.seq <| WL.sr <| WOL.mv rfl <| WOL.nil <| keep [(1,_),(2,_),(4,_),(15,_)] ⟨rfl,rfl,rfl,rfl,trivial⟩ ?_
 refine WL.block ?_
 refine WL.loop (fun q a g => ∃ k:Nat,k ≤ 3 ∧ q = 3 - k ∧ HX h g ∧ h2.next < g.next ∧ At g h.next (.cells (cat encY l) true true 85) ∧ At g h1.next (.cells [.int .i64 0,.int .i64 0,.float .f32 0,.float .f32 0,.float .f32 0] true true 92) ∧ At g h2.next (.cells (pakC (srcB l) (cntB l) (wrdB l) k) true true 92) ∧ Kn [(1,ptr h.next),(2,ptr h1.next),(4,ptr h2.next),(15,zi (k:Nat))] a) 3 (fun a q => ⟨0,by omega,by omega,Y5,A45.lt,A15,A25,A45,q.sub ⟨rfl,rfl,rfl,rfl,trivial⟩⟩) ?_
 rintro q a g ⟨k,hk,rfl,X6,hg,B1,B2,B4,q⟩
 refine q.go ?_
 refine WL.sr <| WOL.bi (v:=.bool (decide ((k:Int) < 3))) rfl rfl rfl <| WOL.nil <| keep [(1,_),(2,_),(4,_),(15,_),(16,_)] ⟨rfl,rfl,rfl,rfl,rfl,trivial⟩ ?_
 refine WL.seq ?_
 by_cases hk3:k < 3
 ·rw [show decide ((k:Int) < 3) = true from decide_eq_true (by omega)]
  refine WL.yes rfl <| WL.skip ?_
  refine WL.seq <| WL.block ?_
  refine WL.sr <| WOL.mv rfl <| WOL.as rfl <| WOL.nil <| keep [(1,_),(2,_),(4,_),(5,_),(15,_)] ⟨rfl,rfl,rfl,rfl,rfl,trivial⟩ ?_
  refine WL.sr <| WOL.mv rfl ?_
  refine WOL.bi (v:=zi ((4 * k:Nat):Int)) rfl rfl (by show some (Value.int .i64 (fwrap .i64 (4 * (k:Int)))) = _; rw [fwrap_i64 (by omega) (by omega)]; rfl) ?_
  refine WOL.bi (v:=zi ((4 + 4 * k:Nat):Int)) rfl rfl (by show some (Value.int .i64 (fwrap .i64 (4 + ((4 * k:Nat):Int)))) = _; rw [fwrap_i64 (by omega) (by omega)]; congr 2) ?_
  refine WOL.as rfl <| WOL.nil <| keep [(1,_),(2,_),(4,_),(5,_),(6,_),(15,_)] ⟨rfl,rfl,rfl,rfl,rfl,rfl,trivial⟩ ?_
  refine WL.reg <| WOL.mv rfl <| WOL.mv rfl <| WOL.mv rfl ?_
  refine WOL.bi (v:=zi ((8 + 4 * k:Nat):Int)) rfl rfl (by show some (Value.int .i64 (fwrap .i64 (((4 + 4 * k:Nat):Int) + 4))) = _; rw [fwrap_i64 (by omega) (by omega)]; congr 2; omega) ?_
  refine WOL.slG rfl rfl rfl rfl (sliceA u106 tp5 B1 (cut_at hk3)) ?_
  have sl:=slY (lo:=4 + 4 * k) (hi:=8 + 4 * k) (m:=20) B1 (by omega) (by omega) (by omega)
  rw [show 8 + 4 * k - (4 + 4 * k) = 4 by omega] at sl ⊢
  refine WOL.cl1 rfl rfl ((k171 H Y sl ((hb.drop _).take _) (by rw [List.length_take,List.length_drop]; omega) (f.on X6)).mono ?_)
  rintro v g2 ⟨rfl,X7⟩
  have Y7:=X6.trans X7
  have x7:=X7.next
  refine WOL.fa rfl (fa_of fo111_2) <| WOL.ix rfl rfl (ix109 hk3) ?_
  refine WOL.sto rfl rfl tp25 (B4.hx X7) rfl rfl (by show 2 + k + 1 ≤ 5; omega) rfl (f.hx Y7) (by omega) fun g3 P3 => ?_
  have C4:At g3 h2.next (.cells (splice (pakC (srcB l) (cntB l) (wrdB l) k) (2 + k) [.float .f32 (wrdB l k)]) true true 92):=P3.at_
  rw [pakC_next hk3] at C4
  have p3:=P3.next
  refine WOL.nil ?_
  refine WL.reg ?_
  refine WOL.bi (v:=zi ((k + 1:Nat):Int)) rfl rfl (by show some (Value.int .i64 (fwrap .i64 ((k:Int) + 1))) = _; rw [fwrap_i64 (by omega) (by omega)]; rfl) ?_
  refine WOL.mv rfl <| WOL.nil ?_
  exact fun a q => ⟨3 - (k + 1),by omega,k + 1,by omega,rfl,P3.hx _ Y7 (by omega),by omega,P3.oth _ _ (by omega) (B1.hx X7),P3.oth _ _ (by omega) (B2.hx X7),C4,q.sub ⟨rfl,rfl,rfl,rfl,trivial⟩⟩
 ·rw [show decide ((k:Int) < 3) = false from decide_eq_false (by omega)]
  obtain rfl:k = 3:=by omega
  refine WL.no rfl <| WL.exit ?_
  have B4':At g h2.next (.cells [zi (srcB l),zi (cntB l),.float .f32 (wrdB l 0),.float .f32 (wrdB l 1),.float .f32 (wrdB l 2)] true true 92):=B4
  have w0:=wrdB_lt hb 0
  have w1:=wrdB_lt hb 1
  have w2:=wrdB_lt hb 2
  have cc:=cntB_lt hb
  have ss:srcB l < 256:=b1
  refine WL.sr ?_
  refine WOL.slG rfl rfl rfl rfl (sliceA u106 tp5 B1 (l:=0) (hh:=16) (m:=20) rfl) ?_
  refine WOL.as rfl <| WOL.nil <| keep [(1,_),(2,_),(4,_),(7,_)] ⟨rfl,rfl,rfl,rfl,trivial⟩ ?_
  refine WL.sr <| WOL.ix rfl rfl ix106_0 ?_
  refine WOL.ld rfl (load_one tp5 B1 (cg 0 (by decide))) ?_
  refine WOL.bi (v:=.bool ((l.getD 0 0:Int) != 90)) rfl rfl rfl ?_
  refine WOL.slG rfl rfl rfl rfl (sliceA u106 tp5 B1 (l:=16) (hh:=20) (m:=20) rfl) ?_
  refine WOL.mv rfl <| WOL.fa rfl (fa_of fo111_2) ?_
  refine WOL.slG rfl rfl rfl rfl (sliceA u109 tp25 B4' rfl) ?_
  refine WOL.ld rfl (load_row tp111 B4' rfl (Nat.le_of_ble_eq_true rfl)) ?_
  refine WOL.ld rfl (load_row tp106 B1 (l:=cat encY l) (by rw [List.drop_zero,List.take_of_length_le (by omega)]) (by omega)) ?_
  refine WOL.lk2 rfl rfl rfl fun M => ((k77 H _ 1 _).mono ?_)
  rintro v g2 ⟨rfl,rfl⟩
  have s16:=slY (lo:=16) (hi:=20) (m:=20) B1 (by decide) (by omega) (by decide)
  have s0:=slY (lo:=0) (hi:=16) (m:=20) B1 (by decide) (by omega) (by decide)
  rw [show ((l.drop 16).take (20 - 16)) = l.drop 16 from List.take_of_length_le (by rw [List.length_drop]; omega)] at s16
  rw [List.drop_zero] at s0
  refine WOL.lr1 [some h.next,some h2.next,some h2.next] rfl rfl rfl fun M hM => ((k170 H (s16.relock M) (hb.drop 16) (by rw [List.length_drop]; omega) ((f.on X6).heldO hM (fun b hb => by simp at hb; have:=B1.lt; omega))).mono ?_)
  rintro v g3 ⟨rfl,X7⟩
  replace X7:HX g (g3.withLock g.lock):=X7.relock
  show ∀ a,Kn _ a → WO _ _ _ a (g3.withLock g.lock) _
  generalize g3.withLock g.lock = g3 at *
  have Y7:=X6.trans X7
  have h1lt:=B1.lt
  refine WOL.lr1 [some h.next,some h2.next,some h2.next] rfl rfl rfl fun M hM => ((k129 H ((s0.hx X7).relock M) (hb.take _) (by rw [List.length_take]; omega) ((f.on Y7).heldO hM (fun b hb => by simp at hb; have:=X7.next; omega))).mono ?_)
  rintro v g4 ⟨rfl,X8⟩
  replace X8:HX g3 (g4.withLock g3.lock):=X8.relock
  show ∀ a,Kn _ a → WO _ _ _ a (g4.withLock g3.lock) _
  generalize g4.withLock g3.lock = g4 at *
  have Z8:=X7.trans X8
  have Y8:=X6.trans Z8
  refine WOL.bi (v:=.bool (((numB (l.drop 16):Nat):Int) != tot (l.take 16))) rfl rfl rfl ?_
  refine WOL.lk2 rfl rfl rfl fun M => ((k77 H _ 27 _).mono ?_)
  rintro v g5 ⟨rfl,rfl⟩
  refine WOL.lk1 rfl rfl fun M => ((k99 H X ((slR (B4'.hx Z8)).relock M) hE (by simp)).mono ?_)
  rintro v g5 ⟨rfl,rfl⟩
  show ∀ a,Kn _ a → WO _ _ _ a g4 _
  refine WOL.lr1 [some h.next] rfl rfl rfl fun M hM => ((k117 H Y (h:=g4.withLock M) (s:=srcB l) (c:=cntB l) (x:=wrdB l 0) (y:=wrdB l 1) (z:=wrdB l 2) ss cc w0 w1 w2 ((f.on Y8).heldO hM (fun b hb => by simp at hb; have:=Z8.next; omega))).mono ?_)
  rintro v g5 ⟨rfl,X9⟩
  replace X9:HX g4 (g5.withLock g4.lock):=X9.relock
  show ∀ a,Kn _ a → WO _ _ _ a (g5.withLock g4.lock) _
  generalize g5.withLock g4.lock = g5 at *
  have Z9:=Z8.trans X9
  have Y9:=X6.trans Z9
  refine WOL.ne106 frameB_len hl rfl rfl ?_
  refine WOL.cl2 rfl rfl rfl ((k77 H _ 1 _).mono ?_)
  rintro v g6 ⟨rfl,rfl⟩
  refine WOL.bsl rfl u166 tp30 (by decide) (by decide) (by decide) (cs:=[_,_,_,_].map (.int .i64)) rfl fun g7 N7 => ?_
  have Z10:=Z9.trans N7.hx
  have Y10:=X6.trans Z10
  refine WOL.cl1 rfl rfl ((k71 H (l:=[_,_,_,_]) N7.at_.get (by simp)).mono ?_)
  rintro v g8 ⟨rfl,rfl⟩
  show ∀ a,Kn _ a → WO _ _ _ a _ _
  have B2':=B2.hx Z10
  have B4'':=B4'.hx Z10
  refine WOL.as rfl <| WOL.nil <| keep [(1,_),(2,_),(4,_),(8,_)] ⟨rfl,rfl,rfl,rfl,trivial⟩ ?_
  refine WL.seq <| WL.sr <| WOL.mv rfl <| WOL.bi rfl rfl nzero <| WOL.nil <| keep [(1,_),(2,_),(4,_),(8,_),(52,_)] ⟨rfl,rfl,rfl,rfl,rfl,trivial⟩ ?_
  show ∀ a,Kn [(1,_),(2,_),(4,_),(8,zi (decE l es)),(52,.bool (decE l es != 0))] a → _
  rcases nz_cases (decE l es) with h0 | h0
  ·rw [h0]
   refine WL.no rfl <| WL.skip ?_
   refine WL.sr <| WOL.ld rfl (load_row tp111 B4'' rfl (Nat.le_of_ble_eq_true rfl)) ?_
   refine WOL.sto rfl rfl tp111 B2' rfl rfl (Nat.le_of_ble_eq_true rfl) rfl (f.hx Y10) (by omega) fun g9 P9 => ?_
   refine WOL.as rfl <| WOL.nil ?_
   refine WL.ret (WL.endC1 rfl rfl (load_row tp111 P9.at_ rfl (Nat.le_of_ble_eq_true rfl)) ⟨?_,P9.hx _ Y10 (by omega)⟩)
   unfold decV
   rw [h0]
   rfl
  ·rw [h0]
   refine WL.yes rfl <| WL.sr <| WOL.bd rfl bd111z <| WOL.mv rfl ?_
   refine WOL.sto rfl rfl tp111 B2' rfl rfl (Nat.le_of_ble_eq_true rfl) rfl (f.hx Y10) (by omega) fun g9 P9 => ?_
   refine WOL.as rfl <| WOL.nil ?_
   refine WL.ret (WL.endC1 rfl rfl (load_row tp111 P9.at_ rfl (Nat.le_of_ble_eq_true rfl)) ⟨?_,P9.hx _ Y10 (by omega)⟩)
   unfold decV
   rw [h0]
   rfl
end
end Go.Tidy
namespace Go.Tidy
open Go Go.Proofs Tab
variable {tp:TProg}
section
variable {P:Program} {h:TH} {α:Type} {enc:α → List Value} {n0 n:Nat} {v v2:Value} {e:TypeId} {l m:List α} {z:List Value} {row:Bool}
end
section
variable {P:Program} {h:TH} {K:Regs → TH → Prop} {rest:List TOper} {d:Option Tmp} {ty:TypeId} {i:Nat} {L:Rg} {f x0 x1 l0:Operand} {ls:List Operand} {fv v0 v1:Value} {ts:Array TypeId}
end
theorem OwnL.relock {α:Type} {enc:α → List Value} {n0:Nat} {h:TH} {v:Value} {e:TypeId} {l:List α} (o:OwnL enc n0 h v e l) (M:List Nat):OwnL enc n0 (h.withLock M) v e l:=o.imp id fun ⟨h0,b,h1,h2,h3⟩ => ⟨h0,b,h1,h2,h3.relock M⟩
theorem fo1003_0:fieldOff Tryz.prog 84 0 = some 0:=by kernel_rfl
theorem fo1003_1:fieldOff Tryz.prog 84 1 = some 1:=by kernel_rfl
theorem fo1003_2:fieldOff Tryz.prog 84 2 = some 2:=by kernel_rfl
theorem tp1003:Tp Tryz.prog 84 5 [.int .i64 0,.int .i64 0,.float .f32 0,.float .f32 0,.float .f32 0] true:=tp_of (by kernel_rfl) (by kernel_rfl) rfl
section
variable {h:TH} {s c x y z:Nat}
end
end Go.Tidy
namespace Go.Tidy
open Go Go.Proofs Tab
variable {tp:TProg}
def hdF (l:List Nat):Int:=firstNZ [cond ((l.getD 0 0:Int) != 90) 1 0,cond (((numB (l.drop 16):Nat):Int) != tot (l.take 16)) 27 0]
def badW (l:List Nat):Nat → Bool
 | 0 => false
 | k + 1 => cond (badW l k) true (((wrdB l k:Nat):Int) == 2147483648)
def tlF (l:List Nat) (es:List Int):Int:=firstNZ [firstNZ es,cond (badW l 3) 1 0]
def decF (l:List Nat) (es:List Int):Int:=cond (hdF l != 0) (hdF l) (tlF l es)
def decR (l:List Nat) (es:List Int):Value:=cond (decF l es != 0) (.tuple #[pak 0 0 0 0 0,zi (decF l es)]) (.tuple #[pak (srcB l) (cntB l) (wrdB l 0) (wrdB l 1) (wrdB l 2),zi 0])
section
variable {h:TH} {l:List Nat} {es:List Int}
end
end Go.Tidy
namespace Go.Tidy
open Go Go.Proofs Tab
theorem numB_div {l:List Nat} (hb:Byt l):∀ d j,j + d = l.length → numB l / 256 ^ d = numB (l.take j)
 | 0,j,h => by
  rw [List.take_of_length_le (by omega),Nat.pow_zero,Nat.div_one]
 | d + 1,j,h => by
  rw [Nat.pow_succ,← Nat.div_div_eq_div_mul,numB_div hb d (j + 1) (by omega),numB_step (by omega)]
  have:=hb.at j
  omega
theorem bytesB {m:List Nat} (hb:Byt m):bytesN (numB m) m.length = m:=by
 refine List.ext_getElem bytesN_len fun i h1 h2 => ?_
 have e:(bytesN (numB m) m.length)[i] = bytN (numB m) m.length i:=by simp [bytesN]
 rw [e]
 unfold bytN
 rw [show (2:Nat) ^ (8 * (m.length - 1 - i)) = 256 ^ (m.length - 1 - i) by rw [Nat.pow_mul],numB_div hb (m.length - 1 - i) (i + 1) (by omega),numB_step h2]
 have:=hb.at i
 rw [List.getD_eq_getElem?_getD,List.getElem?_eq_getElem h2] at this ⊢
 simp only [Option.getD_some] at this ⊢
 omega
theorem bytesB' {m:List Nat} {k:Nat} (hb:Byt m) (hk:m.length = k):bytesN (numB m) k = m:=hk ▸ bytesB hb
theorem wordF_id {w:Nat} (h:w < 4294967296) (hn:(((w:Nat):Int) == 2147483648) = false):wordF w = w:=by
 have:¬ (w:Int) = 2147483648:=by simpa using hn
 unfold wordF zeroF
 by_cases h0:w % 2147483648 = 0
 ·rw [decide_eq_true h0]
  show 0 = w
  omega
 ·rw [decide_eq_false h0]; rfl
theorem wordF_bad {w:Nat} (hn:(((w:Nat):Int) == 2147483648) = true):w = 2147483648 ∧ wordF w = 0:=by
 have:(w:Int) = 2147483648:=by simpa using hn
 obtain rfl:w = 2147483648:=by omega
 exact ⟨rfl,rfl⟩
theorem part_f {s c x y z:Nat} {k:Nat} (hk:k < 3):((frameB s c x y z).drop (4 + 4 * k)).take 4 = bytesN (wordF (wd x y z k)) 4:=by
 obtain rfl | rfl | rfl:k = 0 ∨ k = 1 ∨ k = 2:=by omega
 ·rfl
 ·rfl
 ·rfl
theorem cut_body (l:List Nat) (hl:l.length = 20):l.take 16 = [l.getD 0 0,l.getD 1 0] ++ (l.drop 2).take 2 ++ (l.drop 4).take 4 ++ (l.drop 8).take 4 ++ (l.drop 12).take 4:=by
 match l,hl with
 | [_,_,_,_,_,_,_,_,_,_,_,_,_,_,_,_,_,_,_,_],_ => rfl
theorem bad_at {l:List Nat} (h:badW l 3 = true):∃ k,k < 3 ∧ (((wrdB l k:Nat):Int) == 2147483648) = true:=by
 by_cases h0:(((wrdB l 0:Nat):Int) == 2147483648) = true
 ·exact ⟨0,by decide,h0⟩
 by_cases h1:(((wrdB l 1:Nat):Int) == 2147483648) = true
 ·exact ⟨1,by decide,h1⟩
 by_cases h2:(((wrdB l 2:Nat):Int) == 2147483648) = true
 ·exact ⟨2,by decide,h2⟩
 rw [Bool.not_eq_true] at h0 h1 h2
 unfold badW badW badW badW at h
 rw [h0,h1,h2] at h
 cases h
theorem bad_not {l:List Nat} (h:badW l 3 = false):∀ k,k < 3 → (((wrdB l k:Nat):Int) == 2147483648) = false:=by
 unfold badW badW badW badW at h
 intro k hk
 cases h0:(((wrdB l 0:Nat):Int) == 2147483648) <;> rw [h0] at h <;> try cases h
 cases h1:(((wrdB l 1:Nat):Int) == 2147483648) <;> rw [h1] at h <;> try cases h
 obtain rfl | rfl | rfl:k = 0 ∨ k = 1 ∨ k = 2:=by omega
 ·exact h0
 ·exact h1
 ·exact h
theorem wd_wrd {l:List Nat} {k:Nat} (hk:k < 3):wd (wrdB l 0) (wrdB l 1) (wrdB l 2) k = wrdB l k:=by
 obtain rfl | rfl | rfl:k = 0 ∨ k = 1 ∨ k = 2:=by omega
 ·rfl
 ·rfl
 ·rfl
theorem again {l:List Nat} (hl:l.length = 20) (hb:Byt l) (h90:l.getD 0 0 = 90) (ht:((numB (l.drop 16):Nat):Int) = tot (l.take 16)):(!decide (frameB (srcB l) (cntB l) (wrdB l 0) (wrdB l 1) (wrdB l 2) = l)) = badW l 3:=by
 cases h:badW l 3 with
 | true =>
  obtain ⟨k,hk,hw⟩:=bad_at h
  obtain ⟨e1,e2⟩:=wordF_bad hw
  rw [decide_eq_false]
  ·rfl
  intro e
  have p:=part_f (s:=srcB l) (c:=cntB l) (x:=wrdB l 0) (y:=wrdB l 1) (z:=wrdB l 2) hk
  rw [e,wd_wrd hk,e2] at p
  have q:wrdB l k = numB (bytesN 0 4):=by rw [← p]; rfl
  rw [e1] at q
  exact absurd q (by decide)
 | false =>
  have nb:=bad_not h
  have e0:=wordF_id (wrdB_lt hb 0) (nb 0 (by decide))
  have e1:=wordF_id (wrdB_lt hb 1) (nb 1 (by decide))
  have e2:=wordF_id (wrdB_lt hb 2) (nb 2 (by decide))
  have hB:bodyB (srcB l) (cntB l) (wrdB l 0) (wrdB l 1) (wrdB l 2) = l.take 16:=by
   have:bodyB (srcB l) (cntB l) (wrdB l 0) (wrdB l 1) (wrdB l 2) = [90,srcB l] ++ bytesN (cntB l) 2 ++ bytesN (wordF (wrdB l 0)) 4 ++ bytesN (wordF (wrdB l 1)) 4 ++ bytesN (wordF (wrdB l 2)) 4:=rfl
   rw [this,e0,e1,e2,cut_body l hl,h90]
   unfold srcB cntB wrdB
   rw [bytesB' (k:=2) ((hb.drop _).take _) (by simp [hl]),bytesB' (k:=4) ((hb.drop _).take _) (by simp [hl]),bytesB' (k:=4) ((hb.drop _).take _) (by simp [hl]),bytesB' (k:=4) ((hb.drop _).take _) (by simp [hl])]
  have hF:frameB (srcB l) (cntB l) (wrdB l 0) (wrdB l 1) (wrdB l 2) = l:=by
   unfold frameB
   rw [hB,← ht,Int.toNat_natCast,bytesB' (k:=4) (hb.drop _) (by simp [hl]),List.take_append_drop]
  rw [decide_eq_true hF]
  rfl
theorem decE_eq {l:List Nat} {es:List Int} (hl:l.length = 20) (hb:Byt l):decE l es = decF l es:=by
 unfold decE decF tlF hdF
 by_cases h0:(l.getD 0 0:Int) = 90
 ·rw [show ((l.getD 0 0:Int) != 90) = false by rw [h0]; rfl]
  by_cases h1:((numB (l.drop 16):Nat):Int) = tot (l.take 16)
  ·rw [show (((numB (l.drop 16):Nat):Int) != tot (l.take 16)) = false by simp [h1],again hl hb (by omega) h1]
   rfl
  ·rw [show (((numB (l.drop 16):Nat):Int) != tot (l.take 16)) = true by simp [h1]]
   rfl
 ·rw [show ((l.getD 0 0:Int) != 90) = true from bne_iff_ne.2 h0]
  rfl
theorem decV_eq {l:List Nat} {es:List Int} (hl:l.length = 20) (hb:Byt l):decV l es = decR l es:=by
 unfold decV decR
 rw [decE_eq hl hb]
end Go.Tidy
namespace Go.Tidy
open Go Go.Proofs Tab
variable {tp:TProg}
abbrev Pkt:=Int × Int × Nat × Nat × Nat
def encP (p:Pkt):List Value:=[zi p.1,zi p.2.1,.float .f32 p.2.2.1,.float .f32 p.2.2.2.1,.float .f32 p.2.2.2.2]
def pakP (p:Pkt):Value:=pak p.1 p.2.1 p.2.2.1 p.2.2.2.1 p.2.2.2.2
theorem eP:Enc encP 5:=⟨fun _ => rfl,fun _ => rfl⟩
def PE (p:Pkt) (e:Int):Prop:=∃ es,SErr [p.2.2.1,p.2.2.2.1,p.2.2.2.2] es ∧ e = pakE p.1 p.2.1 es
def PErr (l:List Pkt) (E:List Int):Prop:=l.length = E.length ∧ ∀ (i:Nat) (p:Pkt) (e:Int),l[i]? = some p → E[i]? = some e → PE p e
theorem pe_ex (p:Pkt):∃ e,PE p e:=by
 obtain ⟨es,h⟩:=serr_ex [p.2.2.1,p.2.2.2.1,p.2.2.2.2]
 exact ⟨_,es,h,rfl⟩
theorem perr_ex:∀ l:List Pkt,∃ E,PErr l E
  | [] => ⟨[],rfl,fun i b e h => by simp at h⟩
  | p :: l => by
    obtain ⟨E,h1,h2⟩:=perr_ex l
    obtain ⟨e,he⟩:=pe_ex p
    refine ⟨e :: E,by simp [h1],fun i q e' hq hE => ?_⟩
    cases i with
    | zero =>
      simp at hq hE
      subst hq hE
      exact he
    | succ i => exact h2 i q e' (by simpa using hq) (by simpa using hE)
theorem u1004:Tryz.prog.underlying 86 = some (.slice 84):=by kernel_rfl
theorem u113:Tryz.prog.underlying 96 = some (.slice 92):=by kernel_rfl
section
variable {h:TH} {p:Pkt} {v:Value} {l:List Pkt} {E:List Int}
theorem k1014 (H:Has tp) {e:Int} (hE:PE p e):CallW Tryz.prog tp (.func (.func 60) #[] #[]) #[pakP p] h fun v h' => v = zi e ∧ HX h h':=by
 obtain ⟨es,hE,rfl⟩:=hE
 obtain ⟨s,c,x,y,z⟩:=p
 refine CallW.fnL (H.fn 60 f1014 rfl rfl) ?_
 refine WL.sr <| WOL.box rfl fun h1 N1 => WOL.as rfl <| WOL.nil <| keep [(1,_)] ⟨rfl,trivial⟩ ?_
 have A1:At h1 h.next (.cells [zi s,zi c,.float .f32 x,.float .f32 y,.float .f32 z] true true 84):=N1.at_
 refine WL.sr <| WOL.fa rfl (fa_of fo1003_0) <| WOL.ld rfl (load_one tp3 A1 rfl) <| WOL.fa rfl (fa_of fo1003_1) <| WOL.ld rfl (load_one tp3 A1 rfl) <| WOL.fa rfl (fa_of fo1003_2) ?_
 refine WOL.slG rfl rfl rfl rfl (sliceA u109 tp25 A1 rfl) ?_
 refine WOL.lk3 rfl rfl rfl rfl fun M => ((k14 H s 0 255 _).mono ?_)
 rintro v h2 ⟨rfl,rfl⟩
 refine WOL.lk3 rfl rfl rfl rfl fun M2 => ((k14 H c 0 65535 _).mono ?_)
 rintro v h3 ⟨rfl,rfl⟩
 refine WOL.cl1 rfl rfl ((k141 H (slR A1) hE (by simp)).mono ?_)
 rintro v h4 ⟨rfl,rfl⟩
 refine WOL.bsl rfl u29 tp3 (by decide) (by decide) (by decide) (filled_ints3 _ _ _) fun h5 N5 => ?_
 refine WOL.cl1 rfl rfl ((k13 H (l:=[_,_,_]) N5.at_.get (by simp)).mono ?_)
 rintro v h6 ⟨rfl,rfl⟩
 refine WOL.as rfl <| WOL.nil ?_
 exact WL.done rfl ⟨rfl,N1.hx.trans N5.hx⟩
theorem k151 (H:Has tp) {n:Int} (h0:0 ≤ n) (h1:n < 65536):CallW Tryz.prog tp (.func (.func 185) #[] #[]) #[zi n] h fun v h' => v = zi ((n + 1) % 65536) ∧ h' = h:=by
 refine CallW.fnL (H.fn 185 f151 rfl rfl) ?_
 refine WL.sr <| WOL.as rfl <| WOL.nil <| keep [(0,_)] ⟨rfl,trivial⟩ ?_
 refine WL.sr <| WOL.mv rfl <| WOL.add (m:=n) (n:=1) rfl rfl (by omega) (by omega) ?_
 refine WOL.rem (m:=n + 1) (n:=65536) rfl rfl (by omega) (by decide) ?_
 refine WOL.as rfl <| WOL.nil ?_
 exact WL.done rfl ⟨rfl,rfl⟩
def chkE (n:Nat) (E:List Int):Int:=cond (decide ((n:Int) > 1024)) 5 (firstNZ E)
theorem k1015 (H:Has tp) (s:SlL encP 5 h v l) (hE:PErr l E) (hl:l.length ≤ 1000000):CallW Tryz.prog tp (.func (.func 61) #[] #[]) #[v] h fun w h' => w = zi (chkE l.length E) ∧ HX h h':=by
 refine CallW.fnL (H.fn 61 f1015 rfl rfl) ?_
 refine WL.sr <| WOL.as rfl <| WOL.nil <| keep [(0,_)] ⟨rfl,trivial⟩ ?_
 refine WL.seq <| WL.sr <| WOL.mv rfl <| WOL.len rfl s u1004 <| WOL.bi (v:=.bool (decide ((l.length:Int) > 1024))) rfl rfl rfl <| WOL.nil <| keep [(0,_),(7,_)] ⟨rfl,rfl,trivial⟩ ?_
 unfold chkE
 cases hb:decide ((l.length:Int) > 1024) with
 | true =>
  refine WL.yes rfl <| WL.sr <| WOL.as rfl <| WOL.nil ?_
  exact WL.ret (WL.end_ rfl ⟨rfl,HX.refl _⟩)
 | false =>
 refine WL.no rfl <| WL.skip ?_
 refine WL.seq <| WL.sr <| WOL.as rfl <| WOL.nil <| keep [(0,_),(3,_)] ⟨rfl,rfl,trivial⟩ ?_
 refine WL.block ?_
 refine WL.loop (fun q a g => ∃ j:Nat,j ≤ l.length ∧ q = l.length - j ∧ HX h g ∧ (∀ x,x ∈ E.take j → x = 0) ∧ Kn [(0,v),(3,zi (j:Nat))] a) l.length (fun a q => ⟨0,by omega,by omega,HX.refl _,fun x hx => (by cases hx),q.sub ⟨rfl,rfl,trivial⟩⟩) ?_
 rintro q a g ⟨j,hj,rfl,X1,hz,q⟩
 refine q.go ?_
 refine WL.seq <| WL.sr <| WOL.mv rfl <| WOL.mv rfl <| WOL.len rfl (s.hx X1) u1004 <| WOL.bi (v:=.bool (decide ((j:Int) < (l.length:Int)))) rfl rfl rfl <| WOL.nil <| keep [(0,_),(3,_),(11,_)] ⟨rfl,rfl,rfl,trivial⟩ ?_
 by_cases hlt:j < l.length
 ·rw [show decide ((j:Int) < (l.length:Int)) = true from decide_eq_true (by omega)]
  refine WL.yes rfl <| WL.skip ?_
  have hp:l[j]? = some l[j]:=List.getElem?_eq_getElem hlt
  have hlE:j < E.length:=hE.1 ▸ hlt
  have hpE:E[j]? = some E[j]:=List.getElem?_eq_getElem hlE
  obtain ⟨b,o,cc,fix,wr,el,g1,g2,g3,g4,g5⟩:=(s.hx X1).at eP u1004 tp1003 hp .i64
  refine WL.seq <| WL.block ?_
  refine WL.sr <| WOL.mv rfl <| WOL.mv rfl <| WOL.ix rfl rfl g1 <| WOL.ld rfl (load_row tp1003 g2 g4 g3) ?_
  refine WOL.cl1 rfl rfl ((k1014 H (p:=l[j]) (hE.2 j _ _ hp hpE)).mono ?_)
  rintro w g6 ⟨rfl,X2⟩
  have X3:=X1.trans X2
  refine WOL.as rfl <| WOL.nil <| keep [(0,_),(3,_),(4,_)] ⟨rfl,rfl,rfl,trivial⟩ ?_
  refine WL.sr <| WOL.mv rfl <| WOL.bi rfl rfl nzero <| WOL.nil <| keep [(0,_),(3,_),(4,_),(20,_)] ⟨rfl,rfl,rfl,rfl,trivial⟩ ?_
  rcases nz_cases E[j] with h0 | h0
  ·rw [h0]
   refine WL.no rfl <| WL.skip ?_
   refine WL.reg <| WOL.mv rfl ?_
   refine WOL.bi (v:=zi ((j + 1:Nat):Int)) rfl rfl (by show some (Value.int .i64 (fwrap .i64 ((j:Int) + 1))) = _; rw [fwrap_i64 (by omega) (by omega)]; rfl) ?_
   refine WOL.as rfl <| WOL.nil ?_
   exact fun a q => ⟨l.length - (j + 1),by omega,j + 1,by omega,rfl,X3,take_more hpE hz h0,q.sub ⟨rfl,rfl,trivial⟩⟩
  ·rw [h0]
   refine WL.yes rfl <| WL.sr <| WOL.mv rfl <| WOL.as rfl <| WOL.nil ?_
   exact WL.ret (WL.end_ rfl ⟨by rw [firstNZ_at hpE hz (by simpa using h0)]; rfl,X3⟩)
 ·rw [show decide ((j:Int) < (l.length:Int)) = false from decide_eq_false (by omega)]
  obtain rfl:j = l.length:=by omega
  refine WL.no rfl <| WL.exit ?_
  refine WL.sr <| WOL.as rfl <| WOL.nil ?_
  rw [hE.1,List.take_length] at hz
  exact WL.done rfl ⟨by rw [firstNZ_all hz]; rfl,X1⟩
end
end Go.Tidy
namespace Go.Tidy
open Go Go.Proofs Tab
variable {tp:TProg}
theorem cat_I:∀ l:List Int,cat encI l = l.map (.int .i64)
 | [] => rfl
 | x :: l => by
  show encI x ++ cat encI l = _
  rw [cat_I l]; rfl
theorem ms_I (m:Nat):(List.replicate m [Value.int .i64 0]).flatten = cat encI (List.replicate m 0):=by
 rw [cat_I,List.map_replicate]
 induction m with
 | zero => rfl
 | succ m ih => rw [List.replicate_succ,List.flatten_cons,ih,List.replicate_succ]; rfl
theorem ixS {P:Program} {t e:TypeId} {z:List Value} {row:Bool} {b off n c j:Nat} (hu:P.underlying t = some (.slice e)) (he:Tp P e 1 z row) (hj:j < n):indexAddrT P t (.slice (some ⟨b,off,none⟩) n c) (zi (j:Nat)) = some (.pointer (some ⟨b,off + j,none⟩)):=by
 obtain ⟨inf,q1,q2,_⟩:=he.i
 have h0:(0:Int) ≤ (j:Int):=by omega
 have h1:(j:Int) < (n:Int):=by omega
 simp [indexAddrT,hu,h0,h1,q1,q2,hj]
section
variable {h:TH} {v:Value} {l:List Pkt} {E:List Int}
theorem k1013 (H:Has tp) (s:SlL encP 5 h v l) (hl:l.length ≤ 1000000) (f:Free0 h.next h):CallW Tryz.prog tp (.func (.func 59) #[] #[]) #[v] h fun w h' => HX h h' ∧ OwnL encP h.next h' w 92 l:=by
 refine CallW.fnL (H.fn 59 f1013 rfl rfl) ?_
 refine WL.sr <| WOL.as rfl <| WOL.nil <| keep [(0,_)] ⟨rfl,trivial⟩ ?_
 refine WL.sr <| WOL.as rfl <| WOL.nil <| keep [(0,_),(3,_)] ⟨rfl,rfl,trivial⟩ ?_
 refine WL.seq <| WL.sr <| WOL.mv rfl <| WOL.len rfl s u1004 <| WOL.mv rfl <| WOL.nil <| keep [(3,_),(6,_),(7,_),(8,_)] ⟨rfl,rfl,rfl,rfl,trivial⟩ ?_
 refine WL.block ?_
 refine WL.loop (fun q a g => ∃ (j:Nat) (w:Value),j ≤ l.length ∧ q = l.length - j ∧ HX h g ∧ OwnL encP h.next g w 92 (l.take j) ∧ h.next ≤ g.next ∧ Kn [(3,w),(6,v),(7,zi (l.length:Nat)),(8,zi (j:Nat))] a) l.length (fun a q => ⟨0,_,by omega,by omega,HX.refl _,OwnL.nil,Nat.le_refl _,q.sub ⟨rfl,rfl,rfl,rfl,trivial⟩⟩) ?_
 rintro q a g ⟨j,w,hj,rfl,X1,O1,n1,q⟩
 refine q.go ?_
 refine WL.sr <| WOL.bi (v:=.bool (decide ((j:Int) < (l.length:Int)))) rfl rfl rfl <| WOL.nil <| keep [(3,_),(6,_),(7,_),(8,_),(9,_)] ⟨rfl,rfl,rfl,rfl,rfl,trivial⟩ ?_
 refine WL.seq ?_
 by_cases hlt:j < l.length
 ·rw [show decide ((j:Int) < (l.length:Int)) = true from decide_eq_true (by omega)]
  refine WL.yes rfl <| WL.skip ?_
  have hp:l[j]? = some l[j]:=List.getElem?_eq_getElem hlt
  obtain ⟨b,o,cc,fix,wr,el,g1,g2,g3,g4,g5⟩:=(s.hx X1).at eP u1004 tp1003 hp .i64
  refine WL.seq <| WL.block ?_
  refine WL.sr <| WOL.ix rfl rfl g1 <| WOL.ld rfl (load_row tp1003 g2 g4 g3) ?_
  refine WOL.al tp1003 fun h2 N2 => ?_
  have X2:=X1.trans N2.hx
  have n2:=N2.next
  refine WOL.sto (vs:=encP l[j]) rfl rfl tp1003 N2.at_ rfl rfl (Nat.le_of_ble_eq_true rfl) rfl (f.hx X2) (by omega) fun h3 P3 => ?_
  have X3:=P3.hx _ X2 (by omega)
  have n3:=P3.next
  have A3:At h3 g.next (.cells (encP l[j]) true true 84):=P3.at_
  refine WOL.nil <| keep [(3,_),(5,_),(6,_),(7,_),(8,_)] ⟨rfl,rfl,rfl,rfl,rfl,trivial⟩ ?_
  refine WL.reg <| WOL.mv rfl <| WOL.ld rfl (load_row tp1003 A3 rfl (Nat.le_of_ble_eq_true rfl)) ?_
  refine WOL.bsl rfl u113 tp111 (by decide) (by decide) (by decide) (cs:=encP l[j]) rfl fun h4 N4 => ?_
  have X4:=X3.trans N4.hx
  have n4:=N4.next
  have O4:OwnL encP h.next h4 w 92 (l.take j):=(O1.keep fun c y hc hA => P3.oth c y (by have:=hA.lt; omega) (hA.hx N2.hx)).hx N4.hx
  obtain ⟨w5,h5,ap,O5,x5,_,_,n5⟩:=own_push (sT:=96) (x:=l[j]) eP u113 tp111 O4 (SlC.own (sz:=5) (m:=1) rfl N4.at_) (f.hx X4) (by rw [List.length_take]; omega) (by omega)
  refine WOL.ap rfl rfl ap <| WOL.as rfl <| WOL.nil <| keep [(3,_),(6,_),(7,_),(8,_)] ⟨rfl,rfl,rfl,rfl,trivial⟩ ?_
  refine WL.reg ?_
  refine WOL.bi (v:=zi ((j + 1:Nat):Int)) rfl rfl (by show some (Value.int .i64 (fwrap .i64 ((j:Int) + 1))) = _; rw [fwrap_i64 (by omega) (by omega)]; rfl) ?_
  refine WOL.mv rfl <| WOL.nil ?_
  exact fun a q => ⟨l.length - (j + 1),by omega,j + 1,w5,by omega,rfl,x5 _ X4 (Nat.le_refl _),by rw [List.take_succ_eq_append_getElem hlt]; exact O5,by omega,q.sub ⟨rfl,rfl,rfl,rfl,trivial⟩⟩
 ·rw [show decide ((j:Int) < (l.length:Int)) = false from decide_eq_false (by omega)]
  obtain rfl:j = l.length:=by omega
  refine WL.no rfl <| WL.exit ?_
  refine WL.sr <| WOL.mv rfl <| WOL.as rfl <| WOL.nil ?_
  rw [List.take_length] at O1
  exact WL.done rfl ⟨X1,O1⟩
theorem k118 (H:Has tp) (X:HasX tp) (s:SlL encP 5 h v l) (hE:PErr l E) (hl:l.length ≤ 1000000) (f:Free0 h.next h):CallW Tryz.prog tp (.func (.func 132) #[] #[]) #[v,.func (.func 127) #[] #[]] h fun w h' => HX h h' ∧ ∃ b,w = .slice (some ⟨b,0,none⟩) E.length E.length ∧ At h' b (.cells (E.map (.int .i64)) true true 30) ∧ h.next ≤ b:=by
 refine CallW.fnL (H.fn 132 f118 rfl rfl) ?_
 refine WL.sr <| WOL.as rfl <| WOL.nil <| keep [(0,_),(1,_)] ⟨rfl,rfl,trivial⟩ ?_
 refine WL.sr <| WOL.mv rfl <| WOL.len rfl s u113 ?_
 refine WOL.ms rfl rfl u166 tp30 (by decide) (by omega) fun h1 N1 => WOL.as rfl <| WOL.nil <| keep [(0,_),(1,_),(5,_)] ⟨rfl,rfl,rfl,trivial⟩ ?_
 have n1:=N1.next
 have A1:=N1.at_
 rw [ms_I,hE.1] at A1
 refine WL.seq <| WL.sr <| WOL.mv rfl <| WOL.len rfl (s.hx N1.hx) u113 <| WOL.mv rfl <| WOL.nil <| keep [(1,_),(5,_),(11,_),(12,_),(13,_)] ⟨rfl,rfl,rfl,rfl,rfl,trivial⟩ ?_
 refine WL.block ?_
 refine WL.loop (fun q a g => ∃ j:Nat,j ≤ l.length ∧ q = l.length - j ∧ HX h g ∧ At g h.next (.cells (cat encI (E.take j ++ List.replicate (E.length - j) 0)) true true 30) ∧ h.next < g.next ∧ Kn [(1,.func (.func 127) #[] #[]),(5,.slice (some ⟨h.next,0,none⟩) l.length l.length),(11,v),(12,zi (l.length:Nat)),(13,zi (j:Nat))] a) l.length (fun a q => ⟨0,by omega,by omega,N1.hx,A1,by omega,q.sub ⟨rfl,rfl,rfl,rfl,rfl,trivial⟩⟩) ?_
 rintro q a g ⟨j,hj,rfl,X1,B1,m1,q⟩
 refine q.go ?_
 refine WL.sr <| WOL.bi (v:=.bool (decide ((j:Int) < (l.length:Int)))) rfl rfl rfl <| WOL.nil <| keep [(1,_),(5,_),(11,_),(12,_),(13,_),(14,_)] ⟨rfl,rfl,rfl,rfl,rfl,rfl,trivial⟩ ?_
 refine WL.seq ?_
 by_cases hlt:j < l.length
 ·rw [show decide ((j:Int) < (l.length:Int)) = true from decide_eq_true (by omega)]
  refine WL.yes rfl <| WL.skip ?_
  have hp:l[j]? = some l[j]:=List.getElem?_eq_getElem hlt
  have hlE:j < E.length:=hE.1 ▸ hlt
  have hpE:E[j]? = some E[j]:=List.getElem?_eq_getElem hlE
  obtain ⟨b,o,cc,fix,wr,el,g1,g2,g3,g4,g5⟩:=(s.hx X1).at eP u113 tp111 hp .i64
  refine WL.seq <| WL.block ?_
  refine WL.sr <| WOL.mv rfl <| WOL.ix rfl rfl g1 <| WOL.ld rfl (load_row tp111 g2 g4 g3) ?_
  refine WOL.al tp111 fun h2 N2 => WOL.as rfl ?_
  have X2:=X1.trans N2.hx
  have n2:=N2.next
  refine WOL.sto (vs:=encP l[j]) rfl rfl tp111 N2.at_ rfl rfl (Nat.le_of_ble_eq_true rfl) rfl (f.hx X2) (by omega) fun h3 P3 => ?_
  have X3:=P3.hx _ X2 (by omega)
  have n3:=P3.next
  have A3:At h3 g.next (.cells (encP l[j]) true true 92):=P3.at_
  have B3:=P3.oth _ _ (by omega) (B1.hx N2.hx)
  refine WOL.nil <| keep [(1,_),(5,_),(6,_),(7,_),(11,_),(12,_),(13,_)] ⟨rfl,rfl,rfl,rfl,rfl,rfl,rfl,trivial⟩ ?_
  refine WL.reg <| WOL.mv rfl <| WOL.mv rfl <| WOL.mv rfl <| WOL.ld rfl (load_row tp111 A3 rfl (Nat.le_of_ble_eq_true rfl)) ?_
  obtain ⟨es,hes,he⟩:=hE.2 j _ _ hp hpE
  refine WOL.cl1 rfl rfl ((k116 H X hes).mono ?_)
  rintro w h4 ⟨rfl,X4⟩
  rw [← he]
  have X5:=X3.trans X4
  have n4:=X4.next
  refine WOL.ix rfl rfl (ixS u166 tp30 hlt) ?_
  have lE:(E.take j ++ List.replicate (E.length - j) 0).length = E.length:=by rw [List.length_append,List.length_take,List.length_replicate]; omega
  refine WOL.sto (vs:=encI E[j]) rfl rfl tp30 (B3.hx X4) rfl rfl (by rw [eI.cat_len,lE]; omega) rfl (f.hx X5) (Nat.le_refl _) fun h5 P5 => ?_
  have B5:=P5.at_
  have X6:=P5.hx _ X5 (Nat.le_refl _)
  have n5:=P5.next
  have hs:=eI.set (l:=E.take j ++ List.replicate (E.length - j) 0) (i:=j) (by omega) E[j]
  rw [Nat.mul_one] at hs
  rw [Nat.zero_add,hs,fill_set E 0 j hlE] at B5
  refine WOL.nil <| keep [(1,_),(5,_),(11,_),(12,_),(13,_)] ⟨rfl,rfl,rfl,rfl,rfl,trivial⟩ ?_
  refine WL.reg ?_
  refine WOL.bi (v:=zi ((j + 1:Nat):Int)) rfl rfl (by show some (Value.int .i64 (fwrap .i64 ((j:Int) + 1))) = _; rw [fwrap_i64 (by omega) (by omega)]; rfl) ?_
  refine WOL.mv rfl <| WOL.nil ?_
  exact fun a q => ⟨l.length - (j + 1),by omega,j + 1,by omega,rfl,X6,B5,by omega,q.sub ⟨rfl,rfl,rfl,rfl,rfl,trivial⟩⟩
 ·rw [show decide ((j:Int) < (l.length:Int)) = false from decide_eq_false (by omega)]
  obtain rfl:j = l.length:=by omega
  refine WL.no rfl <| WL.exit ?_
  refine WL.sr <| WOL.mv rfl <| WOL.as rfl <| WOL.nil ?_
  rw [hE.1,Nat.sub_self,List.replicate_zero,List.append_nil,List.take_length,cat_I] at B1
  exact WL.done rfl ⟨X1,_,by rw [hE.1]; rfl,B1,Nat.le_refl _⟩
end
end Go.Tidy
namespace Go.Tidy
open Go Go.Proofs Tab
variable {tp:TProg}
def gapN (a c:Nat):Nat:=(c + 65535 - a) % 65536
def seqAt (a j:Nat):Nat:=(a + 1 + j) % 65536
def gap (a c:Nat):List Int:=(List.range (gapN a c)).map fun j => ((seqAt a j:Nat):Int)
def more (o:Option Nat) (c:Nat):List Int:=match o with | none => [] | some a => gap a c
def lstep (src:Int) (st:Option Nat × List Int) (p:Pkt):Option Nat × List Int:=cond (p.1 != src) st (some p.2.1.toNat,st.2 ++ more st.1 p.2.1.toNat)
def lostS (src:Int) (l:List Pkt):Option Nat × List Int:=l.foldl (lstep src) (none,[])
theorem lostS_step {src:Int} {l:List Pkt} {j:Nat} (hj:j < l.length):lostS src (l.take (j + 1)) = lstep src (lostS src (l.take j)) l[j]:=by
 unfold lostS
 rw [List.take_succ_eq_append_getElem hj,List.foldl_append]
 rfl
theorem lost_grow {src:Int}:∀ (r:List Pkt) (st:Option Nat × List Int),st.2.length ≤ (r.foldl (lstep src) st).2.length
  | [],_ => Nat.le_refl _
  | p :: r,st => by
    refine Nat.le_trans ?_ (lost_grow r (lstep src st p))
    unfold lstep
    cases p.1 != src
    · show st.2.length ≤ (st.2 ++ _).length
      rw [List.length_append]; omega
    · exact Nat.le_refl _
theorem lost_le {src:Int} {l:List Pkt} (j:Nat):(lostS src (l.take j)).2.length ≤ (lostS src l).2.length:=by
 conv => rhs; rw [← List.take_append_drop j l]
 unfold lostS
 rw [List.foldl_append]
 exact lost_grow _ _
theorem seq_end {a c t:Nat} (ha:a < 65536) (hc:c < 65536) (ht:t ≤ gapN a c):(((seqAt a t:Nat):Int) != (c:Int)) = decide (t < gapN a c):=by
 unfold seqAt gapN at *
 by_cases h:t < (c + 65535 - a) % 65536
 ·rw [decide_eq_true h,bne_iff_ne]
  omega
 ·rw [decide_eq_false h]
  have e:(((a + 1 + t) % 65536:Nat):Int) = (c:Int):=by omega
  rw [e,bne_self_eq_false]
theorem seq_next {a t:Nat}:(((seqAt a t:Nat):Int) + 1) % 65536 = ((seqAt a (t + 1):Nat):Int):=by
 unfold seqAt
 omega
theorem gap_len {a c:Nat}:(gap a c).length = gapN a c:=by simp [gap]
theorem gap_next {a c t:Nat} (h:t < gapN a c):(gap a c).take (t + 1) = (gap a c).take t ++ [((seqAt a t:Nat):Int)]:=by
 rw [List.take_succ_eq_append_getElem (by rw [gap_len]; exact h)]
 simp [gap]
section
variable {h:TH} {v:Value} {l:List Pkt} {src:Int}
def LostA (L:List Int) (n0:Nat) (h:TH) (w:Value) (e:Int):Prop:=(L.length ≤ 256 ∧ e = 0 ∧ OwnL encI n0 h w 3 L) ∨ (256 < L.length ∧ e = 5 ∧ w = .slice none 0 0)
end
end Go.Tidy
namespace Go.Tidy
open Go Go.Proofs Tab
variable {tp:TProg}
theorem pv_none111:pv Tryz.prog (Op.equal 92 (pak (-1) 0 0 0 0) (pak (-1) 0 0 0 0)) = some true:=by kernel_rfl
theorem pv_some111 {n:Nat} {c:Int} {x y z:Nat}:pv Tryz.prog (Op.equal 92 (pak (n:Nat) c x y z) (pak (-1) 0 0 0 0)) = some false:=by kernel_rfl
def NoNan (p:Pkt):Prop:=nanB .f32 p.2.2.1 = false ∧ nanB .f32 p.2.2.2.1 = false ∧ nanB .f32 p.2.2.2.2 = false
theorem pakP_plain {p:Pkt} (h:NoNan p):plain (pakP p) = true:=by
 obtain ⟨h1,h2,h3⟩:=h
 simp [pakP,pak,plain,plain1,plain0,h1,h2,h3]
def noP:Pkt:=(-1,0,0,0,0)
theorem noP_plain:plain (pakP noP) = true:=by decide
theorem WOL.eq111 {h:TH} {K:Regs → TH → Prop} {rest:List TOper} {d:Option Tmp} {ty:TypeId} {i:Nat} {x y:Operand} {u:TypeId} {L:Rg} {p q:Pkt} {b:Bool} (hp:plain (pakP p) = true) (hp2:plain (pakP q) = true) (hb:pv Tryz.prog (Op.equal 92 (pakP p) (pakP q)) = some b) (hx:getL L x = some (pakP p)) (hy:getL L y = some (pakP q))
    (w:∀ r,Kn (putL L d (.bool b)) r → WO Tryz.prog tp rest r h K):∀ r,Kn L r → WO Tryz.prog tp (⟨d,.binOp .eql 92 x y u,ty,none,[],i⟩ :: rest) r h K:=by
  intro r k
  have ex:=getO_eval (k.o hx)
  have ey:=getO_eval (k.o hy)
  have eg:eqT Tryz.prog 92 (pakP p) (pakP q) = none:=eqT_agg
  refine WO.plainly rfl rfl rfl (by simp [fastOp,fastBin,ex,ey,pakP,pak]) (by simp [valueOp,ex,ey,eg]) (plainOp_of (by rfl) (fun q hq => ?_) ?_ rfl) (w _ (k.put d _))
  · simp only [Op.operands] at hq
    simp at hq
    rcases hq with rfl | rfl
    · rw [ex]; exact hp
    · rw [ey]; exact hp2
  · show pv Tryz.prog (execOp r.eval ⟨d, .binOp .eql 92 x y u, ty, "", #[], none⟩) = _
    have hg:Tryz.prog.eqGuardType Tryz.prog.depth 92 = false:=by kernel_rfl
    unfold pakP pak at hb ex ey
    simp [execOp,pv_bind,pv_map,pv_pure,pv_program,ex,ey,eqGuard,binOp,hb,hg]
theorem bd111n:buildT Tryz.prog 92 [(0,.int .i64 (-1))] = some (pakP noP):=by kernel_rfl
def PkOk (p:Pkt):Prop:=0 ≤ p.1 ∧ 0 ≤ p.2.1 ∧ p.2.1 < 65536 ∧ NoNan p
def PrevIs (o:Option Nat) (p:Pkt):Prop:=match o with | none => p = noP | some a => PkOk p ∧ p.2.1 = (a:Int)
theorem eq_prev {o:Option Nat} {p:Pkt} (h:PrevIs o p):plain (pakP p) = true ∧ pv Tryz.prog (Op.equal 92 (pakP p) (pakP noP)) = some o.isNone:=by
 cases o with
 | none => obtain rfl:p = noP:=h; exact ⟨noP_plain,pv_none111⟩
 | some a =>
  obtain ⟨⟨h1,_,_,h4⟩,_⟩:=h
  refine ⟨pakP_plain h4,?_⟩
  obtain ⟨s,c,x,y,z⟩:=p
  obtain ⟨n,rfl⟩:∃ n:Nat,s = (n:Int):=⟨s.toNat,by simp at h1; omega⟩
  exact pv_some111
section
variable {h:TH} {v:Value} {l:List Pkt} {src:Int}
def LostB (L:List Int) (n0:Nat) (h:TH) (w:Value) (b:Bool):Prop:=(L.length ≤ 256 ∧ b = true ∧ OwnL encI n0 h w 3 L) ∨ (256 < L.length ∧ b = false)
set_option maxHeartbeats 4000000 in
theorem k119 (H:Has tp) (s:SlL encP 5 h v l) (hl:l.length ≤ 1000000) (hk:∀ p,p ∈ l → PkOk p) (f:Free0 h.next h):CallW Tryz.prog tp (.func (.func 133) #[] #[]) #[v,zi src] h fun w h' => HX h h' ∧ ∃ w1 b,w = .tuple #[w1,.bool b] ∧ LostB (lostS src l).2 h.next h' w1 b:=by
  refine CallW.fnL (H.fn 133 f119 rfl rfl) ?_
  refine WL.sr <| WOL.as rfl <| WOL.as rfl <| WOL.nil <| keep [(0,_),(1,_)] ⟨rfl,rfl,trivial⟩ ?_
  refine WL.sr <| WOL.as rfl <| WOL.nil <| keep [(0,_),(1,_),(6,_)] ⟨rfl,rfl,rfl,trivial⟩ ?_
  refine WL.sr <| WOL.as rfl <| WOL.nil <| keep [(0,_),(1,_),(6,_),(7,_)] ⟨rfl,rfl,rfl,rfl,trivial⟩ ?_
  refine WL.sr <| WOL.bd rfl bd111n <| WOL.al tp111 fun h1 N1 => ?_
  have n1:=N1.next
  refine WOL.sto (vs:=encP noP) rfl rfl tp111 N1.at_ rfl rfl (Nat.le_of_ble_eq_true rfl) rfl (f.hx N1.hx) (Nat.le_refl _) fun h2 P2 => WOL.nil <| keep [(0,_),(1,_),(6,_),(7,_),(8,_)] ⟨rfl,rfl,rfl,rfl,rfl,trivial⟩ ?_
  have X2:=P2.hx _ N1.hx (Nat.le_refl _)
  have n2:=P2.next
  have A2:At h2 h.next (.cells (encP noP) true true 92):=P2.at_
  refine WL.sr <| WOL.ld rfl (load_row tp111 A2 rfl (Nat.le_of_ble_eq_true rfl)) <| WOL.al tp111 fun h3 N3 => ?_
  have n3:=N3.next
  have X3:=X2.trans N3.hx
  refine WOL.sto (vs:=encP noP) rfl rfl tp111 N3.at_ rfl rfl (Nat.le_of_ble_eq_true rfl) rfl (f.hx X3) (by omega) fun h4 P4 => WOL.nil <| keep [(0,_),(1,_),(6,_),(7,_),(8,_),(9,_)] ⟨rfl,rfl,rfl,rfl,rfl,rfl,trivial⟩ ?_
  have X4:=P4.hx _ X3 (by omega)
  have n4:=P4.next
  have A4:At h4 h2.next (.cells (encP noP) true true 92):=P4.at_
  have B4:=P4.oth h.next _ (by omega) (A2.hx N3.hx)
  refine WL.seq <| WL.skip ?_
  refine WL.seq <| WL.sr <| WOL.mv rfl <| WOL.len rfl (s.hx X4) u113 <| WOL.mv rfl <| WOL.nil <| keep [(1,_),(6,_),(7,_),(8,_),(9,_),(15,_),(16,_),(17,_)] ⟨rfl,rfl,rfl,rfl,rfl,rfl,rfl,rfl,trivial⟩ ?_
  refine WL.block ?_
  refine WL.loop (fun q a g => ∃ (j:Nat) (w:Value) (p0:Pkt),j ≤ l.length ∧ q = l.length - j ∧ HX h g ∧ OwnL encI (h2.next + 1) g w 3 (lostS src (l.take j)).2 ∧ h2.next + 1 ≤ g.next ∧ (lostS src (l.take j)).2.length ≤ 256 ∧ PrevIs (lostS src (l.take j)).1 p0 ∧ At g h.next (.cells (encP noP) true true 92) ∧ At g h2.next (.cells (encP p0) true true 92) ∧ Kn [(1,zi src),(6,w),(7,.bool true),(8,ptr h.next),(9,ptr h2.next),(15,v),(16,zi (l.length:Nat)),(17,zi (j:Nat))] a) l.length (fun a q => ⟨0,_,noP,by omega,by omega,X4,OwnL.nil,by omega,Nat.zero_le _,rfl,B4,A4,q.sub ⟨rfl,rfl,rfl,rfl,rfl,rfl,rfl,rfl,trivial⟩⟩) ?_
  rintro q a g ⟨j,w,p0,hj,rfl,X1,O1,m1,l1,hp0,C8,C9,q⟩
  refine q.go ?_
  refine WL.sr <| WOL.bi (v:=.bool (decide ((j:Int) < (l.length:Int)))) rfl rfl rfl <| WOL.nil <| keep [(1,_),(6,_),(7,_),(8,_),(9,_),(15,_),(16,_),(17,_),(18,_)] ⟨rfl,rfl,rfl,rfl,rfl,rfl,rfl,rfl,rfl,trivial⟩ ?_
  refine WL.seq ?_
  by_cases hlt:j < l.length
  · rw [show decide ((j:Int) < (l.length:Int)) = true from decide_eq_true (by omega)]
    refine WL.yes rfl <| WL.skip ?_
    have hp:l[j]? = some l[j]:=List.getElem?_eq_getElem hlt
    have hk1:=hk l[j] (List.getElem_mem hlt)
    have es:=lostS_step (src:=src) hlt
    have gr:=lost_le (src:=src) (l:=l) (j + 1)
    obtain ⟨o,acc,hS⟩:∃ o acc,lostS src (l.take j) = (o,acc):=⟨_,_,rfl⟩
    rw [hS] at es O1 l1 hp0
    generalize l[j] = p at hp hk1 es
    obtain ⟨c,hc⟩:∃ c:Nat,p.2.1 = (c:Int):=⟨p.2.1.toNat,by have:=hk1.2.1; omega⟩
    have hcl:c < 65536:=by have:=hk1.2.2.1; omega
    refine WL.seq <| WL.block ?_
    obtain ⟨b,o',cc,fix,wr,el,g1,g2,g3,g4,g5⟩:=(s.hx X1).at eP u113 tp111 hp .i64
    refine WL.sr <| WOL.ix rfl rfl g1 <| WOL.ld rfl (load_row tp111 g2 g4 g3) ?_
    refine WOL.al tp111 fun h5 N5 => ?_
    have n5:=N5.next
    have X5:=X1.trans N5.hx
    refine WOL.sto (vs:=encP p) rfl rfl tp111 N5.at_ rfl rfl (Nat.le_of_ble_eq_true rfl) rfl (f.hx X5) (by omega) fun h6 P6 => ?_
    have X6:=P6.hx _ X5 (by omega)
    have n6:=P6.next
    have A6:At h6 g.next (.cells (encP p) true true 92):=P6.at_
    have D8:=P6.oth h.next _ (by omega) (C8.hx N5.hx)
    have D9:=P6.oth h2.next _ (by omega) (C9.hx N5.hx)
    have O6:OwnL encI (h2.next + 1) h6 w 3 acc:=O1.keep fun c y hcc hA => P6.oth c y (by have:=hA.lt; omega) (hA.hx N5.hx)
    refine WOL.nil <| keep [(1,_),(6,_),(7,_),(8,_),(9,_),(11,_),(15,_),(16,_),(17,_)] ⟨rfl,rfl,rfl,rfl,rfl,rfl,rfl,rfl,rfl,trivial⟩ ?_
    refine WL.seq <| WL.sr <| WOL.fa rfl (fa_of fo111_0) <| WOL.ld rfl (load_one tp3 A6 rfl) <| WOL.mv rfl <| WOL.bi (v:=.bool (p.1 != src)) rfl rfl rfl <| WOL.nil <| keep [(1,_),(6,_),(7,_),(8,_),(9,_),(11,_),(15,_),(16,_),(17,_),(24,_)] ⟨rfl,rfl,rfl,rfl,rfl,rfl,rfl,rfl,rfl,rfl,trivial⟩ ?_
    cases hs:p.1 != src with
    | true =>
      have e1:lostS src (l.take (j + 1)) = (o,acc):=by rw [es]; unfold lstep; rw [hs]; rfl
      refine WL.yes rfl <| WL.exit ?_
      refine WL.reg ?_
      refine WOL.bi (v:=zi ((j + 1:Nat):Int)) rfl rfl (by show some (Value.int .i64 (fwrap .i64 ((j:Int) + 1))) = _; rw [fwrap_i64 (by omega) (by omega)]; rfl) ?_
      refine WOL.mv rfl <| WOL.nil ?_
      exact fun a q => ⟨l.length - (j + 1),by omega,j + 1,w,p0,by omega,rfl,X6,by rw [e1]; exact O6,by omega,by rw [e1]; exact l1,by rw [e1]; exact hp0,D8,D9,q.sub ⟨rfl,rfl,rfl,rfl,rfl,rfl,rfl,rfl,trivial⟩⟩
    | false =>
      have e1:lostS src (l.take (j + 1)) = (some c,acc ++ more o c):=by rw [es]; unfold lstep; rw [hs,hc]; rfl
      refine WL.no rfl <| WL.skip ?_
      obtain ⟨pl,pe⟩:=eq_prev hp0
      refine WL.seq <| WL.sr <| WOL.ld rfl (load_row tp111 D9 rfl (Nat.le_of_ble_eq_true rfl)) <| WOL.ld rfl (load_row tp111 D8 rfl (Nat.le_of_ble_eq_true rfl)) ?_
      refine WOL.eq111 (p:=p0) (q:=noP) pl noP_plain pe rfl rfl <| WOL.nil <| keep [(1,_),(6,_),(7,_),(8,_),(9,_),(11,_),(15,_),(16,_),(17,_),(27,_)] ⟨rfl,rfl,rfl,rfl,rfl,rfl,rfl,rfl,rfl,rfl,trivial⟩ ?_
      cases o with
      | none =>
        refine WL.yes rfl <| WL.sr <| WOL.ld rfl (load_row tp111 A6 rfl (Nat.le_of_ble_eq_true rfl)) ?_
        refine WOL.sto (vs:=encP p) rfl rfl tp111 D9 rfl rfl (Nat.le_of_ble_eq_true rfl) rfl (f.hx X6) (by omega) fun h7 P7 => WOL.nil <| keep [(1,_),(6,_),(7,_),(8,_),(9,_),(11,_),(15,_),(16,_),(17,_)] ⟨rfl,rfl,rfl,rfl,rfl,rfl,rfl,rfl,rfl,trivial⟩ ?_
        have X7:=P7.hx _ X6 (by omega)
        have n7:=P7.next
        have F9:At h7 h2.next (.cells (encP p) true true 92):=P7.at_
        have F8:=P7.oth h.next _ (by omega) D8
        have O7:OwnL encI (h2.next + 1) h7 w 3 acc:=O6.keep fun c y hcc hA => P7.oth c y (by have:=(O6.lt hcc).1; omega) hA
        refine WL.exit ?_
        refine WL.reg ?_
        refine WOL.bi (v:=zi ((j + 1:Nat):Int)) rfl rfl (by show some (Value.int .i64 (fwrap .i64 ((j:Int) + 1))) = _; rw [fwrap_i64 (by omega) (by omega)]; rfl) ?_
        refine WOL.mv rfl <| WOL.nil ?_
        rw [show acc ++ more none c = acc from List.append_nil _] at e1
        exact fun a q => ⟨l.length - (j + 1),by omega,j + 1,w,p,by omega,rfl,X7,by rw [e1]; exact O7,by omega,by rw [e1]; exact l1,by rw [e1]; exact ⟨hk1,hc⟩,F8,F9,q.sub ⟨rfl,rfl,rfl,rfl,rfl,rfl,rfl,rfl,trivial⟩⟩
      | some a0 =>
        obtain ⟨hpo,ha0⟩:=hp0
        have ha:a0 < 65536:=by have:=hpo.2.2.1; omega
        refine WL.no rfl <| WL.skip ?_
        refine WL.seq ?_
        have g7:=load_one tp3 D9 (off:=1) (v:=zi (a0:Nat)) (by rw [← ha0]; rfl)
        refine WL.sr <| WOL.fa rfl (fa_of fo111_1) <| WOL.ld rfl g7 ?_
        refine WOL.cl1 rfl rfl ((k151 H (by omega) (by omega)).mono ?_)
        rintro w5 g8 ⟨rfl,e8⟩
        replace e8:=e8.symm
        subst e8
        refine WOL.as rfl <| WOL.nil <| keep [(1,_),(6,_),(7,_),(8,_),(9,_),(11,_),(12,_),(15,_),(16,_),(17,_)] ⟨rfl,rfl,rfl,rfl,rfl,rfl,rfl,rfl,rfl,rfl,trivial⟩ ?_
        rw [show ((a0:Int) + 1) % 65536 = ((seqAt a0 0:Nat):Int) by unfold seqAt; omega]
        refine WL.block ?_
        refine WL.loop (fun q a g' => ∃ (t:Nat) (w:Value),t ≤ gapN a0 c ∧ q = gapN a0 c - t ∧ HX h g' ∧ OwnL encI (h2.next + 1) g' w 3 (acc ++ (gap a0 c).take t) ∧ h2.next + 1 ≤ g'.next ∧ (acc ++ (gap a0 c).take t).length ≤ 256 ∧ At g' h.next (.cells (encP noP) true true 92) ∧ At g' h2.next (.cells (encP p0) true true 92) ∧ At g' g.next (.cells (encP p) true true 92) ∧ (∀ c,bl w = some c → c ≠ g.next) ∧ Kn [(1,zi src),(6,w),(7,.bool true),(8,ptr h.next),(9,ptr h2.next),(11,ptr g.next),(12,zi (seqAt a0 t:Nat)),(15,v),(16,zi (l.length:Nat)),(17,zi (j:Nat))] a) (gapN a0 c) (fun a q => ⟨0,w,by omega,by omega,X6,by rw [List.take_zero,List.append_nil]; exact O6,by omega,by rw [List.take_zero,List.append_nil]; exact l1,D8,D9,A6,fun c hcc => by have:=(O1.lt hcc).2; omega,q.sub ⟨rfl,rfl,rfl,rfl,rfl,rfl,rfl,rfl,rfl,rfl,trivial⟩⟩) ?_
        rintro q a g2' ⟨t,w2,ht,rfl,Y2,Q2,k2,l2,E8,E9,E11,ne,q⟩
        refine q.go ?_
        have g6:=load_one tp3 E11 (off:=1) (v:=zi (c:Nat)) (by rw [← hc]; rfl)
        refine WL.seq <| WL.sr <| WOL.mv rfl <| WOL.fa rfl (fa_of fo111_1) <| WOL.ld rfl g6 <| WOL.bi (v:=.bool (((seqAt a0 t:Nat):Int) != (c:Int))) rfl rfl rfl <| WOL.nil <| keep [(1,_),(6,_),(7,_),(8,_),(9,_),(11,_),(12,_),(15,_),(16,_),(17,_),(35,_)] ⟨rfl,rfl,rfl,rfl,rfl,rfl,rfl,rfl,rfl,rfl,rfl,trivial⟩ ?_
        rw [seq_end ha hcl ht]
        by_cases htl:t < gapN a0 c
        · rw [decide_eq_true htl]
          refine WL.yes rfl <| WL.skip ?_
          refine WL.seq <| WL.block ?_
          refine WL.seq <| WL.sr <| WOL.mv rfl <| WOL.len rfl (Q2.sl eI) u29 <| WOL.bi (v:=.bool (((acc ++ (gap a0 c).take t).length:Int) == 256)) rfl rfl rfl <| WOL.nil <| keep [(1,_),(6,_),(7,_),(8,_),(9,_),(11,_),(12,_),(15,_),(16,_),(17,_),(40,_)] ⟨rfl,rfl,rfl,rfl,rfl,rfl,rfl,rfl,rfl,rfl,rfl,trivial⟩ ?_
          have l4:(acc ++ (gap a0 c).take (t + 1)).length = (acc ++ (gap a0 c).take t).length + 1:=by rw [gap_next htl,← List.append_assoc,List.length_append]; rfl
          cases hf:((acc ++ (gap a0 c).take t).length:Int) == 256 with
          | true =>
            have hf':((acc ++ (gap a0 c).take t).length:Int) = 256:=by simpa using hf
            refine WL.yes rfl <| WL.sr <| WOL.as rfl <| WOL.nil ?_
            refine WL.exit ?_
            refine WL.sr <| WOL.mv rfl <| WOL.mv rfl <| WOL.as rfl <| WOL.as rfl <| WOL.nil ?_
            refine WL.ret (WL.end_ rfl ⟨Y2,_,_,rfl,.inr ⟨?_,rfl⟩⟩)
            rw [e1] at gr
            replace gr:(acc ++ more (some a0) c).length ≤ (lostS src l).2.length:=gr
            have:(acc ++ (gap a0 c).take (t + 1)).length ≤ (acc ++ more (some a0) c).length:=by
              show _ ≤ (acc ++ gap a0 c).length
              rw [List.length_append,List.length_append,List.length_take]; omega
            omega
          | false =>
            have hf':¬ ((acc ++ (gap a0 c).take t).length:Int) = 256:=by simpa using hf
            refine WL.no rfl <| WL.skip ?_
            refine WL.reg <| WOL.mv rfl <| WOL.mv rfl <| WOL.bs1 rfl u29 tp3 rfl fun h7 N7 => ?_
            have Y7:=Y2.trans N7.hx
            have n7:=N7.next
            obtain ⟨w4,h8,ap,O8,x8,keep8,bw,n8⟩:=own_push (sT:=29) (x:=((seqAt a0 t:Nat):Int)) eI u29 tp3 (Q2.hx N7.hx) (SlC.own (sz:=1) (m:=1) rfl N7.at_) ((f.hx Y7).up (by omega)) (by omega) (by omega)
            have Y8:=x8 _ Y7 (by omega)
            rw [List.append_assoc,← gap_next htl] at O8
            have lw:∀ c,bl w2 = some c → h2.next + 1 ≤ c:=fun c hcc => (Q2.lt hcc).1
            refine WOL.ap rfl rfl ap <| WOL.as rfl <| WOL.nil <| keep [(1,_),(6,_),(7,_),(8,_),(9,_),(11,_),(12,_),(15,_),(16,_),(17,_)] ⟨rfl,rfl,rfl,rfl,rfl,rfl,rfl,rfl,rfl,rfl,trivial⟩ ?_
            refine WL.reg <| WOL.mv rfl ?_
            refine WOL.cl1 rfl rfl ((k151 H (n:=(seqAt a0 t:Nat)) (by omega) (by unfold seqAt; omega)).mono ?_)
            rintro w5 g8 ⟨rfl,e8⟩
            replace e8:=e8.symm
            subst e8
            rw [seq_next]
            refine WOL.as rfl <| WOL.nil ?_
            exact fun a q => ⟨gapN a0 c - (t + 1),by omega,t + 1,w4,by omega,rfl,Y8,O8,by omega,by omega,keep8 _ _ (fun e => by have:=lw _ e; omega) (E8.hx N7.hx),keep8 _ _ (fun e => by have:=lw _ e; omega) (E9.hx N7.hx),keep8 _ _ (fun e => ne _ e rfl) (E11.hx N7.hx),fun c hcc => by rw [bw] at hcc; cases hcc; have:=E11.lt; omega,q.sub ⟨rfl,rfl,rfl,rfl,rfl,rfl,rfl,rfl,rfl,rfl,trivial⟩⟩
        · rw [decide_eq_false htl]
          obtain rfl:t = gapN a0 c:=by omega
          rw [List.take_of_length_le (by rw [gap_len]; exact Nat.le_refl _)] at Q2 l2
          refine WL.no rfl <| WL.exit ?_
          refine WL.reg <| WOL.ld rfl (load_row tp111 E11 rfl (Nat.le_of_ble_eq_true rfl)) ?_
          refine WOL.sto (vs:=encP p) rfl rfl tp111 E9 rfl rfl (Nat.le_of_ble_eq_true rfl) rfl (f.hx Y2) (by omega) fun h7 P7 => WOL.nil <| keep [(1,_),(6,_),(7,_),(8,_),(9,_),(11,_),(15,_),(16,_),(17,_)] ⟨rfl,rfl,rfl,rfl,rfl,rfl,rfl,rfl,rfl,trivial⟩ ?_
          have X7:=P7.hx _ Y2 (by omega)
          have n7:=P7.next
          have F9:At h7 h2.next (.cells (encP p) true true 92):=P7.at_
          have F8:=P7.oth h.next _ (by omega) E8
          have O7:OwnL encI (h2.next + 1) h7 w2 3 (acc ++ gap a0 c):=Q2.keep fun c y hcc hA => P7.oth c y (by have:=(Q2.lt hcc).1; omega) hA
          refine WL.reg ?_
          refine WOL.bi (v:=zi ((j + 1:Nat):Int)) rfl rfl (by show some (Value.int .i64 (fwrap .i64 ((j:Int) + 1))) = _; rw [fwrap_i64 (by omega) (by omega)]; rfl) ?_
          refine WOL.mv rfl <| WOL.nil ?_
          exact fun a q => ⟨l.length - (j + 1),by omega,j + 1,w2,p,by omega,rfl,X7,by rw [e1]; exact O7,by omega,by rw [e1]; exact l2,by rw [e1]; exact ⟨hk1,hc⟩,F8,F9,q.sub ⟨rfl,rfl,rfl,rfl,rfl,rfl,rfl,rfl,trivial⟩⟩
  · rw [show decide ((j:Int) < (l.length:Int)) = false from decide_eq_false (by omega)]
    obtain rfl:j = l.length:=by omega
    refine WL.no rfl <| WL.exit ?_
    refine WL.sr <| WOL.mv rfl <| WOL.mv rfl <| WOL.as rfl <| WOL.as rfl <| WOL.nil ?_
    rw [List.take_length] at O1 l1
    exact WL.ret (WL.end_ rfl ⟨X1,_,_,rfl,.inl ⟨l1,rfl,O1.imp id fun ⟨h0,b,e1,e2,e3⟩ => ⟨h0,b,e1,by omega,e3⟩⟩⟩)
end
end Go.Tidy
namespace Go.Tidy
open Go Go.Proofs Tab
variable {tp:TProg}
theorem sampleE_nan {b:Nat} {e:Int} (h:SampleE b e) (h0:e = 0):nanB .f32 b = false:=by
 cases h with
 | nan h => cases h0
 | inf s h => cases h0
 | num neg m k h => exact not_nan h.read
theorem outB_in {n l m:Int} (h:outB n l m = 0):l ≤ n ∧ n ≤ m:=by
 unfold outB at h
 by_cases h1:n < l
 ·simp [h1] at h
 ·by_cases h2:n > m
  ·simp [h2] at h
  ·omega
theorem pe_ok {p:Pkt} (h:PE p 0):PkOk p:=by
 obtain ⟨es,hE,h⟩:=h
 have z:=firstNZ_zero h.symm
 have z1:=outB_in (z (outB p.1 0 255) (by simp))
 have z2:=outB_in (z (outB p.2.1 0 65535) (by simp))
 have z3:=firstNZ_zero (z (firstNZ es) (by simp))
 obtain ⟨hl,hs⟩:=hE
 match es,hl with
 | [e1,e2,e3],_ =>
  exact ⟨z1.1,z2.1,by omega,sampleE_nan (hs 0 _ e1 rfl rfl) (z3 _ (by simp)),sampleE_nan (hs 1 _ e2 rfl rfl) (z3 _ (by simp)),sampleE_nan (hs 2 _ e3 rfl rfl) (z3 _ (by simp))⟩
theorem perr_ok {l:List Pkt} {E:List Int} (h:PErr l E) (h0:firstNZ E = 0):∀ p,p ∈ l → PkOk p:=by
 intro p hp
 obtain ⟨i,hi,rfl⟩:=List.getElem_of_mem hp
 have hiE:i < E.length:=h.1 ▸ hi
 have q:=h.2 i l[i] E[i] (List.getElem?_eq_getElem hi) (List.getElem?_eq_getElem hiE)
 rw [firstNZ_zero h0 E[i] (List.getElem_mem hiE)] at q
 exact pe_ok q
section
variable {h:TH} {v:Value} {l:List Pkt} {E:List Int} {src:Int}
def lostE (n:Nat) (E:List Int) (src:Int):Int:=firstNZ [chkE n E,outB src 0 255]
def LostQ (l:List Pkt) (E:List Int) (src:Int) (n0:Nat) (h:TH) (w:Value) (e:Int):Prop :=
 (lostE l.length E src ≠ 0 ∧ w = .slice none 0 0 ∧ e = lostE l.length E src) ∨ (lostE l.length E src = 0 ∧ LostA (lostS src l).2 n0 h w e)
set_option maxHeartbeats 1000000 in
theorem k66 (H:Has tp) (X:HasX tp) (s:SlL encP 5 h v l) (hE:PErr l E) (hl:l.length ≤ 1000000) (f:Free0 h.next h):CallW Tryz.prog tp (.func (.func 58) #[] #[]) #[v,zi src] h fun w h' => HX h h' ∧ ∃ w1 e,w = .tuple #[w1,zi e] ∧ LostQ l E src h.next h' w1 e:=by
  refine CallW.fnL (H.fn 58 f66 rfl rfl) ?_
  refine WL.sr <| WOL.as rfl <| WOL.as rfl <| WOL.nil <| keep [(0,_),(1,_)] ⟨rfl,rfl,trivial⟩ ?_
  refine WL.seq <| WL.sr <| WOL.mv rfl <| WOL.len rfl s u113 <| WOL.bi (v:=.bool (decide ((l.length:Int) > 1024))) rfl rfl rfl <| WOL.nil <| keep [(0,_),(1,_),(12,_)] ⟨rfl,rfl,rfl,trivial⟩ ?_
  cases hb:decide ((l.length:Int) > 1024) with
  | true =>
    have e5:lostE l.length E src = 5:=by unfold lostE chkE; rw [hb]; rfl
    refine WL.yes rfl <| WL.sr <| WOL.as rfl <| WOL.as rfl <| WOL.nil ?_
    exact WL.ret (WL.end_ rfl ⟨HX.refl _,_,_,rfl,.inl ⟨by rw [e5]; decide,rfl,e5.symm⟩⟩)
  | false =>
    have ec:chkE l.length E = firstNZ E:=by unfold chkE; rw [hb]; rfl
    refine WL.no rfl <| WL.skip ?_
    refine WL.sr <| WOL.mv rfl <| WOL.cl2 rfl rfl rfl ((k118 H X s hE hl f).mono ?_)
    rintro w h1 ⟨X1,b,rfl,A1,hb1⟩
    refine WOL.as rfl <| WOL.nil <| keep [(0,_),(1,_),(6,_)] ⟨rfl,rfl,rfl,trivial⟩ ?_
    refine WL.seq <| WL.sr <| WOL.mv rfl <| WOL.cl1 rfl rfl ((k71 H A1.get (by rw [← hE.1]; exact hl)).mono ?_)
    rintro w h2 ⟨rfl,e2⟩
    replace e2:=e2.symm
    subst e2
    refine WOL.mv rfl <| WOL.cl3 rfl rfl rfl rfl ((k72 H src 0 255 _).mono ?_)
    rintro w h2 ⟨rfl,e2⟩
    replace e2:=e2.symm
    subst e2
    refine WOL.bsl rfl u166 tp30 (by decide) (by decide) (by decide) (cs:=[_,_].map (.int .i64)) rfl fun h3 N3 => ?_
    have X3:=X1.trans N3.hx
    refine WOL.cl1 rfl rfl ((k71 H (l:=[_,_]) N3.at_.get (by simp)).mono ?_)
    rintro w h2 ⟨rfl,e2⟩
    replace e2:=e2.symm
    subst e2
    refine WOL.as rfl <| WOL.nil <| keep [(0,_),(1,_),(7,_)] ⟨rfl,rfl,rfl,trivial⟩ ?_
    show ∀ a,Kn [(0,v),(1,zi src),(7,zi (firstNZ [firstNZ E,outB src 0 255]))] a → _
    rw [← ec]
    show ∀ a,Kn [(0,v),(1,zi src),(7,zi (lostE l.length E src))] a → _
    refine WL.sr <| WOL.mv rfl <| WOL.bi rfl rfl nzero <| WOL.nil <| keep [(0,_),(1,_),(7,_),(22,_)] ⟨rfl,rfl,rfl,rfl,trivial⟩ ?_
    rcases nz_cases (lostE l.length E src) with h0 | h0
    · rw [h0]
      have hz:=firstNZ_zero h0
      have hzE:firstNZ E = 0:=by rw [← ec]; exact hz _ (by simp)
      have n3:h.next ≤ h3.next:=X3.next
      refine WL.no rfl <| WL.skip ?_
      refine WL.sr <| WOL.mv rfl <| WOL.mv rfl <| WOL.cl2 rfl rfl rfl ((k119 H (s.hx X3) hl (perr_ok hE hzE) ((f.hx X3).up n3)).mono ?_)
      rintro w h4 ⟨X4,w1,full,rfl,hL⟩
      have X5:=X3.trans X4
      refine WOL.mv rfl <| WOL.ex rfl rfl <| WOL.ex rfl rfl <| WOL.as rfl <| WOL.as rfl <| WOL.nil <| keep [(8,_),(9,_)] ⟨rfl,rfl,trivial⟩ ?_
      refine WL.seq <| WL.sr <| WOL.mv rfl <| WOL.nt rfl <| WOL.nil <| keep [(8,_),(31,_)] ⟨rfl,rfl,trivial⟩ ?_
      rcases hL with ⟨hL,rfl,O⟩ | ⟨hL,rfl⟩
      · refine WL.no rfl <| WL.skip ?_
        refine WL.sr <| WOL.mv rfl <| WOL.as rfl <| WOL.as rfl <| WOL.nil ?_
        exact WL.ret (WL.end_ rfl ⟨X5,_,_,rfl,.inr ⟨h0,.inl ⟨hL,rfl,O.imp id fun ⟨q0,b,q1,q2,q3⟩ => ⟨q0,b,q1,by omega,q3⟩⟩⟩⟩)
      · refine WL.yes rfl <| WL.sr <| WOL.as rfl <| WOL.as rfl <| WOL.nil ?_
        exact WL.ret (WL.end_ rfl ⟨X5,_,_,rfl,.inr ⟨h0,.inr ⟨hL,rfl,rfl⟩⟩⟩)
    · rw [h0]
      refine WL.yes rfl <| WL.sr <| WOL.mv rfl <| WOL.as rfl <| WOL.as rfl <| WOL.nil ?_
      exact WL.ret (WL.end_ rfl ⟨X3,_,_,rfl,.inl ⟨by simpa using h0,rfl,rfl⟩⟩)
end
end Go.Tidy
namespace Go.Tidy
open Go Go.Proofs Tab
theorem u1003 : Tryz.prog.underlying 84 = some (.struct #[⟨"Source", 3, 0, false, "", "", 0⟩, ⟨"Counter", 3, 1, false, "", "", 8⟩, ⟨"Readings", 82, 2, false, "", "", 16⟩]) := by kernel_rfl
def SelfEq (b:Nat):Prop:=Op.floatEq .f32 b b = true
theorem pv_int_self {d:Nat} {n:Int}:pv Tryz.prog (Op.equalIn (d + 1) 3 (zi n) (zi n)) = some true:=by
 rw [Op.equalIn,pv_bind,pv_underlying u3,Option.bind_some]
 simp [pv_pure]
theorem pv_s25:pv Tryz.prog (sizeOf 25) = some 1:=by kernel_rfl
theorem part25 {x y z k:Nat} (hk:k < 3):pv Tryz.prog (Go.part 25 #[.float .f32 x,.float .f32 y,.float .f32 z] k) = some (.float .f32 (wd x y z k)):=by
 obtain rfl | rfl | rfl:k = 0 ∨ k = 1 ∨ k = 2:=by omega
 ·kernel_rfl
 ·kernel_rfl
 ·kernel_rfl
theorem stood1003:Tryz.prog.stoodInHeld 84 = false:=by kernel_rfl
theorem part1003 {s c:Int} {x y z:Nat}:pv Tryz.prog (Go.part 3 #[zi s,zi c,.float .f32 x,.float .f32 y,.float .f32 z] 0) = some (zi s) ∧ pv Tryz.prog (Go.part 3 #[zi s,zi c,.float .f32 x,.float .f32 y,.float .f32 z] 1) = some (zi c) ∧ pv Tryz.prog (Go.part 82 #[zi s,zi c,.float .f32 x,.float .f32 y,.float .f32 z] 2) = some (.agg #[.float .f32 x,.float .f32 y,.float .f32 z]) :=
 ⟨by kernel_rfl,by kernel_rfl,by kernel_rfl⟩
end Go.Tidy
namespace Go.Tidy
open Go Go.Proofs Tab
variable {tp:TProg}
theorem self_eq {b:Nat} {e:Int} (h:SampleE b e) (h0:e = 0):SelfEq b:=by
 cases h with
 | nan h => cases h0
 | inf s h => cases h0
 | num neg m k h =>
  show (Ieee.single.order b b == some .eq) = true
  unfold Ieee.Format.order
  rw [h.read,order_num,cmp_self]
  rfl
section
variable {h:TH} {K:Regs → TH → Prop} {rest:List TOper} {d:Option Tmp} {ty:TypeId} {i:Nat} {x y:Operand} {u:TypeId} {L:Rg} {l:List Nat}
end
end Go.Tidy
namespace Go.Tidy
open Go Go.Proofs Tab
def frE (p:Pkt) (e:Int):List Nat:=cond (e != 0) (List.replicate 20 0) (frameB p.1.toNat p.2.1.toNat p.2.2.1 p.2.2.2.1 p.2.2.2.2)
theorem encV_eq {p:Pkt} {es:List Int}:encV p.1 p.2.1 p.2.2.1 p.2.2.2.1 p.2.2.2.2 es = .tuple #[.agg (cat encY (frE p (pakE p.1 p.2.1 es))).toArray,zi (pakE p.1 p.2.1 es)]:=by
 unfold encV frE
 cases h:pakE p.1 p.2.1 es != 0
 ·have:pakE p.1 p.2.1 es = 0:=by simpa using h
  rw [this]; rfl
 ·rfl
def deP (l:List Nat) (e:Int):Pkt:=cond (e != 0) (0,0,0,0,0) (srcB l,cntB l,wrdB l 0,wrdB l 1,wrdB l 2)
theorem decR_eq {l:List Nat} {es:List Int}:decR l es = .tuple #[pakP (deP l (decF l es)),zi (decF l es)]:=by
 unfold decR deP
 cases h:decF l es != 0
 ·have:decF l es = 0:=by simpa using h
  rw [this]; rfl
 ·rfl
theorem ownI_ints {n0:Nat} {h:TH} {w:Value} {L:List Int} (o:OwnL encI n0 h w 3 L):IsInts h w L:=by
 rcases o with o | ⟨_,b,rfl,_,h3⟩
 ·exact .inl o
 ·rw [cat_I] at h3
  exact .inr ⟨b,_,_,_,_,rfl,h3.lt,h3.get⟩
theorem LostA.hx {L:List Int} {n0:Nat} {g g':TH} {w:Value} {e:Int} (a:LostA L n0 g w e) (x:HX g g'):LostA L n0 g' w e :=
 a.imp (fun ⟨h1,h2,h3⟩ => ⟨h1,h2,h3.hx x⟩) id
end Go.Tidy
namespace Go.Tidy
def wsp (l:List (Int × Int)) (a b:Nat):List (Int × Int):=cond (Nat.beq a b) l (l ++ [((a:Int),(b:Int))])
def spn:List Nat → List (Int × Int) × Nat → List (Int × Int) × Nat
 | [],s => s
 | a :: P,s => spn P (wsp s.1 s.2 a,a + 20)
def spn0 (P:List Nat):List (Int × Int) × Nat:=spn P ([],0)
theorem spn_app:∀ (P:List Nat) (s:List (Int × Int) × Nat) (a:Nat),spn (P ++ [a]) s = (wsp (spn P s).1 (spn P s).2 a,a + 20)
 | [],_,_ => rfl
 | _ :: P,_,a => spn_app P _ a
theorem spn0_app {P:List Nat} {a:Nat}:spn0 (P ++ [a]) = (wsp (spn0 P).1 (spn0 P).2 a,a + 20):=spn_app P _ a
section
variable (n:Nat) (ok:Nat → Bool)
def isF (i:Nat):Bool:=Nat.ble (i + 20) n && ok i
def plc:Nat → List Nat
 | 0 => []
 | i + 1 => cond (Nat.ble (spn0 (plc i)).2 i && isF n ok i) (plc i ++ [i]) (plc i)
def nxt (i:Nat):Nat:=(spn0 (plc n ok i)).2
theorem plc_some {i:Nat} (h:nxt n ok i ≤ i) (g:isF n ok i = true):plc n ok (i + 1) = plc n ok i ++ [i]:=by
 show cond (Nat.ble (nxt n ok i) i && isF n ok i) _ _ = _
 rw [Nat.ble_eq_true_of_le h,g]
 rfl
theorem plc_not {i:Nat} (g:isF n ok i = false):plc n ok (i + 1) = plc n ok i:=by
 show cond (Nat.ble (nxt n ok i) i && isF n ok i) _ _ = _
 rw [g,Bool.and_false]
 rfl
theorem plc_in {i:Nat} (h:i < nxt n ok i):plc n ok (i + 1) = plc n ok i:=by
 show cond (Nat.ble (nxt n ok i) i && isF n ok i) _ _ = _
 have:Nat.ble (nxt n ok i) i = false:=by
  cases e:Nat.ble (nxt n ok i) i with
  | false => rfl
  | true => have:=Nat.le_of_ble_eq_true e; omega
 rw [this,Bool.false_and]
 rfl
theorem nxt_some {i:Nat} (h:nxt n ok i ≤ i) (g:isF n ok i = true):nxt n ok (i + 1) = i + 20:=by
 unfold nxt
 rw [plc_some n ok h g,spn0_app]
theorem plc_skip {i:Nat} (h:nxt n ok i ≤ i) (g:isF n ok i = true):∀ d,d < 20 → plc n ok (i + 1 + d) = plc n ok i ++ [i]
  | 0,_ => plc_some n ok h g
  | d + 1,hd => by
    have ih:=plc_skip h g d (by omega)
    have e:nxt n ok (i + 1 + d) = i + 20:=by
      unfold nxt
      rw [ih,spn0_app]
    rw [show i + 1 + (d + 1) = (i + 1 + d) + 1 by omega,plc_in n ok (by rw [e]; omega),ih]
theorem plc_frame {i:Nat} (h:nxt n ok i ≤ i) (g:isF n ok i = true):plc n ok (i + 20) = plc n ok i ++ [i]:=by
 have:=plc_skip n ok h g 19 (by omega)
 rw [← this]
theorem nxt_frame {i:Nat} (h:nxt n ok i ≤ i) (g:isF n ok i = true):nxt n ok (i + 20) = i + 20:=by
 unfold nxt
 rw [plc_frame n ok h g,spn0_app]
theorem plc_end {i:Nat} (h:n < i + 20):∀ d,plc n ok (i + d) = plc n ok i
 | 0 => rfl
 | d + 1 => by
  rw [← plc_end h d]
  refine plc_not n ok (i:=i + d) ?_
  unfold isF
  cases e:Nat.ble (i + d + 20) n with
  | false => rfl
  | true => have:=Nat.le_of_ble_eq_true e; omega
theorem plc_last {i:Nat} (h:n < i + 20) (hi:i ≤ n):plc n ok n = plc n ok i:=by
 have:=plc_end n ok h (n - i)
 rwa [show i + (n - i) = n by omega] at this
theorem plc_lt:∀ i a,a ∈ plc n ok i → a + 20 ≤ n ∧ ok a = true ∧ a < i
  | 0,_,h => by cases h
  | i + 1,a,h => by
    cases e:(Nat.ble (spn0 (plc n ok i)).2 i && isF n ok i) with
    | false =>
      replace h:a ∈ cond (Nat.ble (spn0 (plc n ok i)).2 i && isF n ok i) (plc n ok i ++ [i]) (plc n ok i):=h
      rw [e] at h
      obtain ⟨h1,h2,h3⟩:=plc_lt i a h
      exact ⟨h1,h2,by omega⟩
    | true =>
      replace h:a ∈ cond (Nat.ble (spn0 (plc n ok i)).2 i && isF n ok i) (plc n ok i ++ [i]) (plc n ok i):=h
      rw [e] at h
      rw [Bool.and_eq_true] at e
      have g:=e.2
      unfold isF at g
      rw [Bool.and_eq_true] at g
      rcases List.mem_append.1 h with h | h
      · obtain ⟨h1,h2,h3⟩:=plc_lt i a h
        exact ⟨h1,h2,by omega⟩
      · cases List.mem_singleton.1 h
        exact ⟨Nat.le_of_ble_eq_true g.1,g.2,by omega⟩
theorem plc_len:∀ i,(plc n ok i).length ≤ i
 | 0 => Nat.le_refl _
 | i + 1 => by
  have:=plc_len i
  show (cond (Nat.ble (spn0 (plc n ok i)).2 i && isF n ok i) (plc n ok i ++ [i]) (plc n ok i)).length ≤ i + 1
  cases (Nat.ble (spn0 (plc n ok i)).2 i && isF n ok i) with
  | false => exact Nat.le_succ_of_le this
  | true => show (plc n ok i ++ [i]).length ≤ i + 1; rw [List.length_append]; simp; exact this
def skp (i:Nat):List (Int × Int):=wsp (spn0 (plc n ok i)).1 (nxt n ok i) (max (nxt n ok i) i)
theorem wsp_same {l:List (Int × Int)} {a:Nat}:wsp l a a = l:=by
 unfold wsp; rw [Nat.beq_refl]; rfl
theorem wsp_more {l:List (Int × Int)} {a b:Nat} (h:a < b):wsp l a b = l ++ [((a:Int),(b:Int))]:=by
 unfold wsp
 cases e:Nat.beq a b with
 | true => have:=Nat.eq_of_beq_eq_true e; omega
 | false => rfl
theorem nxt_le:∀ i,nxt n ok i ≤ n
  | 0 => Nat.zero_le _
  | i + 1 => by
    cases e:(Nat.ble (nxt n ok i) i && isF n ok i) with
    | true =>
      rw [Bool.and_eq_true] at e
      have l:=Nat.le_of_ble_eq_true e.1
      rw [nxt_some n ok l e.2]
      have g:=e.2
      unfold isF at g
      rw [Bool.and_eq_true] at g
      exact Nat.le_of_ble_eq_true g.1
    | false =>
      have q:plc n ok (i + 1) = plc n ok i:=by
        show cond (Nat.ble (nxt n ok i) i && isF n ok i) _ _ = _
        rw [e]; rfl
      unfold nxt
      rw [q]
      exact nxt_le i
theorem nxt_not {i:Nat} (g:isF n ok i = false):nxt n ok (i + 1) = nxt n ok i:=by
 unfold nxt; rw [plc_not n ok g]
theorem skp_end:skp n ok n = wsp (spn0 (plc n ok n)).1 (spn0 (plc n ok n)).2 n:=by
 unfold skp
 rw [Nat.max_eq_right (nxt_le n ok n)]
 rfl
theorem wsp_len {l:List (Int × Int)} {a b:Nat}:(wsp l a b).length ≤ l.length + 1:=by
 unfold wsp
 cases Nat.beq a b with
 | true => exact Nat.le_succ _
 | false => show (l ++ _).length ≤ _; rw [List.length_append]; exact Nat.le_refl _
theorem spn_len:∀ i,(spn0 (plc n ok i)).1.length ≤ i
  | 0 => Nat.le_refl _
  | i + 1 => by
    have ih:=spn_len i
    cases e:(Nat.ble (nxt n ok i) i && isF n ok i) with
    | true =>
      rw [Bool.and_eq_true] at e
      rw [plc_some n ok (Nat.le_of_ble_eq_true e.1) e.2,spn0_app]
      exact Nat.le_trans wsp_len (by omega)
    | false =>
      have q:plc n ok (i + 1) = plc n ok i:=by
        show cond (Nat.ble (nxt n ok i) i && isF n ok i) _ _ = _
        rw [e]; rfl
      rw [q]
      omega
theorem plc_pre {i:Nat}:∀ d,∃ r,plc n ok (i + d) = plc n ok i ++ r
  | 0 => ⟨[],(List.append_nil _).symm⟩
  | d + 1 => by
    obtain ⟨r,hr⟩:=plc_pre d
    cases e:(Nat.ble (spn0 (plc n ok (i + d))).2 (i + d) && isF n ok (i + d)) with
    | true =>
      refine ⟨r ++ [i + d],?_⟩
      show cond (Nat.ble (spn0 (plc n ok (i + d))).2 (i + d) && isF n ok (i + d)) (plc n ok (i + d) ++ [i + d]) (plc n ok (i + d)) = _
      rw [e,hr,List.append_assoc]
      rfl
    | false =>
      refine ⟨r,?_⟩
      show cond (Nat.ble (spn0 (plc n ok (i + d))).2 (i + d) && isF n ok (i + d)) (plc n ok (i + d) ++ [i + d]) (plc n ok (i + d)) = _
      rw [e,hr]
      rfl
theorem plc_next {i:Nat} (h:nxt n ok i ≤ i) (g:isF n ok i = true):(plc n ok i).length < (plc n ok n).length ∧ (plc n ok n).getD (plc n ok i).length 0 = i ∧ i + 20 ≤ n:=by
 have g':=g
 unfold isF at g'
 rw [Bool.and_eq_true] at g'
 have l:=Nat.le_of_ble_eq_true g'.1
 obtain ⟨r,hr⟩:=plc_pre n ok (i:=i + 1) (n - (i + 1))
 rw [show i + 1 + (n - (i + 1)) = n by omega,plc_some n ok h g,List.append_assoc] at hr
 rw [hr]
 refine ⟨?_,?_,l⟩
 ·rw [List.length_append]; simp
 ·rw [List.getD_eq_getElem?_getD,List.getElem?_append_right (Nat.le_refl _),Nat.sub_self]
  rfl
end
end Go.Tidy
namespace Go.Tidy
open Go Go.Proofs Tab
variable {tp:TProg}
def frm (l:List Nat) (i:Nat):List Nat:=(l.drop i).take 20
theorem frm_len {l:List Nat} {i:Nat} (h:i + 20 ≤ l.length):(frm l i).length = 20:=by unfold frm; rw [List.length_take,List.length_drop]; omega
theorem frm_byt {l:List Nat} (h:Byt l) (i:Nat):Byt (frm l i):=(h.drop i).take 20
def FmE (l:List Nat) (E:Nat → List Int):Prop:=∀ i,SErr [wrdB (frm l i) 0,wrdB (frm l i) 1,wrdB (frm l i) 2] (E i)
theorem fmE_ex (l:List Nat):∃ E,FmE l E:=⟨fun i => Classical.choose (serr_ex [wrdB (frm l i) 0,wrdB (frm l i) 1,wrdB (frm l i) 2]),fun i => Classical.choose_spec (serr_ex [wrdB (frm l i) 0,wrdB (frm l i) 1,wrdB (frm l i) 2])⟩
def okF (l:List Nat) (E:Nat → List Int) (i:Nat):Bool:=decF (frm l i) (E i) == 0
def pkF (l:List Nat) (i:Nat):Pkt:=(srcB (frm l i),cntB (frm l i),wrdB (frm l i) 0,wrdB (frm l i) 1,wrdB (frm l i) 2)
theorem okF_yes {l:List Nat} {E:Nat → List Int} {i:Nat} (h:okF l E i = true):decF (frm l i) (E i) = 0 ∧ deP (frm l i) (decF (frm l i) (E i)) = pkF l i:=by
 have e:decF (frm l i) (E i) = 0:=by unfold okF at h; simpa using h
 refine ⟨e,?_⟩
 rw [e]
 rfl
theorem okF_no {l:List Nat} {E:Nat → List Int} {i:Nat} (h:okF l E i = false):decF (frm l i) (E i) ≠ 0:=by
 unfold okF at h
 simpa using h
def pkL (l:List Nat) (P:List Nat):List Pkt:=P.map (pkF l)
def plcF (l:List Nat) (E:Nat → List Int) (i:Nat):List Nat:=plc l.length (okF l E) i
def nxtF (l:List Nat) (E:Nat → List Int) (i:Nat):Nat:=nxt l.length (okF l E) i
section
variable {h:TH} {l:List Nat} {E:Nat → List Int} {bo:Option Addr} {n k c:Nat}
theorem slice20 (s:SlL encY 1 h (.slice bo n k) l) (F:Fits h (.slice bo n k) 5) {i:Nat} (hi:i + 20 ≤ l.length) :
  ∃ q q':Addr,bo = some q ∧ sliceT Tryz.prog 106 (.slice (some q) n k) (some (zi (i:Nat))) (some (zi ((i:Nat) + 20))) none h = some (.slice (some q') 20 (k - i)) ∧ loadT Tryz.prog 85 (.pointer (some q')) h = some (.agg (cat encY (frm l i)).toArray):=by
 obtain ⟨bo',cap,e,h1,h2,h3⟩:=s
 cases e
 rcases h3 with ⟨_,h3⟩ | ⟨b,off,cc,fix,wr,el,rfl,A,e1,e2⟩
 ·omega
 obtain ⟨cc',fix',wr',el',A',hf⟩:=F b off l.length k rfl
 have ee:=A.get.symm.trans A'.get
 cases ee
 refine ⟨_,⟨b,off + i,none⟩,rfl,?_,?_⟩
 ·have:=sliceT_at (P:=Tryz.prog) (t:=106) (off:=off) (m:=l.length) (cap:=k) (lo:=i) (hi:=i + 20) (k:=.i64) (k':=.i64) u116 tp5 h1 (by omega) hi A hf
  rw [Nat.mul_one,show i + 20 - i = 20 by omega] at this
  exact this
 ·refine load_row tp106 A ?_ (by omega)
  have p:=eY.part l i 20
  rw [Nat.mul_one,Nat.mul_one] at p
  unfold frm
  rw [← p,← e1,List.drop_take,List.take_take,List.drop_drop,Nat.min_eq_left (by omega)]
theorem k120 (H:Has tp) (h:TH):CallW Tryz.prog tp (.func (.func 139) #[] #[]) #[.slice bo n k] h fun w h' => ∃ c,w = .func (.func 187) #[] #[ptr c] ∧ HX h h' ∧ At h' c (.cells [.slice bo n k] true true 106) ∧ h.next ≤ c:=by
 refine CallW.fnL (H.fn 139 f120 rfl rfl) ?_
 refine WL.sr <| WOL.box rfl fun h1 N1 => WOL.as rfl <| WOL.nil <| keep [(1,_)] ⟨rfl,trivial⟩ ?_
 refine WL.sr <| WOL.mf rfl <| WOL.as rfl <| WOL.nil ?_
 exact WL.done rfl ⟨_,rfl,N1.hx,N1.at_,Nat.le_refl _⟩
set_option maxHeartbeats 2000000 in
set_option maxRecDepth 10000 in
theorem y152 (H:Has tp) (X:HasX tp) (Y:HasY tp) (hb:Byt l) (hE:FmE l E) (hl:l.length ≤ 1000000) :
  Yields2 Tryz.prog tp (.func (.func 187) #[] #[ptr c]) (fun g => At g c (.cells [.slice bo n k] true true 106) ∧ SlL encY 1 g (.slice bo n k) l ∧ Fits g (.slice bo n k) 5 ∧ Free0 g.next g) (plcF l E l.length).length (fun j => zi ((plcF l E l.length).getD j 0:Nat)) fun j => pakP (pkF l ((plcF l E l.length).getD j 0)):=by
 intro h' yv I I0 hI hG step
 refine CallW.fnC (H.fn 187 f152 rfl rfl) ?_
 refine WL.sr <| WOL.as rfl <| WOL.nil <| keep [(0,_),(1,_),(3,_)] ⟨rfl,rfl,rfl,trivial⟩ ?_
 refine WL.block ?_
 refine WL.loop (fun q a g => ∃ i:Nat,i ≤ l.length ∧ q = l.length - i ∧ nxtF l E i ≤ i ∧ I (plcF l E i).length g ∧ Kn [(0,yv),(1,ptr c),(3,zi (i:Nat))] a) l.length (fun a q => ⟨0,by omega,by omega,Nat.le_refl _,I0,q.sub ⟨rfl,rfl,rfl,trivial⟩⟩) ?_
 rintro q a g ⟨i,hi,rfl,hx,q1,q⟩
 refine q.go ?_
 obtain ⟨A,s,F,f⟩:=hI _ g q1
 refine WL.seq <| WL.sr <| WOL.mv rfl <| WOL.add (m:=(i:Nat)) (n:=20) rfl rfl (by omega) (by omega) <| WOL.ld rfl (load_one tp116 A rfl) <| WOL.len rfl s u116 ?_
 refine WOL.bi (v:=.bool (decide ((i:Int) + 20 ≤ (l.length:Int)))) rfl rfl rfl <| WOL.nil <| keep [(0,_),(1,_),(3,_),(10,_)] ⟨rfl,rfl,rfl,rfl,trivial⟩ ?_
 by_cases hlt:i + 20 ≤ l.length
 ·rw [show decide ((i:Int) + 20 ≤ (l.length:Int)) = true from decide_eq_true (by omega)]
  obtain ⟨q0,q',rfl,sl,ld⟩:=slice20 s F hlt
  refine WL.yes rfl <| WL.skip ?_
  refine WL.block ?_
  refine WL.sr <| WOL.ld rfl (load_one tp116 A rfl) <| WOL.mv rfl <| WOL.mv rfl ?_
  refine WOL.add (m:=(i:Nat)) (n:=20) rfl rfl (by omega) (by omega) ?_
  refine WOL.sl rfl rfl rfl sl ?_
  refine WOL.sap u106 (by decide) (by decide) rfl <| WOL.ld rfl ld ?_
  refine WOL.cl1 rfl rfl ((k153 H X Y (frm_len hlt) (frm_byt hb i) (hE i) f).mono ?_)
  rintro w g1 ⟨rfl,X1⟩
  rw [decV_eq (frm_len hlt) (frm_byt hb i),decR_eq]
  refine WOL.mv rfl <| WOL.ex rfl rfl <| WOL.ex rfl rfl <| WOL.al tp111 fun g2 N2 => ?_
  refine WOL.sto rfl rfl tp111 N2.at_ rfl rfl (Nat.le_of_ble_eq_true rfl) rfl ((f.on X1).hx N2.hx) (Nat.le_refl _) fun g3 P3 => ?_
  have X3:HX g g3:=X1.trans (P3.hx _ N2.hx (Nat.le_refl _))
  have A4:=P3.at_
  refine WOL.as rfl <| WOL.nil <| keep [(0,_),(1,_),(3,_),(4,_),(5,_)] ⟨rfl,rfl,rfl,rfl,rfl,trivial⟩ ?_
  refine WL.seq <| WL.sr <| WOL.mv rfl ?_
  refine WOL.bi (v:=.bool (decF (frm l i) (E i) != 0)) rfl rfl rfl <| WOL.nil <| keep [(0,_),(1,_),(3,_),(4,_),(23,_)] ⟨rfl,rfl,rfl,rfl,rfl,trivial⟩ ?_
  cases ho:okF l E i with
  | false =>
   have g0:isF l.length (okF l E) i = false:=by unfold isF; rw [ho,Bool.and_false]
   rw [show (decF (frm l i) (E i) != 0) = true by have:=okF_no ho; simpa using this]
   refine WL.yes rfl <| WL.sr <| WOL.mv rfl <| WOL.add (m:=(i:Nat)) rfl rfl (by omega) (by omega) <| WOL.as rfl <| WOL.nil ?_
   refine WL.exit ?_
   refine fun a q => ⟨l.length - (i + 1),by omega,i + 1,by omega,rfl,?_,?_,q.sub ⟨rfl,rfl,rfl,trivial⟩⟩
   ·unfold nxtF; rw [nxt_not _ _ g0]; exact Nat.le_succ_of_le hx
   ·unfold plcF; rw [plc_not _ _ g0]; exact hG _ _ _ q1 X3
  | true =>
   have g0:isF l.length (okF l E) i = true:=by unfold isF; rw [ho,Bool.and_true]; exact ble_yes hlt
   obtain ⟨e1,e2⟩:=okF_yes ho
   obtain ⟨p1,p2,p3⟩:=plc_next _ _ hx g0
   rw [e1]
   refine WL.no rfl <| WL.skip ?_
   refine WL.seq <| WL.sr <| WOL.mv rfl <| WOL.mv rfl ?_
   rw [e2] at A4
   refine WOL.ld rfl (load_row tp111 A4 rfl (Nat.le_of_ble_eq_true rfl)) ?_
   have st:CallW Tryz.prog tp yv #[zi ((plcF l E l.length).getD (plcF l E i).length 0:Nat),pakP (pkF l ((plcF l E l.length).getD (plcF l E i).length 0))] g3 fun r g' => r = .bool true ∧ I ((plcF l E i).length + 1) g':=step (plcF l E i).length g3 p1 (hG _ _ _ q1 X3)
   rw [show (plcF l E l.length).getD (plcF l E i).length 0 = i from p2] at st
   refine WOL.cl2 rfl rfl rfl (st.mono ?_)
   rintro v g4 ⟨rfl,q4⟩
   refine WOL.nt rfl <| WOL.nil <| WL.no rfl <| WL.skip ?_
   refine WL.reg <| WOL.mv rfl <| WOL.add (m:=(i:Nat)) rfl rfl (by omega) (by omega) <| WOL.as rfl <| WOL.nil ?_
   refine fun a q => ⟨l.length - (i + 20),by omega,i + 20,by omega,rfl,?_,?_,q.sub ⟨rfl,rfl,rfl,trivial⟩⟩
   ·unfold nxtF; rw [nxt_frame _ _ hx g0]; exact Nat.le_refl _
   ·unfold plcF; rw [plc_frame _ _ hx g0,List.length_append]; exact q4
 ·rw [show decide ((i:Int) + 20 ≤ (l.length:Int)) = false from decide_eq_false (by omega)]
  refine WL.no rfl <| WL.exit ?_
  have e:plcF l E l.length = plcF l E i:=plc_last _ _ (by omega) hi
  rw [e]
  exact WL.endn rfl q1
theorem k121 (H:Has tp) {n0:Nat} {v:Value} {S:List (Int × Int)} {a b:Nat} (O:OwnL encS n0 h v 48 S) (f:Free0 n0 h) (hl:S.length < 1000000) (hn0:n0 ≤ h.next) :
  CallW Tryz.prog tp (.func (.func 140) #[] #[]) #[v,zi (a:Nat),zi (b:Nat)] h fun w h' => OwnL encS n0 h' w 48 (wsp S a b) ∧ (∀ h0,HX h0 h → h0.next ≤ n0 → HX h0 h') ∧ (∀ c y,bl v ≠ some c → At h c y → At h' c y) ∧ (bl w = bl v ∨ ∃ c,bl w = some c ∧ h.next ≤ c) ∧ h.next ≤ h'.next:=by
 refine CallW.fnL (H.fn 140 f121 rfl rfl) ?_
 refine WL.sr <| WOL.as rfl <| WOL.nil <| keep [(0,_),(1,_),(2,_)] ⟨rfl,rfl,rfl,trivial⟩ ?_
 refine WL.seq <| WL.sr <| WOL.mv rfl <| WOL.mv rfl ?_
 refine WOL.bi (v:=.bool ((a:Int) == (b:Int))) rfl rfl rfl <| WOL.nil <| keep [(0,_),(1,_),(2,_),(9,_)] ⟨rfl,rfl,rfl,rfl,trivial⟩ ?_
 by_cases e:a = b
 ·subst e
  rw [show ((a:Int) == (a:Int)) = true from beq_self_eq_true _]
  refine WL.yes rfl <| WL.sr <| WOL.mv rfl <| WOL.as rfl <| WOL.nil ?_
  refine WL.ret (WL.end_ rfl ?_)
  rw [wsp_same]
  exact ⟨O,fun _ x _ => x,fun _ _ _ x => x,.inl rfl,Nat.le_refl _⟩
 ·have e1:((a:Int) == (b:Int)) = false:=by
   cases q:((a:Int) == (b:Int)) with
   | false => rfl
   | true => have:=eq_of_beq q; omega
  rw [e1]
  refine WL.no rfl <| WL.skip ?_
  refine WL.sr <| WOL.mv rfl <| WOL.mv rfl <| WOL.mv rfl <| WOL.bd rfl bd48 <| WOL.bs2 rfl u44 tp48 fun h1 N1 => ?_
  obtain ⟨w2,g2,ap,O2,x2,k2,b2,n2⟩:=own_push (sT:=44) (x:=((a:Int),(b:Int))) eS u44 tp48 (O.hx N1.hx) (SlC.own (sz:=2) (m:=1) rfl N1.at_) (f.hx N1.hx) hl (Nat.le_trans hn0 N1.hx.next)
  refine WOL.ap rfl rfl ap <| WOL.as rfl <| WOL.nil ?_
  refine WL.done rfl ?_
  have ew:wsp S a b = S ++ [((a:Int),(b:Int))]:=by
   unfold wsp; rw [beq_no e]; rfl
  rw [ew]
  exact ⟨O2,fun h0 x hn => x2 h0 (x.trans N1.hx) hn,fun c y hc A => k2 c y hc (A.hx N1.hx),.inr ⟨_,b2,N1.hx.next⟩,Nat.le_trans N1.hx.next n2⟩
end
end Go.Tidy
namespace Go.Tidy
def skipK (k:Nat):Nat → List Nat
 | 0 => []
 | j + 1 => cond (Nat.beq j k) (skipK k j) (skipK k j ++ [j])
def pickK (k i:Nat):Nat:=cond (Nat.blt i k) i (i + 1)
theorem beqK_no {j k:Nat} (h:j ≠ k):Nat.beq j k = false:=by
 cases e:Nat.beq j k with
 | false => rfl
 | true => exact absurd (Nat.eq_of_beq_eq_true e) h
theorem skipK_len (k:Nat):∀ j,(skipK k j).length = cond (Nat.ble j k) j (j - 1)
  | 0 => by show (0:Nat) = _; cases Nat.ble 0 k <;> rfl
  | j + 1 => by
    have ih:=skipK_len k j
    by_cases e:j = k
    · subst e
      have e1:Nat.ble j j = true:=Nat.ble_eq_true_of_le (Nat.le_refl _)
      have e2:Nat.ble (j + 1) j = false:=by
        cases q:Nat.ble (j + 1) j with
        | false => rfl
        | true => have:=Nat.le_of_ble_eq_true q; omega
      show (cond (Nat.beq j j) (skipK j j) (skipK j j ++ [j])).length = _
      rw [Nat.beq_refl,e2]
      rw [e1] at ih
      exact ih
    · show (cond (Nat.beq j k) (skipK k j) (skipK k j ++ [j])).length = _
      rw [beqK_no e]
      show (skipK k j ++ [j]).length = _
      rw [List.length_append,ih]
      by_cases h:j + 1 ≤ k
      · rw [Nat.ble_eq_true_of_le h,Nat.ble_eq_true_of_le (show j ≤ k by omega)]; rfl
      · have q1:Nat.ble (j + 1) k = false:=by
          cases q:Nat.ble (j + 1) k with
          | false => rfl
          | true => have:=Nat.le_of_ble_eq_true q; omega
        have q2:Nat.ble j k = false:=by
          cases q:Nat.ble j k with
          | false => rfl
          | true => have:=Nat.le_of_ble_eq_true q; omega
        rw [q1,q2]
        show j - 1 + 1 = j + 1 - 1
        omega
theorem skipK_at (k:Nat):∀ j i,i < (skipK k j).length → (skipK k j)[i]? = some (pickK k i)
  | 0,i,h => by exact absurd h (Nat.not_lt_zero _)
  | j + 1,i,h => by
    by_cases e:j = k
    · subst e
      have q:skipK j (j + 1) = skipK j j:=by
        show cond (Nat.beq j j) _ _ = _
        rw [Nat.beq_refl]; rfl
      rw [q] at h ⊢
      exact skipK_at j j i h
    · have q:skipK k (j + 1) = skipK k j ++ [j]:=by
        show cond (Nat.beq j k) _ _ = _
        rw [beqK_no e]; rfl
      rw [q] at h ⊢
      by_cases hi:i < (skipK k j).length
      · rw [List.getElem?_append_left hi]
        exact skipK_at k j i hi
      · rw [List.length_append] at h
        have h:i < (skipK k j).length + 1:=h
        obtain rfl:i = (skipK k j).length:=by omega
        rw [List.getElem?_append_right (Nat.le_refl _),Nat.sub_self]
        show some j = some (pickK k (skipK k j).length)
        congr 1
        rw [skipK_len]
        unfold pickK
        by_cases hjk:j ≤ k
        · rw [Nat.ble_eq_true_of_le hjk]
          have:Nat.blt j k = true:=by
            show Nat.ble (j + 1) k = true
            exact Nat.ble_eq_true_of_le (by omega)
          show j = cond (Nat.blt j k) j (j + 1)
          rw [this]; rfl
        · have q2:Nat.ble j k = false:=by
            cases q:Nat.ble j k with
            | false => rfl
            | true => have:=Nat.le_of_ble_eq_true q; omega
          rw [q2]
          have:Nat.blt (j - 1) k = false:=by
            show Nat.ble (j - 1 + 1) k = false
            cases q:Nat.ble (j - 1 + 1) k with
            | false => rfl
            | true => have:=Nat.le_of_ble_eq_true q; omega
          show j = cond (Nat.blt (j - 1) k) (j - 1) (j - 1 + 1)
          rw [this]
          show j = j - 1 + 1
          omega
theorem skipK_mem (k:Nat):∀ j a,a ∈ skipK k j → a < j ∧ a ≠ k
  | 0,a,h => by cases h
  | j + 1,a,h => by
    by_cases e:j = k
    · subst e
      have q:skipK j (j + 1) = skipK j j:=by
        show cond (Nat.beq j j) _ _ = _
        rw [Nat.beq_refl]; rfl
      rw [q] at h
      have:=skipK_mem j j a h
      exact ⟨by omega,this.2⟩
    · have q:skipK k (j + 1) = skipK k j ++ [j]:=by
        show cond (Nat.beq j k) _ _ = _
        rw [beqK_no e]; rfl
      rw [q] at h
      rcases List.mem_append.1 h with h | h
      · have:=skipK_mem k j a h
        exact ⟨by omega,this.2⟩
      · cases List.mem_singleton.1 h
        exact ⟨by omega,e⟩
section
variable {n m k:Nat} {ok:Nat → Bool}
theorem plc_flat {i:Nat}:∀ t,(∀ d,d < t → isF n ok (i + d) = false) → plc n ok (i + t) = plc n ok i
 | 0,_ => rfl
 | t + 1,h => by
  rw [show i + (t + 1) = (i + t) + 1 by omega,plc_not n ok (h t (by omega))]
  exact plc_flat t fun d hd => h d (by omega)
def spK (k j:Nat):List (Int × Int) × Nat:=cond (Nat.ble j k) ([],20 * j) (cond (Nat.beq j (k + 1)) ([],20 * k) ([(((20 * k:Nat):Int),((20 * (k + 1):Nat):Int))],20 * j))
theorem spK_lo {j:Nat} (h:j ≤ k):spK k j = ([],20 * j):=by
 unfold spK; rw [Nat.ble_eq_true_of_le h]; rfl
theorem spK_mid:spK k (k + 1) = ([],20 * k):=by
 unfold spK
 have:Nat.ble (k + 1) k = false:=by
  cases q:Nat.ble (k + 1) k with
  | false => rfl
  | true => have:=Nat.le_of_ble_eq_true q; omega
 rw [this,Nat.beq_refl]; rfl
theorem spK_hi {j:Nat} (h:k + 1 < j):spK k j = ([(((20 * k:Nat):Int),((20 * (k + 1):Nat):Int))],20 * j):=by
 unfold spK
 have:Nat.ble j k = false:=by
  cases q:Nat.ble j k with
  | false => rfl
  | true => have:=Nat.le_of_ble_eq_true q; omega
 rw [this,beqK_no (by omega)]; rfl
theorem plc_all (hn:n = 20 * m) (h1:∀ i,i % 20 ≠ 0 → i < n → ok i = false) (h2:∀ j,j < m → ok (20 * j) = !Nat.beq j k):∀ j,j ≤ m → plc n ok (20 * j) = (skipK k j).map (20 * ·) ∧ spn0 (plc n ok (20 * j)) = spK k j ∧ nxt n ok (20 * j) ≤ 20 * j
  | 0,_ => ⟨rfl,by rw [spK_lo (Nat.zero_le _)]; rfl,Nat.le_refl _⟩
  | j + 1,hj => by
    obtain ⟨i1,i2,i3⟩:=plc_all hn h1 h2 j (by omega)
    by_cases e:j = k
    · subst e
      have f:∀ d,d < 20 → isF n ok (20 * j + d) = false:=by
        intro d hd
        unfold isF
        by_cases h0:d = 0
        · subst h0
          rw [show ok (20 * j + 0) = false by rw [Nat.add_zero,h2 j (by omega),Nat.beq_refl]; rfl,Bool.and_false]
        · rw [h1 (20 * j + d) (by omega) (by omega),Bool.and_false]
      have e:plc n ok (20 * (j + 1)) = plc n ok (20 * j):=by
        rw [show 20 * (j + 1) = 20 * j + 20 by omega]
        exact plc_flat 20 f
      rw [e]
      refine ⟨?_,?_,?_⟩
      · rw [i1]
        have q:skipK j (j + 1) = skipK j j:=by
          show cond (Nat.beq j j) _ _ = _
          rw [Nat.beq_refl]; rfl
        rw [q]
      · rw [i2,spK_lo (Nat.le_refl _),spK_mid]
      · show (spn0 (plc n ok (20 * (j + 1)))).2 ≤ _
        rw [e]
        have:(spn0 (plc n ok (20 * j))).2 ≤ 20 * j:=i3
        omega
    · have g:isF n ok (20 * j) = true:=by
        unfold isF
        rw [h2 j (by omega),beqK_no e,Nat.ble_eq_true_of_le (show 20 * j + 20 ≤ n by omega)]
        rfl
      have e20:20 * (j + 1) = 20 * j + 20:=by omega
      have q:skipK k (j + 1) = skipK k j ++ [j]:=by
        show cond (Nat.beq j k) _ _ = _
        rw [beqK_no e]; rfl
      rw [e20]
      refine ⟨?_,?_,?_⟩
      · rw [plc_frame n ok i3 g,i1,q,List.map_append]
        rfl
      · rw [plc_frame n ok i3 g,spn0_app,i2,← e20]
        by_cases hlt:j < k
        · rw [spK_lo (show j ≤ k by omega),spK_lo (show j + 1 ≤ k by omega)]
          show (wsp [] (20 * j) (20 * j),_) = _
          rw [wsp_same]
        · by_cases hm:j = k + 1
          · subst hm
            rw [spK_mid,spK_hi (show k + 1 < k + 1 + 1 by omega)]
            show (wsp [] (20 * k) (20 * (k + 1)),_) = _
            rw [wsp_more (by omega)]
            rfl
          · rw [spK_hi (show k + 1 < j by omega),spK_hi (show k + 1 < j + 1 by omega)]
            show (wsp _ (20 * j) (20 * j),_) = _
            rw [wsp_same]
      · rw [nxt_frame n ok i3 g]
        exact Nat.le_refl _
theorem skp_all (hn:n = 20 * m) (hk:k < m) (h1:∀ i,i % 20 ≠ 0 → i < n → ok i = false) (h2:∀ j,j < m → ok (20 * j) = !Nat.beq j k):plc n ok n = (skipK k m).map (20 * ·) ∧ skp n ok n = [(((20 * k:Nat):Int),((20 * (k + 1):Nat):Int))]:=by
 obtain ⟨i1,i2,i3⟩:=plc_all hn h1 h2 m (Nat.le_refl _)
 rw [← hn] at i1 i2
 refine ⟨i1,?_⟩
 rw [skp_end,i2]
 by_cases hm:m = k + 1
 ·subst hm
  rw [spK_mid]
  show wsp [] (20 * k) n = _
  rw [hn,wsp_more (by omega)]
  rfl
 ·rw [spK_hi (show k + 1 < m by omega)]
  show wsp _ (20 * m) n = _
  rw [hn,wsp_same]
end
end Go.Tidy
namespace Go.Tidy
open Go Go.Proofs Tab
theorem numB_bytes {n k:Nat}:∀ j,j ≤ k → numB ((bytesN n k).take j) = n / 256 ^ (k - j) % 256 ^ j
  | 0,_ => by rw [List.take_zero,Nat.pow_zero,Nat.mod_one]; rfl
  | j + 1,hj => by
    have hl:j < (bytesN n k).length:=by rw [bytesN_len]; omega
    rw [numB_step hl,numB_bytes j (by omega)]
    have e1:(bytesN n k).getD j 0 = n / 256 ^ (k - (j + 1)) % 256:=by
      rw [List.getD_eq_getElem?_getD,List.getElem?_eq_getElem hl]
      show (bytesN n k)[j] = _
      have:(bytesN n k)[j] = bytN n k j:=by simp [bytesN]
      rw [this]
      unfold bytN
      rw [show (2:Nat) ^ (8 * (k - 1 - j)) = 256 ^ (k - (j + 1)) by rw [Nat.pow_mul,show k - 1 - j = k - (j + 1) by omega]]
    have e2:n / 256 ^ (k - j) = n / 256 ^ (k - (j + 1)) / 256:=by
      rw [Nat.div_div_eq_div_mul,← Nat.pow_succ,show (k - (j + 1)).succ = k - j by omega]
    rw [e1,e2,Nat.pow_succ,Nat.mul_comm (256 ^ j) 256,Nat.mod_mul]
    omega
theorem numB_bytesN {n k:Nat} (h:n < 256 ^ k):numB (bytesN n k) = n:=by
 have:=numB_bytes (n:=n) (k:=k) k (Nat.le_refl _)
 rw [List.take_of_length_le (by rw [bytesN_len]; exact Nat.le_refl _),Nat.sub_self,Nat.pow_zero,Nat.div_one,Nat.mod_eq_of_lt h] at this
 exact this
theorem wordF_lt {w:Nat} (h:w < 4294967296):wordF w < 4294967296:=by
 unfold wordF
 cases zeroF w
 ·exact h
 ·show 0 < 4294967296; decide
theorem wordF_ne {w:Nat}:(((wordF w:Nat):Int) == 2147483648) = false:=by
 unfold wordF zeroF
 by_cases h0:w % 2147483648 = 0
 ·rw [decide_eq_true h0]; rfl
 ·rw [decide_eq_false h0]
  show ((w:Int) == 2147483648) = false
  exact beq_eq_false_iff_ne.2 (by omega)
theorem bodyB_lt {s c x y z:Nat}:∃ T:Nat,tot (bodyB s c x y z) = (T:Int) ∧ T < 16777213:=by
 have ti:=tot_in (bodyB s c x y z) (bodyB s c x y z).length
 rw [List.take_length] at ti
 exact ⟨(tot (bodyB s c x y z)).toNat,by omega,by omega⟩
section
variable {s c x y z:Nat} {es:List Int}
theorem frame_src:srcB (frameB s c x y z) = s:=rfl
theorem frame_cnt (hc:c < 65536):cntB (frameB s c x y z) = c:=by
 have e:((frameB s c x y z).drop 2).take 2 = bytesN c 2:=rfl
 unfold cntB
 rw [e]
 exact numB_bytesN (show c < 256 ^ 2 from hc)
theorem frame_wrd (hx:x < 4294967296) (hy:y < 4294967296) (hz:z < 4294967296) {k:Nat} (hk:k < 3):wrdB (frameB s c x y z) k = wordF (wd x y z k):=by
 unfold wrdB
 rw [part_f hk]
 refine numB_bytesN (show _ < 4294967296 from wordF_lt ?_)
 unfold wd
 split <;> assumption
theorem hdF_zero {l:List Nat}:hdF l = 0 ↔ (l.getD 0 0 = 90 ∧ ((numB (l.drop 16):Nat):Int) = tot (l.take 16)):=by
 unfold hdF
 by_cases h0:(l.getD 0 0:Int) = 90
 ·rw [show ((l.getD 0 0:Int) != 90) = false by rw [h0]; rfl]
  by_cases h1:((numB (l.drop 16):Nat):Int) = tot (l.take 16)
  ·rw [show (((numB (l.drop 16):Nat):Int) != tot (l.take 16)) = false by simp [h1]]
   exact ⟨fun _ => ⟨by omega,h1⟩,fun _ => rfl⟩
  ·rw [show (((numB (l.drop 16):Nat):Int) != tot (l.take 16)) = true by simp [h1]]
   exact ⟨fun e => (by cases e),fun e => absurd e.2 h1⟩
 ·rw [show ((l.getD 0 0:Int) != 90) = true from bne_iff_ne.2 h0]
  exact ⟨fun e => (by cases e),fun e => by have:=e.1; omega⟩
theorem frame_hd:hdF (frameB s c x y z) = 0:=by
 refine hdF_zero.2 ⟨rfl,?_⟩
 obtain ⟨T,hT,hl⟩:=bodyB_lt (s:=s) (c:=c) (x:=x) (y:=y) (z:=z)
 have e1:(frameB s c x y z).drop 16 = bytesN (tot (bodyB s c x y z)).toNat 4:=rfl
 have e2:(frameB s c x y z).take 16 = bodyB s c x y z:=rfl
 have e3:T < 256 ^ 4:=Nat.lt_trans hl (by decide)
 rw [e1,e2,hT,Int.toNat_natCast,numB_bytesN e3]
theorem frame_bad (hx:x < 4294967296) (hy:y < 4294967296) (hz:z < 4294967296):badW (frameB s c x y z) 3 = false:=by
 cases h:badW (frameB s c x y z) 3 with
 | false => rfl
 | true =>
  obtain ⟨k,hk,e⟩:=bad_at h
  rw [frame_wrd hx hy hz hk,wordF_ne] at e
  cases e
theorem frame_dec (hc:c < 65536) (hx:x < 4294967296) (hy:y < 4294967296) (hz:z < 4294967296) (h0:firstNZ es = 0):decF (frameB s c x y z) es = 0 ∧ deP (frameB s c x y z) 0 = ((s:Int),(c:Int),wordF x,wordF y,wordF z):=by
 refine ⟨?_,?_⟩
 ·unfold decF tlF
  rw [frame_hd,frame_bad hx hy hz,h0]
  rfl
 ·show ((srcB (frameB s c x y z):Int),(cntB (frameB s c x y z):Int),wrdB (frameB s c x y z) 0,wrdB (frameB s c x y z) 1,wrdB (frameB s c x y z) 2) = _
  rw [frame_src,frame_cnt hc,frame_wrd hx hy hz (by decide),frame_wrd hx hy hz (by decide),frame_wrd hx hy hz (by decide)]
  rfl
end
theorem tot_inj_x {x y:Int} {b:Nat} (hx:0 ≤ x ∧ x < 16777213) (hy:0 ≤ y ∧ y < 16777213) (h:totStep x b = totStep y b):x = y:=by
 unfold totStep at h
 omega
theorem tot_inj_b {x:Int} {a b:Nat} (ha:a < 256) (hb:b < 256) (h:totStep x a = totStep x b):a = b:=by
 unfold totStep at h
 omega
theorem tot_step_in {x:Int} {b:Nat}:0 ≤ totStep x b ∧ totStep x b < 16777213:=⟨Int.emod_nonneg _ (by decide),Int.emod_lt_of_pos _ (by decide)⟩
theorem tot_fold:∀ (w:List Nat) (x y:Int),0 ≤ x ∧ x < 16777213 → 0 ≤ y ∧ y < 16777213 → w.foldl totStep x = w.foldl totStep y → x = y
 | [],_,_,_,_,h => h
 | b :: w,x,y,hx,hy,h => tot_inj_x hx hy (tot_fold w _ _ tot_step_in tot_step_in h)
theorem tot_set {l:List Nat} (hb:Byt l) {i b:Nat} (hi:i < l.length) (hb':b < 256) (h:tot (l.set i b) = tot l):b = l[i]:=by
 have e1:l = l.take i ++ l[i] :: l.drop (i + 1):=by rw [List.getElem_cons_drop,List.take_append_drop]
 have e2:l.set i b = l.take i ++ b :: l.drop (i + 1):=by rw [List.set_eq_take_append_cons_drop,if_pos hi]
 rw [e2] at h
 conv at h => rhs; rw [e1]
 unfold tot at h
 rw [List.foldl_append,List.foldl_append,List.foldl_cons,List.foldl_cons] at h
 exact tot_inj_b hb' (hb _ (List.getElem_mem hi)) (tot_fold _ _ _ tot_step_in tot_step_in h)
theorem hd_damaged {l:List Nat} (hl:l.length = 20) (hb:Byt l) (h0:hdF l = 0) {i b:Nat} (hi:i < 20) (hb':b < 256) (hne:b ≠ l[i]):hdF (l.set i b) ≠ 0:=by
 obtain ⟨a1,a2⟩:=hdF_zero.1 h0
 intro h
 obtain ⟨b1,b2⟩:=hdF_zero.1 h
 by_cases c0:i = 0
 ·subst c0
  rw [List.getD_eq_getElem?_getD,List.getElem?_eq_getElem (by omega)] at a1
  rw [List.getD_eq_getElem?_getD,List.getElem?_set_self (by omega)] at b1
  exact hne (show b = l[0] from (show b = 90 from b1).trans (show l[0] = 90 from a1).symm)
 by_cases c1:i < 16
 ·have e1:(l.set i b).drop 16 = l.drop 16:=by rw [List.drop_set_of_lt (by omega)]
  have e2:(l.set i b).take 16 = (l.take 16).set i b:=by rw [List.take_set]
  rw [e1,e2,a2] at b2
  have:=tot_set (hb.take 16) (i:=i) (by rw [List.length_take]; omega) hb' b2.symm
  rw [List.getElem_take] at this
  exact hne this
 ·have e1:(l.set i b).drop 16 = (l.drop 16).set (i - 16) b:=by rw [List.drop_set,if_neg (by omega)]
  have e2:(l.set i b).take 16 = l.take 16:=by rw [List.take_set_of_le (by omega)]
  rw [e1,e2,← a2] at b2
  have e3:numB ((l.drop 16).set (i - 16) b) = numB (l.drop 16):=by omega
  have B1:Byt ((l.drop 16).set (i - 16) b):=by
   intro x hx
   rcases List.mem_or_eq_of_mem_set hx with hx | rfl
   ·exact hb.drop 16 x hx
   ·exact hb'
  have k1:=bytesB' (k:=4) B1 (by rw [List.length_set,List.length_drop]; omega)
  have k2:=bytesB' (k:=4) (hb.drop 16) (by rw [List.length_drop]; omega)
  rw [e3,k2] at k1
  have k3:(l.drop 16)[i - 16]? = ((l.drop 16).set (i - 16) b)[i - 16]?:=by rw [← k1]
  rw [List.getElem?_set_self (by rw [List.length_drop]; omega),List.getElem?_drop,show 16 + (i - 16) = i by omega,List.getElem?_eq_getElem (by omega)] at k3
  exact hne (Option.some.inj k3).symm
theorem dec_no {l:List Nat} {es:List Int} (h:hdF l ≠ 0):decF l es ≠ 0:=by
 unfold decF
 rw [show (hdF l != 0) = true from bne_iff_ne.2 h]
 exact h
theorem hd_first {l:List Nat} (h:l.getD 0 0 ≠ 90):hdF l ≠ 0:=fun e => h (hdF_zero.1 e).1
theorem sampE_zero:SampleE 0 0:=by
 have h:=(smp_ok (n:=0) (by decide)).2.2
 rw [smp_zero] at h
 exact h.e0
theorem sampE_word {w:Nat} (h:SampleE w 0):SampleE (wordF w) 0:=by
 unfold wordF
 cases zeroF w
 ·exact h
 ·exact sampE_zero
end Go.Tidy
namespace Go.Tidy
open Go Go.Proofs Tab
variable {tp:TProg}
theorem tp113:Tp Tryz.prog 96 1 [.slice none 0 0] false:=tp_of (by kernel_rfl) (by kernel_rfl) rfl
theorem spn_len':∀ (P:List Nat) (s:List (Int × Int) × Nat),(spn P s).1.length ≤ s.1.length + P.length
 | [],_ => Nat.le_refl _
 | a :: P,s => by
  have h1:=spn_len' P (wsp s.1 s.2 a,a + 20)
  have h2:=wsp_len (l:=s.1) (a:=s.2) (b:=a)
  show (spn P (wsp s.1 s.2 a,a + 20)).1.length ≤ s.1.length + (P.length + 1)
  have h3:(wsp s.1 s.2 a,a + 20).1.length ≤ s.1.length + 1:=h2
  omega
def RcvA (l:List Nat) (E:Nat → List Int) (h:TH) (w:Value):Prop :=
 (20480 < l.length ∧ w = .tuple #[.slice none 0 0,.slice none 0 0,zi 26]) ∨
 (l.length ≤ 20480 ∧ ∃ w1 w2,w = .tuple #[w1,w2,zi 0] ∧ SlL encP 5 h w1 (pkL l (plcF l E l.length)) ∧ SlL encS 2 h w2 (skp l.length (okF l E) l.length))
def RcJ (h:TH) (n0 c c5 c6 c7:Nat) (vs:Value) (l P:List Nat) (j:Nat) (g:TH):Prop :=
 HX h g ∧ n0 ≤ g.next ∧ At g c (.cells [vs] true true 106) ∧ ∃ w1 w2,At g c5 (.cells [w1] true true 96) ∧ At g c6 (.cells [w2] true true 44) ∧ At g c7 (.cells [zi ((spn0 (P.take j)).2:Nat)] true true 3) ∧ OwnL encP n0 g w1 92 (pkL l (P.take j)) ∧ OwnL encS n0 g w2 48 (spn0 (P.take j)).1 ∧ ∀ x,bl w1 = some x → bl w2 ≠ some x
section
variable {h g g':TH} {n0 c c5 c6 c7:Nat} {vs:Value} {l P:List Nat} {j:Nat}
theorem RcJ.hx (q:RcJ h n0 c c5 c6 c7 vs l P j g) (x:HX g g'):RcJ h n0 c c5 c6 c7 vs l P j g':=by
 obtain ⟨q1,q2,q3,w1,w2,q4,q5,q6,q7,q8,q9⟩:=q
 exact ⟨q1.trans x,Nat.le_trans q2 x.next,q3.hx x,w1,w2,q4.hx x,q5.hx x,q6.hx x,q7.hx x,q8.hx x,q9⟩
theorem RcJ.put {b:Nat} {x:TB} (q:RcJ h n0 c c5 c6 c7 vs l P j g) (p:Put g g' b x) (h0:h.next ≤ b) (hb:b < n0) (e:b ≠ c) (e5:b ≠ c5) (e6:b ≠ c6) (e7:b ≠ c7):RcJ h n0 c c5 c6 c7 vs l P j g':=by
 obtain ⟨q1,q2,q3,w1,w2,q4,q5,q6,q7,q8,q9⟩:=q
 exact ⟨p.hx _ q1 h0,by rw [p.next]; exact q2,p.oth _ _ (Ne.symm e) q3,w1,w2,p.oth _ _ (Ne.symm e5) q4,p.oth _ _ (Ne.symm e6) q5,p.oth _ _ (Ne.symm e7) q6,
  q7.keep fun c y hc a => p.oth _ _ (by have:=(q7.lt hc).1; omega) a,q8.keep fun c y hc a => p.oth _ _ (by have:=(q8.lt hc).1; omega) a,q9⟩
end
theorem pk_take {P:List Nat} {j:Nat} (hj:j < P.length):P.take (j + 1) = P.take j ++ [P.getD j 0]:=by
 rw [List.take_succ_eq_append_getElem hj,List.getD_eq_getElem?_getD,List.getElem?_eq_getElem hj]
 rfl
section
variable {h:TH} {l:List Nat} {E:Nat → List Int} {bo:Option Addr} {n k:Nat}
set_option maxHeartbeats 4000000 in
set_option maxRecDepth 10000 in
theorem k67 (H:Has tp) (X:HasX tp) (Y:HasY tp) (hb:Byt l) (hE:FmE l E) (hl:l.length ≤ 1000000) (s:SlL encY 1 h (.slice bo n k) l) (F:Fits h (.slice bo n k) 5) (f:Free0 h.next h) :
    CallW Tryz.prog tp (.func (.func 65) #[] #[]) #[.slice bo n k] h fun w h' => HX h h' ∧ RcvA l E h' w:=by
  refine CallW.fnL (H.fn 65 f67 rfl rfl) ?_
  refine WL.sr <| WOL.as rfl <| WOL.as rfl <| WOL.as rfl <| WOL.nil <| keep [(0,_)] ⟨rfl,trivial⟩ ?_
  refine WL.seq <| WL.sr <| WOL.mv rfl <| WOL.len rfl s u116 ?_
  refine WOL.bi (v:=.bool (decide ((l.length:Int) > 20480))) rfl rfl rfl <| WOL.nil <| keep [(0,_),(12,_)] ⟨rfl,rfl,trivial⟩ ?_
  by_cases hbig:20480 < l.length
  · rw [show decide ((l.length:Int) > 20480) = true from decide_eq_true (by omega)]
    refine WL.yes rfl <| WL.sr <| WOL.as rfl <| WOL.as rfl <| WOL.as rfl <| WOL.nil ?_
    exact WL.ret (WL.end_ rfl ⟨HX.refl _,.inl ⟨hbig,rfl⟩⟩)
  rw [show decide ((l.length:Int) > 20480) = false from decide_eq_false (by omega)]
  refine WL.no rfl <| WL.skip ?_
  refine WL.sr <| WOL.al tp113 fun h1 N1 => WOL.nil ?_
  refine WL.sr <| WOL.al tp44 fun h2 N2 => WOL.nil ?_
  have n1:=N1.next
  have n2:=N2.next
  refine WL.sr <| WOL.al tp3 fun h3 N3 => ?_
  have n3:=N3.next
  have X3:=(N1.hx.trans N2.hx).trans N3.hx
  refine WOL.sto rfl rfl tp3 N3.at_ rfl rfl (Nat.le_of_ble_eq_true rfl) rfl (f.hx X3) (by omega) fun h4 P4 => ?_
  have n4:=P4.next
  have X4:HX h h4:=P4.hx _ X3 (by omega)
  have B5:At h4 h.next (.cells [.slice none 0 0] true true 96):=P4.oth _ _ (by omega) ((N1.at_.hx N2.hx).hx N3.hx)
  have B6:At h4 h1.next (.cells [.slice none 0 0] true true 44):=P4.oth _ _ (by omega) (N2.at_.hx N3.hx)
  have B7:At h4 h2.next (.cells [zi 0] true true 3):=P4.at_
  refine WOL.nil <| keep [(0,_),(5,_),(6,_),(7,_)] ⟨rfl,rfl,rfl,rfl,trivial⟩ ?_
  refine WL.seq <| WL.sr <| WOL.mv rfl ?_
  refine WOL.cl1 rfl rfl ((k120 H h4).mono ?_)
  rintro w h5 ⟨c,rfl,X5,Ac,hc⟩
  have n5:=X5.next
  have ac:=Ac.lt
  have X5':=X4.trans X5
  refine WOL.nil <| keep [(0,_),(5,_),(6,_),(7,_),(14,_)] ⟨rfl,rfl,rfl,rfl,rfl,trivial⟩ ?_
  refine WL.block ?_
  have hP:∀ j,j < (plcF l E l.length).length → (plcF l E l.length).getD j 0 + 20 ≤ l.length:=by
    intro j hj
    rw [List.getD_eq_getElem?_getD,List.getElem?_eq_getElem hj]
    exact (plc_lt _ _ _ _ (List.getElem_mem hj)).1
  have hPl:(plcF l E l.length).length ≤ l.length:=plc_len _ _ _
  refine WL.range2 rfl (H.fn 187 f152 rfl rfl) (y152 H X Y hb hE hl) (RcJ h (h5.next + 1) c h.next h1.next h2.next (.slice bo n k) l (plcF l E l.length)) (fun j g q => ⟨q.2.2.1,s.hx q.1,F.hx q.1,f.on q.1⟩) (fun j g q => (f.hx q.1).up (by omega)) (fun j g g' x q p => q.put p (by omega) (by omega) (by omega) (by omega) (by omega) (by omega)) (fun j g g' q x => q.hx x) ?_ ?_ ?_
  · rintro g x N
    exact ⟨X5'.trans N.hx,by have:=N.next; omega,Ac.hx N.hx,_,_,(B5.hx X5).hx N.hx,(B6.hx X5).hx N.hx,(B7.hx X5).hx N.hx,.inl ⟨rfl,rfl⟩,.inl ⟨rfl,rfl⟩,fun x e => by cases e⟩
  · rintro j g x hj q A
    have hpj:=hP j hj
    refine WL.sr <| WOL.as rfl <| WOL.nil <| keep [(0,_),(5,_),(6,_),(7,_),(8,_),(14,_),(16,_)] ⟨rfl,rfl,rfl,rfl,rfl,rfl,rfl,trivial⟩ ?_
    refine WL.reg <| WOL.al tp111 fun g1 N1' => ?_
    have m1:=N1'.next
    have gn:=q.2.1
    refine WOL.sto rfl rfl tp111 N1'.at_ rfl rfl (Nat.le_of_ble_eq_true rfl) rfl ((f.on q.1).hx N1'.hx) (Nat.le_refl _) fun g2 P2 => ?_
    have m2:=P2.next
    have Xg2:HX g g2:=P2.hx _ N1'.hx (Nat.le_refl _)
    have D9:At g2 g.next (.cells (encP (pkF l ((plcF l E l.length).getD j 0))) true true 92):=P2.at_
    refine WOL.nil <| keep [(0,_),(5,_),(6,_),(7,_),(8,_),(9,_),(14,_)] ⟨rfl,rfl,rfl,rfl,rfl,rfl,rfl,trivial⟩ ?_
    intro r hr
    refine ⟨rfl,(f.hx (q.1.trans Xg2)).up (by omega),A.hx Xg2,fun g3 x3 P3 => ?_⟩
    refine hr.go ?_
    obtain ⟨q1,q2,qc,w1,w2,q5,q6,q7,o1,o2,ne⟩:=q
    have T:∀ z y,z ≠ h5.next → At g z y → At g3 z y:=fun z y e a => P3.oth _ _ e (a.hx Xg2)
    have E9:=P3.oth _ _ (by omega) D9
    have A3:=P3.at_
    have m3:=P3.next
    have r1:HX h g3:=P3.hx _ (q1.trans Xg2) (by omega)
    have l1:=fun z (hz:bl w1 = some z) => o1.lt hz
    have l2:=fun z (hz:bl w2 = some z) => o2.lt hz
    have O1:OwnL encP (h5.next + 1) g3 w1 92 _:=o1.keep fun z y hz a => T z y (by have:=l1 z hz; omega) a
    have O2:OwnL encS (h5.next + 1) g3 w2 48 _:=o2.keep fun z y hz a => T z y (by have:=l2 z hz; omega) a
    replace qc:=T _ _ (by omega) qc
    replace q5:=T _ _ (by omega) q5
    replace q6:=T _ _ (by omega) q6
    replace q7:=T _ _ (by omega) q7
    have fg:Free0 (h5.next + 1) g3:=(f.hx r1).up (by omega)
    have ltk:((plcF l E l.length).take j).length ≤ l.length:=by rw [List.length_take]; omega
    refine WL.block <| WL.sr ?_
    refine WOL.ld rfl (load_one tp44 q6 rfl) <| WOL.ld rfl (load_one tp3 q7 rfl) <| WOL.mv rfl ?_
    have ls:(spn0 ((plcF l E l.length).take j)).1.length < 1000000:=by
      have:=spn_len' ((plcF l E l.length).take j) ([],0)
      have e:(([],0):List (Int × Int) × Nat).1.length = 0:=rfl
      show (spn ((plcF l E l.length).take j) ([],0)).1.length < 1000000
      omega
    refine WOL.cl3 rfl rfl rfl rfl ((k121 H O2 fg ls (by omega)).mono ?_)
    rintro w2' g4 ⟨o2',x4,k4,b4,m4⟩
    obtain ⟨z2,e2⟩:=OwnF.form (Or.inl o2')
    have r4:HX h g4:=x4 _ r1 (by omega)
    have no:∀ z,z < h5.next + 1 → bl w2 ≠ some z:=fun z hz e => by have:=l2 z e; omega
    have U:∀ z y,bl w2 ≠ some z → At g3 z y → At g4 z y:=k4
    have F9:=U _ _ (fun e => by have:=l2 _ e; omega) E9
    have G1:OwnL encP (h5.next + 1) g4 w1 92 _:=O1.keep fun z y hz a => U z y (ne z hz) a
    refine WOL.sto (vs:=[w2']) rfl rfl tp44 (U _ _ (no _ (by omega)) q6) (by rw [e2]; rfl) rfl (Nat.le_of_ble_eq_true rfl) (by rw [e2]; rfl) (f.hx r4) (by omega) fun g5 P5 => ?_
    have r5:HX h g5:=P5.hx _ r4 (by omega)
    have m5:=P5.next
    have V:∀ z y,z ≠ h1.next → At g4 z y → At g5 z y:=P5.oth
    have C6:=P5.at_
    refine WOL.nil <| keep [(0,_),(5,_),(6,_),(7,_),(8,_),(9,_),(14,_)] ⟨rfl,rfl,rfl,rfl,rfl,rfl,rfl,trivial⟩ ?_
    -- the packet
    refine WL.sr <| WOL.ld rfl (load_one tp113 (V _ _ (by omega) (U _ _ (no _ (by omega)) q5)) rfl) ?_
    refine WOL.ld rfl (load_row tp111 (V _ _ (by omega) F9) rfl (Nat.le_of_ble_eq_true rfl)) ?_
    refine WOL.bsl rfl u113 tp111 (by decide) (by decide) (by decide) (cs:=encP (pkF l ((plcF l E l.length).getD j 0))) rfl fun g6 N6 => ?_
    have m6:=N6.next
    have K1:OwnL encP (h5.next + 1) g6 w1 92 _:=(G1.keep fun z y hz a => V z y (by have:=l1 z hz; omega) a).hx N6.hx
    have f6:Free0 (h5.next + 1) g6:=(f.hx (r5.trans N6.hx)).up (by omega)
    obtain ⟨w1',g7,ap,o1',x7,k7,b7,m7⟩:=own_push (sT:=96) (x:=pkF l ((plcF l E l.length).getD j 0)) eP u113 tp111 K1 (SlC.own (sz:=5) (m:=1) rfl N6.at_) f6 (by unfold pkL; rw [List.length_map]; omega) (by omega)
    refine WOL.ap rfl rfl ap ?_
    obtain ⟨z1,e1⟩:=OwnF.form (Or.inl o1')
    have r7:HX h g7:=x7 _ (r5.trans N6.hx) (by omega)
    have no1:∀ z,z < h5.next + 1 → bl w1 ≠ some z:=fun z hz e => by have:=l1 z e; omega
    have W7:∀ z y,z < h5.next + 1 → At g5 z y → At g7 z y:=fun z y hz a => k7 z y (no1 z hz) (a.hx N6.hx)
    refine WOL.sto (vs:=[w1']) rfl rfl tp113 (W7 _ _ (by omega) (V _ _ (by omega) (U _ _ (no _ (by omega)) q5))) (by rw [e1]; rfl) rfl (Nat.le_of_ble_eq_true rfl) (by rw [e1]; rfl) (f.hx r7) (by omega) fun g8 P8 => ?_
    have m8:=P8.next
    have r8:HX h g8:=P8.hx _ r7 (by omega)
    have Y8:∀ z y,z ≠ h.next → At g7 z y → At g8 z y:=P8.oth
    refine WOL.nil <| keep [(0,_),(5,_),(6,_),(7,_),(8,_),(9,_),(14,_)] ⟨rfl,rfl,rfl,rfl,rfl,rfl,rfl,trivial⟩ ?_
    refine WL.reg <| WOL.mv rfl ?_
    refine WOL.add (m:=(((plcF l E l.length).getD j 0:Nat):Int)) (n:=20) rfl rfl (by omega) (by omega) ?_
    have D7:=Y8 _ _ (by omega) (W7 _ _ (by omega) (V _ _ (by omega) (U _ _ (no _ (by omega)) q7)))
    refine WOL.sto rfl rfl tp3 D7 rfl rfl (Nat.le_of_ble_eq_true rfl) rfl (f.hx r8) (by omega) fun g9 P9 => ?_
    have m9:=P9.next
    have Z9:∀ z y,z ≠ h2.next → At g8 z y → At g9 z y:=P9.oth
    refine WOL.nil fun r hr => ?_
    have all:∀ z y,z < h5.next + 1 → z ≠ h.next → z ≠ h1.next → z ≠ h2.next → At g3 z y → At g9 z y:=fun z y hz e1 e2 e3 a => Z9 _ _ e3 (Y8 _ _ e1 (W7 _ _ hz (V _ _ e2 (U _ _ (no _ hz) a))))
    refine ⟨rfl,⟨P9.hx _ r8 (by omega),by omega,all _ _ (by omega) (by omega) (by omega) (by omega) qc,w1',w2',?_,?_,?_,?_,?_,?_⟩,all _ _ (by omega) (by omega) (by omega) (by omega) A3⟩
    · exact Z9 _ _ (by omega) P8.at_
    · exact Z9 _ _ (by omega) (Y8 _ _ (by omega) (W7 _ _ (by omega) C6))
    · rw [pk_take hj,spn0_app]
      exact P9.at_
    · rw [pk_take hj]
      unfold pkL
      rw [List.map_append]
      exact o1'.keep fun z y hz a => Z9 z y (by have:=o1'.lt hz; omega) (Y8 z y (by have:=o1'.lt hz; omega) a)
    · rw [pk_take hj,spn0_app]
      refine o2'.keep fun z y hz a => ?_
      have lz:=o2'.lt hz
      refine Z9 z y (by omega) (Y8 z y (by omega) (k7 z y ?_ ((V z y (by omega) a).hx N6.hx)))
      intro e
      rcases b4 with b4 | ⟨z',b4,b5⟩
      · exact ne z e (b4 ▸ hz)
      · have:z' = z:=Option.some.inj (b4.symm.trans hz)
        have:=l1 z e
        omega
    · intro z hz e
      have:z = g6.next:=Option.some.inj (hz.symm.trans b7)
      have:=o2'.lt e
      omega
  · rintro g ⟨q1,q2,qc,w1,w2,q5,q6,q7,o1,o2,ne⟩
    rw [List.take_length] at q7 o1 o2
    refine WL.sr <| WOL.ld rfl (load_one tp113 q5 rfl) <| WOL.ld rfl (load_one tp44 q6 rfl) <| WOL.ld rfl (load_one tp3 q7 rfl) <| WOL.mv rfl <| WOL.len rfl (s.hx q1) u116 ?_
    have fg:Free0 (h5.next + 1) g:=(f.hx q1).up (by omega)
    have ls:(spn0 (plcF l E l.length)).1.length < 1000000:=by
      have:=spn_len l.length (okF l E) l.length
      have:(spn0 (plcF l E l.length)).1.length ≤ l.length:=this
      omega
    refine WOL.lq3 [h.next] rfl rfl rfl rfl rfl fun M hM => ((k121 H (o2.relock M) (fg.held hM (fun b hb => by simp at hb; omega)) ls q2).mono ?_)
    rintro w2' g4 ⟨o2',x4,k4,b4,m4⟩
    have r4:HX h (g4.withLock g.lock):=by
      rw [q1.lock]
      exact (x4 _ (q1.locked M) (by show h.next ≤ _; omega)).relock
    refine WOL.as rfl <| WOL.as rfl <| WOL.as rfl <| WOL.nil ?_
    refine WL.done rfl ⟨r4,.inr ⟨by omega,w1,w2',rfl,?_,?_⟩⟩
    · exact ((o1.relock M).keep fun z y hz a => (k4 z y (ne z hz) a).relock _).sl eP
    · have:=(o2'.relock g.lock).sl eS
      rw [skp_end]
      exact this
end
end Go.Tidy
namespace Go.Tidy
open Go Go.Proofs Tab
variable {tp:TProg}
section
variable {h:TH} {v:Value} {l:List Pkt}
set_option maxHeartbeats 1000000 in
theorem k1020 (H:Has tp) (s:SlL encP 5 h v l) (hl:l.length ≤ 1000000) (f:Free0 h.next h):CallW Tryz.prog tp (.func (.func 67) #[] #[]) #[v] h fun w h' => HX h h' ∧ OwnL encP h.next h' w 84 l:=by
 refine CallW.fnL (H.fn 67 f1020 rfl rfl) ?_
 refine WL.sr <| WOL.as rfl <| WOL.nil <| keep [(0,_)] ⟨rfl,trivial⟩ ?_
 refine WL.sr <| WOL.as rfl <| WOL.nil <| keep [(0,_),(3,_)] ⟨rfl,rfl,trivial⟩ ?_
 refine WL.seq <| WL.sr <| WOL.mv rfl <| WOL.len rfl s u113 <| WOL.mv rfl <| WOL.nil <| keep [(3,_),(6,_),(7,_),(8,_)] ⟨rfl,rfl,rfl,rfl,trivial⟩ ?_
 refine WL.block ?_
 refine WL.loop (fun q a g => ∃ (j:Nat) (w:Value),j ≤ l.length ∧ q = l.length - j ∧ HX h g ∧ OwnL encP h.next g w 84 (l.take j) ∧ h.next ≤ g.next ∧ Kn [(3,w),(6,v),(7,zi (l.length:Nat)),(8,zi (j:Nat))] a) l.length (fun a q => ⟨0,_,by omega,by omega,HX.refl _,OwnL.nil,Nat.le_refl _,q.sub ⟨rfl,rfl,rfl,rfl,trivial⟩⟩) ?_
 rintro q a g ⟨j,w,hj,rfl,X1,O1,n1,q⟩
 refine q.go ?_
 refine WL.sr <| WOL.bi (v:=.bool (decide ((j:Int) < (l.length:Int)))) rfl rfl rfl <| WOL.nil <| keep [(3,_),(6,_),(7,_),(8,_),(9,_)] ⟨rfl,rfl,rfl,rfl,rfl,trivial⟩ ?_
 refine WL.seq ?_
 by_cases hlt:j < l.length
 ·rw [show decide ((j:Int) < (l.length:Int)) = true from decide_eq_true (by omega)]
  refine WL.yes rfl <| WL.skip ?_
  have hp:l[j]? = some l[j]:=List.getElem?_eq_getElem hlt
  obtain ⟨b,o,cc,fix,wr,el,g1,g2,g3,g4,g5⟩:=(s.hx X1).at eP u113 tp111 hp .i64
  refine WL.seq <| WL.block ?_
  refine WL.sr <| WOL.ix rfl rfl g1 <| WOL.ld rfl (load_row tp111 g2 g4 g3) ?_
  refine WOL.al tp111 fun h2 N2 => ?_
  have X2:=X1.trans N2.hx
  have n2:=N2.next
  refine WOL.sto (vs:=encP l[j]) rfl rfl tp111 N2.at_ rfl rfl (Nat.le_of_ble_eq_true rfl) rfl (f.hx X2) (by omega) fun h3 P3 => ?_
  have X3:=P3.hx _ X2 (by omega)
  have n3:=P3.next
  have A3:At h3 g.next (.cells (encP l[j]) true true 92):=P3.at_
  refine WOL.nil <| keep [(3,_),(5,_),(6,_),(7,_),(8,_)] ⟨rfl,rfl,rfl,rfl,rfl,trivial⟩ ?_
  refine WL.reg <| WOL.mv rfl <| WOL.ld rfl (load_row tp111 A3 rfl (Nat.le_of_ble_eq_true rfl)) ?_
  refine WOL.bsl rfl u1004 tp1003 (by decide) (by decide) (by decide) (cs:=encP l[j]) rfl fun h4 N4 => ?_
  have X4:=X3.trans N4.hx
  have n4:=N4.next
  have O4:OwnL encP h.next h4 w 84 (l.take j):=(O1.keep fun c y hc hA => P3.oth c y (by have:=hA.lt; omega) (hA.hx N2.hx)).hx N4.hx
  obtain ⟨w5,h5,ap,O5,x5,_,_,n5⟩:=own_push (sT:=86) (x:=l[j]) eP u1004 tp1003 O4 (SlC.own (sz:=5) (m:=1) rfl N4.at_) (f.hx X4) (by rw [List.length_take]; omega) (by omega)
  refine WOL.ap rfl rfl ap <| WOL.as rfl <| WOL.nil <| keep [(3,_),(6,_),(7,_),(8,_)] ⟨rfl,rfl,rfl,rfl,trivial⟩ ?_
  refine WL.reg ?_
  refine WOL.bi (v:=zi ((j + 1:Nat):Int)) rfl rfl (by show some (Value.int .i64 (fwrap .i64 ((j:Int) + 1))) = _; rw [fwrap_i64 (by omega) (by omega)]; rfl) ?_
  refine WOL.mv rfl <| WOL.nil ?_
  exact fun a q => ⟨l.length - (j + 1),by omega,j + 1,w5,by omega,rfl,x5 _ X4 (Nat.le_refl _),by rw [List.take_succ_eq_append_getElem hlt]; exact O5,by omega,q.sub ⟨rfl,rfl,rfl,rfl,trivial⟩⟩
 ·rw [show decide ((j:Int) < (l.length:Int)) = false from decide_eq_false (by omega)]
  obtain rfl:j = l.length:=by omega
  refine WL.no rfl <| WL.exit ?_
  refine WL.sr <| WOL.mv rfl <| WOL.as rfl <| WOL.nil ?_
  rw [List.take_length] at O1
  exact WL.done rfl ⟨X1,O1⟩
end
theorem frm_at {l:List Nat} {i k:Nat} (hk:k < 20):(frm l i).getD k 0 = l.getD (i + k) 0:=by
 unfold frm
 rw [List.getD_eq_getElem?_getD,List.getD_eq_getElem?_getD,List.getElem?_take,if_pos hk,List.getElem?_drop]
section
variable {h:TH} {l:List Nat} {E:Nat → List Int} {v:Value}
def RrI (h:TH) (l:List Nat) (E:Nat → List Int) (i:Nat) (w1 w2:Value) (g:TH):Prop :=
 HX h g ∧ OwnL encP h.next g w1 84 (pkL l (plcF l E i)) ∧ OwnL encS h.next g w2 48 (skp l.length (okF l E) i) ∧ ∀ x,bl w1 = some x → bl w2 ≠ some x
theorem RrI.hx {i:Nat} {w1 w2:Value} {g g':TH} (q:RrI h l E i w1 w2 g) (x:HX g g'):RrI h l E i w1 w2 g':=⟨q.1.trans x,q.2.1.hx x,q.2.2.1.hx x,q.2.2.2⟩
end
end Go.Tidy
namespace Go.Tidy
open Go Go.Proofs Tab
def noPk:Pkt:=(0,0,0,0,0)
section
variable (l:List Pkt)
def wX (i:Nat):Nat:=(l.getD i noPk).2.2.1
def wY (i:Nat):Nat:=(l.getD i noPk).2.2.2.1
def wZ (i:Nat):Nat:=(l.getD i noPk).2.2.2.2
def cntN (i:Nat):Nat:=((l.getD 0 noPk).2.1.toNat + i) % 65536
def sntP (i:Nat):Pkt:=(1,(cntN l i:Int),wX l i,wY l i,wZ l i)
def gotP (i:Nat):Pkt:=(1,(cntN l i:Int),wordF (wX l i),wordF (wY l i),wordF (wZ l i))
def frI (i:Nat):List Nat:=frameB 1 (cntN l i) (wX l i) (wY l i) (wZ l i)
def strm:Nat → List Nat
 | 0 => []
 | j + 1 => strm j ++ frI l j
end
def PkV (l:List Pkt):Prop:=∀ p,p ∈ l → (p.2.2.1 < 4294967296 ∧ p.2.2.2.1 < 4294967296 ∧ p.2.2.2.2 < 4294967296) ∧ SampleE p.2.2.1 0 ∧ SampleE p.2.2.2.1 0 ∧ SampleE p.2.2.2.2 0
theorem serr_000 {x y z:Nat} (hx:SampleE x 0) (hy:SampleE y 0) (hz:SampleE z 0):SErr [x,y,z] [0,0,0]:=by
 refine ⟨rfl,fun i b e h1 h2 => ?_⟩
 match i,h1,h2 with
 | 0,h1,h2 => cases h1; cases h2; exact hx
 | 1,h1,h2 => cases h1; cases h2; exact hy
 | 2,h1,h2 => cases h1; cases h2; exact hz
section
variable {l:List Pkt} {m k a b:Nat}
theorem cntN_lt {i:Nat}:cntN l i < 65536:=Nat.mod_lt _ (by decide)
theorem frI_len {i:Nat}:(frI l i).length = 20:=frameB_len
theorem strm_len:∀ j,(strm l j).length = 20 * j
 | 0 => rfl
 | j + 1 => by
  show (strm l j ++ frI l j).length = _
  rw [List.length_append,strm_len j,frI_len]
  omega
theorem strm_at:∀ (j i t:Nat),i < j → t < 20 → (strm l j)[20 * i + t]? = (frI l i)[t]?
  | 0,_,_,h,_ => absurd h (Nat.not_lt_zero _)
  | j + 1,i,t,h,ht => by
    show (strm l j ++ frI l j)[20 * i + t]? = _
    have hl:=strm_len (l:=l) j
    by_cases e:i = j
    · subst e
      rw [List.getElem?_append_right (by omega),hl,show 20 * i + t - 20 * i = t by omega]
    · rw [List.getElem?_append_left (by omega)]
      exact strm_at j i t (by omega) ht
theorem frm_get {s:List Nat} {i t:Nat}:(frm s i)[t]? = if t < 20 then s[i + t]? else none:=by
 unfold frm
 rw [List.getElem?_take]
 by_cases h:t < 20
 ·rw [if_pos h,if_pos h,List.getElem?_drop]
 ·rw [if_neg h,if_neg h]
theorem frm_strm {j:Nat} (hj:j < m):frm (strm l m) (20 * j) = frI l j:=by
 refine List.ext_getElem? fun t => ?_
 rw [frm_get]
 by_cases h:t < 20
 ·rw [if_pos h]
  exact strm_at m j t hj h
 ·rw [if_neg h,List.getElem?_eq_none (by rw [frI_len]; omega)]
def dmg (l:List Pkt) (m k a b:Nat):List Nat:=(strm l m).set (20 * k + a) b
theorem dmg_len:(dmg l m k a b).length = 20 * m:=by unfold dmg; rw [List.length_set,strm_len]
theorem dmg_other {j:Nat} (hj:j < m) (ha:a < 20) (hne:j ≠ k):frm (dmg l m k a b) (20 * j) = frI l j:=by
 rw [← frm_strm hj]
 refine List.ext_getElem? fun t => ?_
 rw [frm_get,frm_get]
 by_cases h:t < 20
 ·rw [if_pos h,if_pos h]
  unfold dmg
  rw [List.getElem?_set_ne (by omega)]
 ·rw [if_neg h,if_neg h]
theorem dmg_here (hk:k < m) (ha:a < 20):frm (dmg l m k a b) (20 * k) = (frI l k).set a b:=by
 rw [← frm_strm hk]
 refine List.ext_getElem? fun t => ?_
 have hl:=strm_len (l:=l) m
 rw [frm_get]
 by_cases h:t < 20
 ·rw [if_pos h]
  unfold dmg
  by_cases e:t = a
  ·subst e
   rw [List.getElem?_set_self (by omega),List.getElem?_set_self (by rw [frm_strm hk,frI_len]; exact h)]
  ·rw [List.getElem?_set_ne (by omega),List.getElem?_set_ne (Ne.symm e),frm_get,if_pos h]
 ·rw [if_neg h,List.getElem?_eq_none (by rw [List.length_set,frm_strm hk,frI_len]; omega)]
theorem getD_v (hV:PkV l) (i:Nat):(wX l i < 4294967296 ∧ wY l i < 4294967296 ∧ wZ l i < 4294967296) ∧ SampleE (wX l i) 0 ∧ SampleE (wY l i) 0 ∧ SampleE (wZ l i) 0:=by
 unfold wX wY wZ
 rw [List.getD_eq_getElem?_getD]
 cases h:l[i]? with
 | none => exact ⟨⟨by decide,by decide,by decide⟩,sampE_zero,sampE_zero,sampE_zero⟩
 | some p => exact hV p (List.mem_of_getElem? h)
theorem frI_byt {i:Nat}:Byt (frI l i):=fun b h => by
 rcases List.mem_append.1 (show b ∈ bodyB 1 (cntN l i) (wX l i) (wY l i) (wZ l i) ++ bytesN (tot (bodyB 1 (cntN l i) (wX l i) (wY l i) (wZ l i))).toNat 4 from h) with h | h
 ·exact bodyK_byt (by decide) 3 b h
 ·exact bytesN_byt b h
theorem strm_byt:∀ j,Byt (strm l j)
 | 0 => fun _ h => by cases h
 | j + 1 => fun b h => by
  rcases List.mem_append.1 h with h | h
  ·exact strm_byt j b h
  ·exact frI_byt b h
theorem dmg_byt (hb:b < 256):Byt (dmg l m k a b):=by
 intro x hx
 rcases List.mem_or_eq_of_mem_set hx with hx | rfl
 ·exact strm_byt m x hx
 ·exact hb
theorem found_all (hV:PkV l) (hk:k < m) (ha:a < 20) (hb:b < 256) (hne:b ≠ (frI l k).getD a 0) (hmark:∀ i,i % 20 ≠ 0 → i < 20 * m → (dmg l m k a b).getD i 0 ≠ 90) :
  ∃ E,FmE (dmg l m k a b) E ∧ pkL (dmg l m k a b) (plcF (dmg l m k a b) E (dmg l m k a b).length) = (skipK k m).map (gotP l) ∧ skp (dmg l m k a b).length (okF (dmg l m k a b) E) (dmg l m k a b).length = [(((20 * k:Nat):Int),((20 * (k + 1):Nat):Int))]:=by
 obtain ⟨E0,hE0⟩:=fmE_ex (dmg l m k a b)
 have hE:FmE (dmg l m k a b) (fun i => if i % 20 = 0 ∧ i / 20 < m ∧ i / 20 ≠ k then [0,0,0] else E0 i):=by
  intro i
  by_cases c:i % 20 = 0 ∧ i / 20 < m ∧ i / 20 ≠ k
  ·show SErr _ (if i % 20 = 0 ∧ i / 20 < m ∧ i / 20 ≠ k then [0,0,0] else E0 i)
   rw [if_pos c]
   have ei:i = 20 * (i / 20):=by omega
   rw [show frm (dmg l m k a b) i = frI l (i / 20) by rw [← dmg_other c.2.1 ha c.2.2,← ei]]
   obtain ⟨⟨x1,x2,x3⟩,s1,s2,s3⟩:=getD_v hV (i / 20)
   unfold frI
   rw [frame_wrd x1 x2 x3 (by decide),frame_wrd x1 x2 x3 (by decide),frame_wrd x1 x2 x3 (by decide)]
   exact serr_000 (sampE_word s1) (sampE_word s2) (sampE_word s3)
  ·show SErr _ (if i % 20 = 0 ∧ i / 20 < m ∧ i / 20 ≠ k then [0,0,0] else E0 i)
   rw [if_neg c]
   exact hE0 i
 generalize hEE:(fun i => if i % 20 = 0 ∧ i / 20 < m ∧ i / 20 ≠ k then [0,0,0] else E0 i) = E at hE
 have hz:∀ j,j < m → j ≠ k → E (20 * j) = [0,0,0]:=by
  intro j h1 h2
  rw [← hEE]
  show (if 20 * j % 20 = 0 ∧ 20 * j / 20 < m ∧ 20 * j / 20 ≠ k then [0,0,0] else E0 (20 * j)) = _
  rw [if_pos ⟨by omega,by omega,by omega⟩]
 have h1:∀ i,i % 20 ≠ 0 → i < (dmg l m k a b).length → okF (dmg l m k a b) E i = false:=by
  intro i c1 c2
  unfold okF
  refine beq_eq_false_iff_ne.2 (dec_no (hd_first ?_))
  rw [frm_at (by decide),Nat.add_zero]
  exact hmark i c1 (by rw [dmg_len] at c2; exact c2)
 have h2:∀ j,j < m → okF (dmg l m k a b) E (20 * j) = !Nat.beq j k:=by
  intro j hj
  by_cases e:j = k
  ·subst e
   rw [Nat.beq_refl]
   unfold okF
   refine beq_eq_false_iff_ne.2 (dec_no ?_)
   rw [dmg_here hk ha]
   refine hd_damaged frI_len frI_byt frame_hd ha hb ?_
   intro e
   apply hne
   rw [e,List.getD_eq_getElem?_getD,List.getElem?_eq_getElem (by rw [frI_len]; exact ha)]
   rfl
  ·rw [beqK_no e]
   unfold okF
   obtain ⟨⟨x1,x2,x3⟩,s1,s2,s3⟩:=getD_v hV j
   rw [dmg_other hj ha e,hz j hj e]
   unfold frI
   rw [(frame_dec cntN_lt x1 x2 x3 rfl).1]
   rfl
 obtain ⟨q1,q2⟩:=skp_all dmg_len hk h1 h2
 refine ⟨E,hE,?_,q2⟩
 unfold plcF pkL
 rw [q1,List.map_map]
 refine List.map_congr_left fun t ht => ?_
 obtain ⟨t1,t2⟩:=skipK_mem k m t ht
 show pkF (dmg l m k a b) (20 * t) = gotP l t
 obtain ⟨⟨x1,x2,x3⟩,s1,s2,s3⟩:=getD_v hV t
 have:=(frame_dec (s:=1) (c:=cntN l t) (x:=wX l t) (y:=wY l t) (z:=wZ l t) (es:=[0,0,0]) cntN_lt x1 x2 x3 rfl).2
 unfold pkF
 rw [dmg_other t1 ha t2]
 exact this
theorem lost_app {src:Int} {L:List Pkt} {p:Pkt}:lostS src (L ++ [p]) = lstep src (lostS src L) p:=by
 unfold lostS
 rw [List.foldl_append]
 rfl
theorem lstep_got {st:Option Nat × List Int} {i:Nat}:lstep 1 st (gotP l i) = (some (cntN l i),st.2 ++ more st.1 (cntN l i)):=rfl
theorem more_next {i:Nat} (h:0 < i):more (some (cntN l (i - 1))) (cntN l i) = []:=by
 show gap (cntN l (i - 1)) (cntN l i) = []
 have e:gapN (cntN l (i - 1)) (cntN l i) = 0:=by
  unfold gapN cntN
  omega
 unfold gap
 rw [e]
 rfl
theorem more_over {i:Nat} (h:0 < i):more (some (cntN l (i - 1))) (cntN l (i + 1)) = [(cntN l i:Int)]:=by
 show gap (cntN l (i - 1)) (cntN l (i + 1)) = _
 have e:gapN (cntN l (i - 1)) (cntN l (i + 1)) = 1:=by
  unfold gapN cntN
  omega
 have e2:seqAt (cntN l (i - 1)) 0 = cntN l i:=by
  unfold seqAt cntN
  omega
 unfold gap
 rw [e]
 show [((seqAt (cntN l (i - 1)) 0:Nat):Int)] = _
 rw [e2]
theorem lost_all:∀ j,(j ≤ k → lostS 1 ((skipK k j).map (gotP l)) = (cond (Nat.beq j 0) none (some (cntN l (j - 1))),[])) ∧ (j = k + 1 → lostS 1 ((skipK k j).map (gotP l)) = (cond (Nat.beq k 0) none (some (cntN l (k - 1))),[])) ∧ (k + 1 < j → lostS 1 ((skipK k j).map (gotP l)) = (some (cntN l (j - 1)),cond (Nat.beq k 0) [] [(cntN l k:Int)]))
  | 0 => ⟨fun _ => rfl,fun h => absurd h (by omega),fun h => absurd h (by omega)⟩
  | j + 1 => by
    obtain ⟨i1,i2,i3⟩:=lost_all j
    by_cases e:j = k
    · subst e
      have q:skipK j (j + 1) = skipK j j:=by
        show cond (Nat.beq j j) _ _ = _
        rw [Nat.beq_refl]; rfl
      rw [q]
      exact ⟨fun h => absurd h (by omega),fun _ => i1 (Nat.le_refl _),fun h => absurd h (by omega)⟩
    · have q:skipK k (j + 1) = skipK k j ++ [j]:=by
        show cond (Nat.beq j k) _ _ = _
        rw [beqK_no e]; rfl
      rw [q,List.map_append,List.map_cons,List.map_nil,lost_app,lstep_got]
      refine ⟨fun h => ?_,fun h => absurd h (by omega),fun h => ?_⟩
      · rw [i1 (by omega)]
        show (some (cntN l j),[] ++ more (cond (Nat.beq j 0) none (some (cntN l (j - 1)))) (cntN l j)) = (some (cntN l j),[])
        by_cases h0:j = 0
        · subst h0; rfl
        · rw [beqK_no h0]
          show (some (cntN l j),[] ++ more (some (cntN l (j - 1))) (cntN l j)) = _
          rw [more_next (by omega)]
          rfl
      · by_cases hm:j = k + 1
        · subst hm
          rw [i2 rfl]
          show (some (cntN l (k + 1)),[] ++ more (cond (Nat.beq k 0) none (some (cntN l (k - 1)))) (cntN l (k + 1))) = (some (cntN l (k + 1)),_)
          by_cases h0:k = 0
          · subst h0; rfl
          · rw [beqK_no h0]
            show (some (cntN l (k + 1)),[] ++ more (some (cntN l (k - 1))) (cntN l (k + 1))) = _
            rw [more_over (by omega)]
            rfl
        · rw [i3 (by omega)]
          show (some (cntN l j),cond (Nat.beq k 0) [] [(cntN l k:Int)] ++ more (some (cntN l (j - 1))) (cntN l j)) = (some (cntN l j),_)
          rw [more_next (by omega),List.append_nil]
theorem lost_list (hk:k < m):(lostS 1 ((skipK k m).map (gotP l))).2 = cond (Nat.beq k 0 || Nat.beq k (m - 1)) [] [(cntN l k:Int)]:=by
 obtain ⟨_,i2,i3⟩:=lost_all (l:=l) (k:=k) m
 by_cases hm:m = k + 1
 ·rw [i2 hm,show Nat.beq k (m - 1) = true by rw [hm]; exact Nat.beq_refl _,Bool.or_true]
  rfl
 ·rw [i3 (by omega),beqK_no (show k ≠ m - 1 by omega),Bool.or_false]
theorem got_err (hV:PkV l) (J:List Nat):PErr (J.map (gotP l)) (J.map fun _ => 0):=by
 refine ⟨by rw [List.length_map,List.length_map],fun i p e h1 h2 => ?_⟩
 rw [List.getElem?_map] at h1 h2
 cases hJ:J[i]? with
 | none => rw [hJ] at h1; cases h1
 | some t =>
  rw [hJ] at h1 h2
  cases h1
  cases h2
  obtain ⟨_,s1,s2,s3⟩:=getD_v hV t
  refine ⟨[0,0,0],serr_000 (sampE_word s1) (sampE_word s2) (sampE_word s3),?_⟩
  have hc:=cntN_lt (l:=l) (i:=t)
  show (0:Int) = pakE 1 (cntN l t:Int) [0,0,0]
  unfold pakE
  rw [show outB (cntN l t:Int) 0 65535 = 0 by unfold outB; rw [show decide ((cntN l t:Int) < 0) = false from decide_eq_false (by omega),show decide ((cntN l t:Int) > 65535) = false from decide_eq_false (by omega)]; rfl]
  rfl
theorem zeros_first (J:List Nat):firstNZ (J.map fun _ => (0:Int)) = 0:=by
 induction J with
 | nil => rfl
 | cons x J ih => exact ih
end
theorem feq_word {w:Nat} (h:SampleE w 0) (hw:w < 4294967296):Op.floatEq .f32 (wordF w) w = true:=by
 by_cases e:w = 0 ∨ w = 2147483648
 ·rcases e with rfl | rfl
  ·decide
  ·decide
 ·have:wordF w = w:=by
   unfold wordF zeroF
   rw [decide_eq_false (show ¬ w % 2147483648 = 0 by omega)]
   rfl
  rw [this]
  exact self_eq h rfl
end Go.Tidy
namespace Go.Tidy
open Go Go.Proofs Tab
attribute [local irreducible] Ty valOf
theorem hasYE:HasY tpE:=⟨by kernel_rfl,by kernel_rfl,by kernel_rfl,by kernel_rfl⟩
section
variable {h:TH} {n:Nat} {ps:List Value}
theorem f32_in {b:Nat} (h:(Lit.float .f32 b).wf = true):b < 4294967296:=by
 have:decide (b < 2 ^ 32) = true:=h
 exact of_decide_eq_true this
theorem ty_pkt (y:Ty Tryz.prog h (n + 3) 84 ps):∃ p:Pkt,ps = encP p ∧ p.2.2.1 < 4294967296 ∧ p.2.2.2.1 < 4294967296 ∧ p.2.2.2.2 < 4294967296:=by
 obtain ⟨p,q,rfl,_,y1,p',q',rfl,_,y2,p2,q2,rfl,_,y3,rfl⟩:=tyg_struct Tryz.underlying84 y
 obtain ⟨a,rfl,_⟩:=ty_int y1
 obtain ⟨b,rfl,_⟩:=ty_int y2
 obtain ⟨p3,q3,rfl,_,f1,p4,q4,rfl,_,f2,p5,q5,rfl,_,f3,rfl⟩:=tyg_array Tryz.underlying82 y3
 obtain ⟨w1,rfl,l1⟩:=ty_float f1
 obtain ⟨w2,rfl,l2⟩:=ty_float f2
 obtain ⟨w3,rfl,l3⟩:=ty_float f3
 exact ⟨(a,b,w1,w2,w3),rfl,f32_in l1,f32_in l2,f32_in l3⟩
end
end Go.Tidy
namespace Go.Tidy
open Go Go.Proofs Tab
variable {tp:TProg}
theorem pv_f_eq {d b c:Nat} (h:Op.floatEq .f32 b c = true):pv Tryz.prog (Op.equalIn (d + 1) 25 (.float .f32 b) (.float .f32 c)) = some true:=by
 rw [Op.equalIn,pv_bind,pv_underlying u25,Option.bind_some]
 simp [pv_pure,h]
theorem pv_like109 {d x y z x' y' z':Nat} (hx:Op.floatEq .f32 x x' = true) (hy:Op.floatEq .f32 y y' = true) (hz:Op.floatEq .f32 z z' = true):pv Tryz.prog (Op.equalIn (d + 1 + 1) 82 (.agg #[.float .f32 x,.float .f32 y,.float .f32 z]) (.agg #[.float .f32 x',.float .f32 y',.float .f32 z'])) = some true:=by
 rw [Op.equalIn,pv_bind,pv_underlying u109,Option.bind_some]
 simp only [Std.Legacy.Range.forIn_eq_forIn_range',Std.Legacy.Range.size,pv_bind,pv_s25,Option.bind_some]
 rw [show List.range' 0 ((3 - 0 + 1 - 1) / 1) 1 = [0,1,2] from rfl]
 have p0:=part25 (x:=x) (y:=y) (z:=z) (k:=0) (by decide)
 have p1:=part25 (x:=x) (y:=y) (z:=z) (k:=1) (by decide)
 have p2:=part25 (x:=x) (y:=y) (z:=z) (k:=2) (by decide)
 have r0:=part25 (x:=x') (y:=y') (z:=z') (k:=0) (by decide)
 have r1:=part25 (x:=x') (y:=y') (z:=z') (k:=1) (by decide)
 have r2:=part25 (x:=x') (y:=y') (z:=z') (k:=2) (by decide)
 have s0:=pv_f_eq (d:=d) hx
 have s1:=pv_f_eq (d:=d) hy
 have s2:=pv_f_eq (d:=d) hz
 simp only [wd] at p0 p1 p2 r0 r1 r2
 simp [List.forIn_cons,pv_bind,pv_pure,p0,p1,p2,r0,r1,r2,s0,s1,s2]
theorem pv_like1003 {s c:Int} {x y z x' y' z':Nat} (hx:Op.floatEq .f32 x x' = true) (hy:Op.floatEq .f32 y y' = true) (hz:Op.floatEq .f32 z z' = true):pv Tryz.prog (Op.equal 84 (pak s c x y z) (pak s c x' y' z')) = some true:=by
 show pv Tryz.prog (Op.equalIn (9996 + 1 + 1 + 1 + 1) 84 _ _) = _
 unfold pak
 rw [Op.equalIn,pv_bind,pv_underlying u1003,Option.bind_some]
 obtain ⟨p0,p1,p2⟩:=part1003 (s:=s) (c:=c) (x:=x) (y:=y) (z:=z)
 obtain ⟨r0,r1,r2⟩:=part1003 (s:=s) (c:=c) (x:=x') (y:=y') (z:=z')
 have i0:=pv_int_self (d:=9998) (n:=s)
 have i1:=pv_int_self (d:=9998) (n:=c)
 have i2:=pv_like109 (d:=9997) hx hy hz
 simp [pv_bind,pv_pure,pv_program,stood1003,p0,p1,p2,r0,r1,r2,i0,i1,i2]
section
variable {h:TH} {K:Regs → TH → Prop} {rest:List TOper} {d:Option Tmp} {ty:TypeId} {i:Nat} {x y:Operand} {u t:TypeId} {L:Rg}
theorem WOL.like1003 {s c:Int} {x1 y1 z1 x2 y2 z2:Nat} (n1:NoNan (s,c,x1,y1,z1)) (n2:NoNan (s,c,x2,y2,z2)) (fx:Op.floatEq .f32 x1 x2 = true) (fy:Op.floatEq .f32 y1 y2 = true) (fz:Op.floatEq .f32 z1 z2 = true) (hx:getL L x = some (pak s c x1 y1 z1)) (hy:getL L y = some (pak s c x2 y2 z2))
    (w:∀ r,Kn (putL L d (.bool false)) r → WO Tryz.prog tp rest r h K):∀ r,Kn L r → WO Tryz.prog tp (⟨d,.binOp .neq 84 x y u,ty,none,[],i⟩ :: rest) r h K:=by
  intro r k
  have ex:=getO_eval (k.o hx)
  have ey:=getO_eval (k.o hy)
  have pl1:plain (pak s c x1 y1 z1) = true:=pakP_plain n1
  have pl2:plain (pak s c x2 y2 z2) = true:=pakP_plain n2
  have hb:=pv_like1003 (s:=s) (c:=c) fx fy fz
  have eg:eqT Tryz.prog 84 (pak s c x1 y1 z1) (pak s c x2 y2 z2) = none:=eqT_agg
  refine WO.plainly rfl rfl rfl (by simp [fastOp,fastBin,ex,ey,pak]) (by simp [valueOp,ex,ey,eg]) (plainOp_of (by rfl) (fun q hq => ?_) ?_ rfl) (w _ (k.put d _))
  · simp only [Op.operands] at hq
    simp at hq
    rcases hq with rfl | rfl
    · rw [ex]; exact pl1
    · rw [ey]; exact pl2
  · show pv Tryz.prog (execOp r.eval ⟨d, .binOp .neq 84 x y u, ty, "", #[], none⟩) = _
    have hg:Tryz.prog.eqGuardType Tryz.prog.depth 84 = false:=by kernel_rfl
    unfold pak at ex ey hb
    simp [execOp,pv_bind,pv_map,pv_pure,pv_program,ex,ey,eqGuard,binOp,hb,hg]
theorem pv_xor8 {P:Program} {a b:Nat} (ha:a < 256) (hb:b < 256):pv P (binOp .xor t (.int .u8 (a:Nat)) (.int .u8 (b:Nat))) = some (.int .u8 ((a ^^^ b:Nat):Int)):=by
 have e:(BitVec.ofInt 8 (a:Int) ^^^ BitVec.ofInt 8 (b:Int)).toNat = a ^^^ b:=by
  have e1:BitVec.ofInt 8 (a:Int) = BitVec.ofNat 8 a:=BitVec.ofInt_natCast ..
  have e2:BitVec.ofInt 8 (b:Int) = BitVec.ofNat 8 b:=BitVec.ofInt_natCast ..
  rw [e1,e2,BitVec.toNat_xor,BitVec.toNat_ofNat,BitVec.toNat_ofNat,Nat.mod_eq_of_lt (by omega),Nat.mod_eq_of_lt (by omega)]
 have l:a ^^^ b < 256:=Nat.xor_lt_two_pow (n:=8) ha hb
 show pv P (pure (Value.int .u8 (IntKind.u8.wrap ((BitVec.ofInt 8 (a:Int) ^^^ BitVec.ofInt 8 (b:Int)).toNat:Nat)))) = _
 rw [e,u8_wrap,Int.emod_eq_of_lt (by omega) (by omega)]
 rfl
theorem WOL.xor8 {P:Program} {a b:Nat} (hx:getL L x = some (.int .u8 (a:Nat))) (hy:getL L y = some (.int .u8 (b:Nat))) (ha:a < 256) (hb:b < 256) (w:∀ r,Kn (putL L d (.int .u8 ((a ^^^ b:Nat):Int))) r → WO P tp rest r h K):∀ r,Kn L r → WO P tp (⟨d,.binOp .xor t x y u,ty,none,[],i⟩ :: rest) r h K :=
 WOL.pbin hx hy rfl rfl rfl ⟨by decide,by decide⟩ (pv_xor8 ha hb) rfl w
end
section
variable {P:Program} {h:TH} {v v2:Value} {e:TypeId} {n n0:Nat} {z:List Value} {row:Bool} {α:Type} {enc:α → List Value} {l m:List α}
theorem own_catB {sT:TypeId} (E:Enc enc n) (hu:P.underlying sT = some (.slice e)) (he:Tp P e n z row) (o:OwnL enc n0 h v e l) (s2:SlL enc n h v2 m) (hm:0 < m.length) (f:Free0 n0 h) (hl:l.length + m.length ≤ 1000000) (hn0:n0 ≤ h.next) :
  ∃ v' h',appendT P #[sT,sT] #[v,v2] h = some (v',h') ∧ OwnL enc n0 h' v' e (l ++ m) ∧ (∀ h0,HX h0 h → h0.next ≤ n0 → HX h0 h') ∧ (∀ c y,bl v ≠ some c → At h c y → At h' c y) ∧ bl v' = some h.next ∧ h.next ≤ h'.next:=by
 have hne:l ++ m ≠ []:=fun e => by
  have this:=congrArg List.length e
  rw [List.length_append,List.length_nil] at this
  omega
 rcases o with ⟨rfl,rfl⟩ | ⟨_,b,rfl,h2,h3⟩
 ·refine ⟨_,_,append_first hu he s2 hm (by simp at hl; omega) (E.all m),.inr ⟨hne,h.next,rfl,hn0,?_⟩,fun h0 hx hb => hx.trans (HX.new _ _),fun c y _ ha => ha.hx (HX.new _ _),rfl,Nat.le_succ _⟩
  rw [List.nil_append]
  exact At.new _ _
 ·refine ⟨_,_,append_more hu he h3 (E.cat_len l) s2 hm (by omega) (E.all m) f h2,.inr ⟨hne,h.next,?_,hn0,?_⟩,fun h0 hx hb => (hx.upd (by omega) _).trans (HX.new _ _),fun c y hc ha => (ha.upd (fun e => hc (by rw [e]; rfl))).hx (HX.new _ _),rfl,Nat.le_succ _⟩
  ·rw [List.length_append]
  ·rw [cat_append]
   exact At.new (h.upd b .dead) _
end
theorem xor_ne {b d:Nat} (hd:0 < d):b ^^^ d ≠ b:=by
 intro e
 have h:b ^^^ d ^^^ b = b ^^^ b:=by rw [e]
 rw [Nat.xor_self,Nat.xor_comm b d,Nat.xor_assoc,Nat.xor_self,Nat.xor_zero] at h
 omega
theorem lit_ints {h:TH} {b:Nat} {c:Int} {fix wr:Bool} {el:TypeId} (A:At h b (.cells [.int .i64 c] fix wr el)):IsInts h (.slice (some ⟨b,0,none⟩) 1 1) [c]:=.inr ⟨b,1,fix,wr,el,rfl,A.lt,A.get⟩
theorem got_snt {l:List Pkt} (hV:PkV l) (t:Nat):NoNan (gotP l t) ∧ NoNan (sntP l t) ∧ Op.floatEq .f32 (wordF (wX l t)) (wX l t) = true ∧ Op.floatEq .f32 (wordF (wY l t)) (wY l t) = true ∧ Op.floatEq .f32 (wordF (wZ l t)) (wZ l t) = true:=by
 obtain ⟨⟨x1,x2,x3⟩,s1,s2,s3⟩:=getD_v hV t
 exact ⟨⟨sampleE_nan (sampE_word s1) rfl,sampleE_nan (sampE_word s2) rfl,sampleE_nan (sampE_word s3) rfl⟩,⟨sampleE_nan s1 rfl,sampleE_nan s2 rfl,sampleE_nan s3 rfl⟩,feq_word s1 x1,feq_word s2 x2,feq_word s3 x3⟩
end Go.Tidy
namespace Go.Tidy
open Go Go.Proofs Tab
variable {tp:TProg}
def r1010a:TCode:=.seq (.reg r1010_5) (.block 0 (.loop (.seq (.reg r1010_6) (.seq (.cond (.tmp 42) .skip (.exit 0)) (.seq (.block 1 (.seq (.reg r1010_7) (.seq (.reg r1010_8) (.seq (.reg r1010_9) (.seq (.reg r1010_10) (.seq (.reg r1010_11) (.seq (.seq (.reg r1010_12) (.cond (.tmp 79) (.seq (.reg r1010_13) .ret) .skip)) (.reg r1010_14)))))))) (.reg r1010_15))))))
section
variable {h:TH} {l:List Pkt} {v:Value} {c3:Nat}
set_option maxHeartbeats 4000000 in
set_option maxRecDepth 10000 in
theorem k1010a (H:Has tp) (X:HasX tp) (Y:HasY tp) (hV:PkV l) (hc:0 ≤ (l.getD 0 noPk).2.1 ∧ (l.getD 0 noPk).2.1 < 65536) (hl:l.length ≤ 8) (s:SlL encP 5 h v l) (f:Free0 h.next h) {Q:Exit → Regs → TH → Prop}
  (e:∀ g w5 w6,HX h g → OwnL encP h.next g w5 84 ((List.range l.length).map (sntP l)) → OwnL encY h.next g w6 5 (strm l l.length) → (∀ x,bl w5 = some x → bl w6 ≠ some x) → ∀ a,Kn [(0,v),(3,ptr c3),(5,w5),(6,w6)] a → Q .normal a g) :
  ∀ a,Kn [(0,v),(3,ptr c3),(5,.slice none 0 0),(6,.slice none 0 0)] a → W Tryz.prog tp false r1010a a h Q:=by
 unfold r1010a
 refine WL.sr <| WOL.mv rfl <| WOL.len rfl s u1004 <| WOL.mv rfl <| WOL.nil <| keep [(0,_),(3,_),(5,_),(6,_),(39,_),(40,_),(41,_)] ⟨rfl,rfl,rfl,rfl,rfl,rfl,rfl,trivial⟩ ?_
 refine WL.block ?_
 refine WL.loop (fun q a g => ∃ (j:Nat) (w5 w6:Value),j ≤ l.length ∧ q = l.length - j ∧ HX h g ∧ OwnL encP h.next g w5 84 ((List.range j).map (sntP l)) ∧ OwnL encY h.next g w6 5 (strm l j) ∧ (∀ x,bl w5 = some x → bl w6 ≠ some x) ∧ Kn [(0,v),(3,ptr c3),(5,w5),(6,w6),(39,v),(40,zi (l.length:Nat)),(41,zi (j:Nat))] a) l.length (fun a q => ⟨0,_,_,by omega,by omega,HX.refl _,OwnL.nil,OwnL.nil,(fun x e => by cases e),q.sub ⟨rfl,rfl,rfl,rfl,rfl,rfl,rfl,trivial⟩⟩) ?_
 rintro q a g ⟨j,w5,w6,hj,rfl,X1,O5,O6,ne,q⟩
 refine q.go ?_
 refine WL.sr <| WOL.bi (v:=.bool (decide ((j:Int) < (l.length:Int)))) rfl rfl rfl <| WOL.nil <| keep [(0,_),(3,_),(5,_),(6,_),(39,_),(40,_),(41,_),(42,_)] ⟨rfl,rfl,rfl,rfl,rfl,rfl,rfl,rfl,trivial⟩ ?_
 refine WL.seq ?_
 by_cases hlt:j < l.length
 ·rw [show decide ((j:Int) < (l.length:Int)) = true from decide_eq_true (by omega)]
  refine WL.yes rfl <| WL.skip ?_
  have hp:l[j]? = some (l.getD j noPk):=by rw [List.getD_eq_getElem?_getD,List.getElem?_eq_getElem hlt]; rfl
  have hp0:l[0]? = some (l.getD 0 noPk):=by rw [List.getD_eq_getElem?_getD,List.getElem?_eq_getElem (by omega)]; rfl
  obtain ⟨b,o,cc,fix,wr,el,g1,g2,g3,g4,g5⟩:=(s.hx X1).at eP u1004 tp1003 hp .i64
  refine WL.seq <| WL.block ?_
  refine WL.sr <| WOL.mv rfl <| WOL.ix rfl rfl g1 <| WOL.ld rfl (load_row tp1003 g2 g4 g3) ?_
  refine WOL.al tp1003 fun h2 N2 => WOL.as rfl ?_
  have n2:=N2.next
  have x1:=X1.next
  have X2:=X1.trans N2.hx
  refine WOL.sto (vs:=encP (l.getD j noPk)) rfl rfl tp1003 N2.at_ rfl rfl (Nat.le_of_ble_eq_true rfl) rfl (f.hx X2) (by omega) fun h3 P3 => ?_
  have X3:HX g h3:=P3.hx _ N2.hx (Nat.le_refl _)
  have n3:=P3.next
  have A3:At h3 g.next (.cells (encP (l.getD j noPk)) true true 84):=P3.at_
  refine WOL.nil <| keep [(0,_),(3,_),(5,_),(6,_),(7,_),(8,_),(39,_),(40,_),(41,_)] ⟨rfl,rfl,rfl,rfl,rfl,rfl,rfl,rfl,rfl,trivial⟩ ?_
  obtain ⟨b0,o0,cc0,fix0,wr0,el0,k1,k2,k3,k4,k5⟩:=(s.hx (X1.trans X3)).at eP u1004 tp1003 hp0 .i64
  obtain ⟨b0',o0',cc0',fix0',wr0',el0',m1,m2,_⟩:=s.at eP u1004 tp1003 hp0 .i64
  have eb:b0' = b0:=by
   have:=m1.symm.trans k1
   injection this with this
   injection this with this
   injection this with this
   injection this with this
  have lb:=m2.lt
  have cl:(0:Int) ≤ (cntN l j:Nat):=by omega
  refine WL.sr <| WOL.mv rfl <| WOL.ix rfl rfl k1 <| WOL.fa rfl (fa_of fo1003_1) <| WOL.ld rfl (load_one tp3 k2 (k5 1 (by decide))) <| WOL.mv rfl ?_
  refine WOL.add (m:=(l.getD 0 noPk).2.1) (n:=((j:Nat):Int)) rfl rfl (by omega) (by omega) ?_
  refine WOL.rem (n:=65536) rfl rfl (by omega) (by decide) ?_
  rw [show ((l.getD 0 noPk).2.1 + (j:Int)) % 65536 = ((cntN l j:Nat):Int) by unfold cntN; omega]
  refine WOL.fa rfl (fa_of fo1003_0) ?_
  refine WOL.stQ (vs:=[zi 1]) [b0] rfl rfl rfl tp3 A3 rfl rfl (Nat.le_of_ble_eq_true rfl) rfl ((f.on X1).hx X3) (Nat.le_refl _) (by simp; omega) fun h4 P4 => ?_
  have X4:HX g h4:=P4.hx _ X3 (Nat.le_refl _)
  have n4:=P4.next
  have A4:At h4 g.next (.cells [zi 1,zi (l.getD j noPk).2.1,.float .f32 (wX l j),.float .f32 (wY l j),.float .f32 (wZ l j)] true true 84):=P4.at_
  refine WOL.fa rfl (fa_of fo1003_1) ?_
  refine WOL.sto (vs:=[zi (cntN l j:Nat)]) rfl rfl tp3 A4 rfl rfl (Nat.le_of_ble_eq_true rfl) rfl ((f.on X1).hx X4) (Nat.le_refl _) fun h5 P5 => ?_
  have X5:HX g h5:=P5.hx _ X4 (Nat.le_refl _)
  have n5:=P5.next
  have A5:At h5 g.next (.cells (encP (sntP l j)) true true 84):=P5.at_
  refine WOL.nil <| keep [(0,_),(3,_),(5,_),(6,_),(8,_),(39,_),(40,_),(41,_)] ⟨rfl,rfl,rfl,rfl,rfl,rfl,rfl,rfl,trivial⟩ ?_
  -- sent
  refine WL.sr <| WOL.mv rfl <| WOL.ld rfl (load_row tp1003 A5 rfl (Nat.le_of_ble_eq_true rfl)) ?_
  refine WOL.bsl rfl u1004 tp1003 (by decide) (by decide) (by decide) (cs:=encP (sntP l j)) rfl fun h6 N6 => ?_
  have n6:=N6.next
  have X6:=X5.trans N6.hx
  obtain ⟨w5',h7,ap,O5',x7,y7,b7,n7⟩:=own_push (sT:=86) (x:=sntP l j) eP u1004 tp1003 (O5.hx X6) (SlC.own (sz:=5) (m:=1) rfl N6.at_) (f.hx (X1.trans X6)) (by simp; omega) (by omega)
  refine WOL.ap rfl rfl ap <| WOL.as rfl <| WOL.nil <| keep [(0,_),(3,_),(5,_),(6,_),(8,_),(39,_),(40,_),(41,_)] ⟨rfl,rfl,rfl,rfl,rfl,rfl,rfl,rfl,trivial⟩ ?_
  have Z7:=x7 _ (X1.trans X6) (Nat.le_refl _)
  have l5:=fun z (hz:bl w5 = some z) => O5.lt hz
  have A7:At h7 g.next (.cells (encP (sntP l j)) true true 84):=y7 _ _ (fun e => by have:=l5 _ e; omega) (A5.hx N6.hx)
  have O6':OwnL encY h.next h7 w6 5 (strm l j):=(O6.hx X6).keep fun z y hz a => y7 z y (fun e => ne z e hz) a
  have l6:=fun z (hz:bl w6 = some z) => O6.lt hz
  -- the frame
  obtain ⟨⟨wx,wy,wz⟩,s1,s2,s3⟩:=getD_v hV j
  have hE:=serr_000 s1 s2 s3
  have hcn:=cntN_lt (l:=l) (i:=j)
  have pk0:pakE 1 (cntN l j:Int) [0,0,0] = 0:=by
   unfold pakE
   rw [show outB (cntN l j:Int) 0 65535 = 0 by unfold outB; rw [show decide ((cntN l j:Int) < 0) = false from decide_eq_false (by omega),show decide ((cntN l j:Int) > 65535) = false from decide_eq_false (by omega)]; rfl]
   rfl
  refine WL.sr <| WOL.ld rfl (load_row tp1003 A7 rfl (Nat.le_of_ble_eq_true rfl)) ?_
  refine WOL.cl1 rfl rfl ((k65 H X Y hE wx wy wz (f.on Z7)).mono ?_)
  rintro w h8 ⟨rfl,X8⟩
  have ev:=encV_eq (p:=sntP l j) (es:=[0,0,0])
  rw [show pakE (sntP l j).1 (sntP l j).2.1 [0,0,0] = 0 from pk0] at ev
  rw [show encV (sntP l j).1 (sntP l j).2.1 (wX l j) (wY l j) (wZ l j) [0,0,0] = .tuple #[.agg (cat encY (frI l j)).toArray,zi 0] from ev]
  have cf:(cat encY (frI l j)).length = 20:=by rw [eY.cat_len,frI_len]
  refine WOL.mv rfl <| WOL.ex rfl rfl <| WOL.ex rfl rfl <| WOL.al tp106 fun h9 N9 => ?_
  have n9:=N9.next
  have Z8:=Z7.trans X8
  have z8:=Z8.next
  refine WOL.sto (vs:=cat encY (frI l j)) rfl rfl tp106 N9.at_ rfl cf (Nat.le_of_ble_eq_true rfl) (eY.all _) ((f.on Z8).hx N9.hx) (Nat.le_refl _) fun h10 P10 => ?_
  have n10:=P10.next
  have X10:HX h8 h10:=P10.hx _ N9.hx (Nat.le_refl _)
  have A10:=P10.at_
  rw [splice_all _ _ (by rw [cf]; rfl)] at A10
  have Z10:=Z8.trans X10
  refine WOL.as rfl <| WOL.nil <| keep [(0,_),(3,_),(5,_),(6,_),(8,_),(9,_),(10,_),(39,_),(40,_),(41,_)] ⟨rfl,rfl,rfl,rfl,rfl,rfl,rfl,rfl,rfl,rfl,trivial⟩ ?_
  -- and back
  refine WL.sr <| WOL.ld rfl (load_row tp106 A10 (l:=cat encY (frI l j)) (by rw [List.drop_zero,List.take_of_length_le (by omega)]) (by omega)) ?_
  have hE2:SErr [wrdB (frI l j) 0,wrdB (frI l j) 1,wrdB (frI l j) 2] [0,0,0]:=by
   unfold frI
   rw [frame_wrd wx wy wz (by decide),frame_wrd wx wy wz (by decide),frame_wrd wx wy wz (by decide)]
   exact serr_000 (sampE_word s1) (sampE_word s2) (sampE_word s3)
  refine WOL.cl1 rfl rfl ((k153 H X Y frI_len frI_byt hE2 (f.on Z10)).mono ?_)
  rintro w h11 ⟨rfl,X11⟩
  obtain ⟨d1,d2⟩:=frame_dec (s:=1) (c:=cntN l j) (x:=wX l j) (y:=wY l j) (z:=wZ l j) (es:=[0,0,0]) hcn wx wy wz rfl
  have d1':decF (frI l j) [0,0,0] = 0:=d1
  have d2':deP (frI l j) 0 = gotP l j:=d2
  rw [decV_eq frI_len frI_byt,decR_eq,d1',d2']
  have Z11:=Z10.trans X11
  refine WOL.mv rfl <| WOL.ex rfl rfl <| WOL.ex rfl rfl <| WOL.al tp111 fun h12 N12 => ?_
  have n12:=N12.next
  refine WOL.sto (vs:=encP (gotP l j)) rfl rfl tp111 N12.at_ rfl rfl (Nat.le_of_ble_eq_true rfl) rfl ((f.on Z11).hx N12.hx) (Nat.le_refl _) fun h13 P13 => ?_
  have n13:=P13.next
  have X13:HX h11 h13:=P13.hx _ N12.hx (Nat.le_refl _)
  have A13:At h13 h11.next (.cells (encP (gotP l j)) true true 92):=P13.at_
  have X7_13:HX h7 h13:=((X8.trans X10).trans X11).trans X13
  have Z13:=Z11.trans X13
  refine WOL.as rfl <| WOL.nil <| keep [(0,_),(3,_),(5,_),(6,_),(8,_),(9,_),(10,_),(11,_),(12,_),(39,_),(40,_),(41,_)] ⟨rfl,rfl,rfl,rfl,rfl,rfl,rfl,rfl,rfl,rfl,rfl,rfl,trivial⟩ ?_
  -- compared
  refine WL.seq <| WL.sr <| WOL.mv rfl ?_
  refine WOL.bi (v:=.bool false) rfl rfl rfl <| WOL.mv rfl <| WOL.now (b:=false) rfl rfl <| WOL.mv rfl <| WOL.now (b:=false) rfl rfl ?_
  refine WOL.bi (v:=.bool false) rfl rfl rfl <| WOL.pkf rfl rfl <| WOL.mv rfl <| WOL.now (b:=false) rfl rfl ?_
  refine WOL.ld rfl (load_row tp111 A13 rfl (Nat.le_of_ble_eq_true rfl)) <| WOL.now (b:=false) rfl rfl ?_
  refine WOL.ld rfl (load_row tp1003 (A7.hx X7_13) rfl (Nat.le_of_ble_eq_true rfl)) <| WOL.now (b:=false) rfl rfl ?_
  obtain ⟨nn1,nn2,fx,fy,fz⟩:=got_snt hV j
  refine WOL.like1003 (s:=1) (c:=(cntN l j:Int)) nn1 nn2 fx fy fz rfl rfl <| WOL.pkf rfl rfl <| WOL.nil <| keep [(0,_),(3,_),(5,_),(6,_),(9,_),(39,_),(40,_),(41,_),(79,_)] ⟨rfl,rfl,rfl,rfl,rfl,rfl,rfl,rfl,rfl,trivial⟩ ?_
  refine WL.no rfl <| WL.skip ?_
  have A10':=(A10.hx X11).hx X13
  refine WL.reg <| WOL.mv rfl ?_
  refine WOL.slG rfl rfl rfl rfl (sliceA u106 tp5 A10' (l:=0) (hh:=20) (m:=20) rfl) ?_
  have sf:=slY (lo:=0) (hi:=20) (m:=20) A10' (by decide) (by rw [frI_len]; exact Nat.le_refl _) (Nat.le_refl _)
  rw [show ((frI l j).drop 0).take (20 - 0) = frI l j by rw [List.drop_zero,List.take_of_length_le (by rw [frI_len]; exact Nat.le_refl _)]] at sf
  obtain ⟨w6',h14,ap2,O6'',x14,y14,b14,n14⟩:=own_catB (sT:=106) eY u116 tp5 (O6'.hx X7_13) sf (by rw [frI_len]; decide) (f.hx Z13) (by rw [strm_len,frI_len]; omega) Z13.next
  refine WOL.ap rfl rfl ap2 <| WOL.as rfl <| WOL.nil <| keep [(0,_),(3,_),(5,_),(6,_),(39,_),(40,_),(41,_)] ⟨rfl,rfl,rfl,rfl,rfl,rfl,rfl,trivial⟩ ?_
  refine WL.reg ?_
  refine WOL.bi (v:=zi ((j + 1:Nat):Int)) rfl rfl (by show some (Value.int .i64 (fwrap .i64 ((j:Int) + 1))) = _; rw [fwrap_i64 (by omega) (by omega)]; rfl) ?_
  refine WOL.mv rfl <| WOL.nil ?_
  have z13:=Z13.next
  have x713:=X7_13.next
  refine fun a q => ⟨l.length - (j + 1),by omega,j + 1,w5',w6',by omega,rfl,x14 _ Z13 (Nat.le_refl _),?_,O6'',?_,q.sub ⟨rfl,rfl,rfl,rfl,rfl,rfl,rfl,trivial⟩⟩
  ·rw [List.range_succ,List.map_append]
   refine (O5'.hx X7_13).keep fun z y hz a => y14 z y (fun e => ?_) a
   have:=l6 z e
   have:z = h6.next:=Option.some.inj (hz.symm.trans b7)
   have:=X6.next
   omega
  ·intro z hz e
   have e1:z = h6.next:=Option.some.inj (hz.symm.trans b7)
   have e2:z = h13.next:=Option.some.inj (e.symm.trans b14)
   have:=O5'.lt hz
   omega
 ·rw [show decide ((j:Int) < (l.length:Int)) = false from decide_eq_false (by omega)]
  obtain rfl:j = l.length:=by omega
  refine WL.no rfl <| WL.exit ?_
  exact kto (e g w5 w6 X1 O5 O6 ne) ⟨rfl,rfl,rfl,rfl,trivial⟩
end
end Go.Tidy
namespace Go.Tidy
open Go Go.Proofs Tab
variable {tp:TProg}
theorem ix94_0 {c:Nat}:indexAddrT Tryz.prog 128 (.pointer (some ⟨c,0,none⟩)) (.int .i64 0) = some (.pointer (some ⟨c,0,none⟩)):=by kernel_rfl
theorem ix94_1 {c:Nat}:indexAddrT Tryz.prog 128 (.pointer (some ⟨c,0,none⟩)) (.int .i64 1) = some (.pointer (some ⟨c,1,none⟩)):=by kernel_rfl
theorem ix94_2 {c:Nat}:indexAddrT Tryz.prog 128 (.pointer (some ⟨c,0,none⟩)) (.int .i64 2) = some (.pointer (some ⟨c,2,none⟩)):=by kernel_rfl
def r1010b (rest:TCode):TCode:=.seq (.reg r1010_16) (.seq (.reg r1010_17) (.seq (.seq (.reg r1010_18) (.block 2 (.loop (.seq (.reg r1010_19) (.seq (.cond (.tmp 110) .skip (.exit 2)) (.seq (.block 3 (.seq (.reg r1010_20) (.seq (.reg r1010_21) (.cond (.tmp 120) (.seq (.reg r1010_22) .ret) .skip)))) (.reg r1010_23))))))) rest))
section
variable {h g:TH} {l:List Pkt} {v w5 w6:Value} {c3 n0 n1 n2:Nat}
set_option maxHeartbeats 4000000 in
set_option maxRecDepth 10000 in
theorem k1010b (A:Awk tp) (i0:n0 < 256) (i1:n1 < 256) (i2:n2 < 256) (hl:l.length ≤ 8) (hm:0 < l.length) (s:SlL encP 5 h v l) (f:Free0 h.next h) (A3:At h c3 (.cells [.int .u8 (n0:Nat),.int .u8 (n1:Nat),.int .u8 (n2:Nat)] true true 128)) (X1:HX h g) (O5:OwnL encP h.next g w5 84 ((List.range l.length).map (sntP l))) (O6:OwnL encY h.next g w6 5 (strm l l.length)) (ne:∀ x,bl w5 = some x → bl w6 ≠ some x) {rest:TCode} {Q:Exit → Regs → TH → Prop}
    (e:∀ g' k a b,k < l.length → a < 20 → b < 256 → b ≠ (frI l k).getD a 0 → (∀ i,i % 20 ≠ 0 → i < 20 * l.length → (dmg l l.length k a b).getD i 0 ≠ 90) → HX h g' → OwnL encP h.next g' w5 84 ((List.range l.length).map (sntP l)) → OwnL encY h.next g' w6 5 (dmg l l.length k a b) → ∀ r,Kn [(0,v),(5,w5),(6,w6),(13,zi (k:Nat))] r → W Tryz.prog tp false rest r g' Q)
    (er:∀ g',∀ r,Kn [(4,.bool true)] r → Q .ret r g') :
    ∀ r,Kn [(0,v),(3,ptr c3),(5,w5),(6,w6)] r → W Tryz.prog tp false (r1010b rest) r g Q:=by
  unfold r1010b
  obtain ⟨k,hk⟩:∃ k,n0 % l.length = k:=⟨_,rfl⟩
  obtain ⟨a,ha⟩:∃ a,n1 % 20 = a:=⟨_,rfl⟩
  have kl:k < l.length:=by rw [← hk]; exact Nat.mod_lt _ hm
  have al:a < 20:=by omega
  have hs:=strm_len (l:=l) l.length
  have B3:=A3.hx X1
  have c3l:=A3.lt
  refine WL.sr <| WOL.ix rfl rfl ix94_0 <| WOL.ld rfl (load_one tp5 B3 rfl) <| WOL.convU u5 u3 rfl (by omega) (by omega) <| WOL.mv rfl <| WOL.len rfl (s.hx X1) u1004 ?_
  refine WOL.rem (m:=((n0:Nat):Int)) (n:=((l.length:Nat):Int)) rfl rfl (by omega) (by omega) ?_
  rw [show ((n0:Int) % (l.length:Int)) = ((k:Nat):Int) by rw [← hk]; rfl]
  refine WOL.ix rfl rfl ix94_1 <| WOL.ld rfl (load_one tp5 B3 rfl) <| WOL.convU u5 u3 rfl (by omega) (by omega) ?_
  refine WOL.rem (m:=((n1:Nat):Int)) (n:=20) rfl rfl (by omega) (by decide) ?_
  rw [show ((n1:Int) % 20) = ((a:Nat):Int) by omega]
  refine WOL.as rfl <| WOL.as rfl <| WOL.nil <| keep [(0,_),(3,_),(5,_),(6,_),(13,_),(14,_)] ⟨rfl,rfl,rfl,rfl,rfl,rfl,trivial⟩ ?_
  -- the byte
  rcases O6 with ⟨_,e0⟩ | ⟨_,b6,rfl,hb6,A6⟩
  · rw [e0] at hs; simp at hs; omega
  have hq:20 * k + a < (strm l l.length).length:=by omega
  have hcell:(cat encY (strm l l.length))[0 + (20 * k + a) * 1]? = some (.int .u8 ((strm l l.length).getD (20 * k + a) 0:Nat)):=by
    rw [cat_Y,List.getElem?_map,Nat.zero_add,Nat.mul_one,List.getD_eq_getElem?_getD,List.getElem?_eq_getElem hq]
    rfl
  have hold:(strm l l.length).getD (20 * k + a) 0 = (frI l k).getD a 0:=by
    rw [List.getD_eq_getElem?_getD,List.getD_eq_getElem?_getD,strm_at l.length k a kl al]
  have ho:=(strm_byt (l:=l) l.length).at (20 * k + a)
  rw [hold] at hcell ho
  refine WL.sr <| WOL.mv rfl <| WOL.mv rfl ?_
  refine WOL.mul (m:=((k:Nat):Int)) (n:=20) rfl rfl (by omega) (by omega) <| WOL.mv rfl ?_
  refine WOL.bi (v:=zi ((20 * k + a:Nat):Int)) rfl rfl (by show some (Value.int .i64 (fwrap .i64 ((k:Int) * 20 + (a:Int)))) = _; rw [fwrap_i64 (by omega) (by omega)]; congr 2; omega) ?_
  refine WOL.ix rfl rfl (indexAddr_tp u116 tp5 hq) <| WOL.ld rfl (load_one tp5 A6 hcell) ?_
  refine WOL.ix rfl rfl ix94_2 <| WOL.ld rfl (load_one tp5 B3 rfl) ?_
  refine WOL.bi (v:=.int .u8 ((n2 % 255:Nat):Int)) rfl rfl rfl ?_
  refine WOL.bi (v:=.int .u8 ((1 + n2 % 255:Nat):Int)) rfl rfl (by show some (Value.int .u8 (fwrap .u8 (1 + ((n2 % 255:Nat):Int)))) = _; rw [show fwrap .u8 (1 + ((n2 % 255:Nat):Int)) = ((1 + n2 % 255:Nat):Int) by rw [fwrap_eq,u8_wrap]; omega]) ?_
  refine WOL.xor8 rfl rfl ho (by omega) ?_
  obtain ⟨b,hb⟩:∃ b,(frI l k).getD a 0 ^^^ (1 + n2 % 255) = b:=⟨_,rfl⟩
  have bl':b < 256:=by rw [← hb]; exact Nat.xor_lt_two_pow (n:=8) ho (by omega)
  have bne:b ≠ (frI l k).getD a 0:=by rw [← hb]; exact xor_ne (by omega)
  rw [hb]
  refine WOL.ix rfl rfl (indexAddr_tp u116 tp5 hq) ?_
  refine WOL.sto (vs:=encY b) rfl rfl tp5 A6 rfl rfl (by rw [eY.cat_len]; omega) rfl (f.hx X1) hb6 fun g2 P2 => ?_
  have B6:=P2.at_
  have hset:=eY.set (l:=strm l l.length) (i:=20 * k + a) hq b
  rw [Nat.zero_add,hset] at B6
  have X2:HX h g2:=P2.hx _ X1 hb6
  have dl:=dmg_len (l:=l) (m:=l.length) (k:=k) (a:=a) (b:=b)
  have O6':OwnL encY h.next g2 (.slice (some ⟨b6,0,none⟩) (strm l l.length).length (strm l l.length).length) 5 (dmg l l.length k a b):=.inr ⟨(fun e => by rw [e] at dl; simp at dl; omega),b6,by rw [dl,hs],hb6,B6⟩
  have O5':OwnL encP h.next g2 w5 84 ((List.range l.length).map (sntP l)):=O5.keep fun z y hz a => P2.oth z y (fun e => ne z hz (by rw [e]; rfl)) a
  have s6:=O6'.sl eY
  refine WOL.nil <| keep [(0,_),(5,_),(6,_),(13,_)] ⟨rfl,rfl,rfl,rfl,trivial⟩ ?_
  refine WL.seq <| WL.sr <| WOL.mv rfl <| WOL.len rfl s6 u116 <| WOL.mv rfl <| WOL.nil <| keep [(0,_),(5,_),(6,_),(13,_),(107,_),(108,_),(109,_)] ⟨rfl,rfl,rfl,rfl,rfl,rfl,rfl,trivial⟩ ?_
  refine WL.block ?_
  refine WL.loop (fun q r g' => ∃ i:Nat,i ≤ (dmg l l.length k a b).length ∧ q = (dmg l l.length k a b).length - i ∧ g' = g2 ∧ (∀ t,t < i → t % 20 ≠ 0 → (dmg l l.length k a b).getD t 0 ≠ 90) ∧ Kn [(0,v),(5,w5),(6,.slice (some ⟨b6,0,none⟩) (strm l l.length).length (strm l l.length).length),(13,zi (k:Nat)),(107,.slice (some ⟨b6,0,none⟩) (strm l l.length).length (strm l l.length).length),(108,zi ((dmg l l.length k a b).length:Nat)),(109,zi (i:Nat))] r) (dmg l l.length k a b).length (fun r q => ⟨0,by omega,by omega,rfl,fun t ht => absurd ht (by omega),q.sub ⟨rfl,rfl,rfl,rfl,rfl,rfl,rfl,trivial⟩⟩) ?_
  rintro q r g' ⟨i,hi,rfl,rfl,hmk,q⟩
  refine q.go ?_
  refine WL.sr <| WOL.bi (v:=.bool (decide ((i:Int) < ((dmg l l.length k a b).length:Int)))) rfl rfl rfl <| WOL.nil <| keep [(0,_),(5,_),(6,_),(13,_),(107,_),(108,_),(109,_),(110,_)] ⟨rfl,rfl,rfl,rfl,rfl,rfl,rfl,rfl,trivial⟩ ?_
  refine WL.seq ?_
  by_cases hlt:i < (dmg l l.length k a b).length
  · rw [show decide ((i:Int) < ((dmg l l.length k a b).length:Int)) = true from decide_eq_true (by omega)]
    obtain ⟨p,ip,lp⟩:=elemY s6 hlt
    refine WL.yes rfl <| WL.skip ?_
    refine WL.seq <| WL.block ?_
    refine WL.sr <| WOL.mv rfl <| WOL.ix rfl rfl ip <| WOL.ld rfl lp <| WOL.as rfl <| WOL.as rfl <| WOL.nil <| keep [(0,_),(5,_),(6,_),(13,_),(15,_),(16,_),(107,_),(108,_),(109,_)] ⟨rfl,rfl,rfl,rfl,rfl,rfl,rfl,rfl,rfl,trivial⟩ ?_
    refine WL.sr <| WOL.mv rfl ?_
    refine WOL.bi (v:=.bool (((dmg l l.length k a b).getD i 0:Int) == 90)) rfl rfl rfl <| WOL.mv rfl ?_
    by_cases h90:(dmg l l.length k a b).getD i 0 = 90
    · rw [show (((dmg l l.length k a b).getD i 0:Int) == 90) = true by rw [h90]; rfl]
      refine WOL.now (b:=true) rfl rfl <| WOL.mv rfl <| WOL.now (b:=true) rfl rfl ?_
      refine WOL.rem (m:=((i:Nat):Int)) (n:=20) rfl rfl (by omega) (by decide) <| WOL.now (b:=true) rfl rfl ?_
      refine WOL.bi (v:=.bool (((i:Int) % 20) != 0)) rfl rfl rfl <| WOL.pkt rfl rfl <| WOL.nil <| keep [(0,_),(5,_),(6,_),(13,_),(107,_),(108,_),(109,_),(120,_)] ⟨rfl,rfl,rfl,rfl,rfl,rfl,rfl,rfl,trivial⟩ ?_
      by_cases h20:i % 20 = 0
      · rw [show (((i:Int) % 20) != 0) = false by rw [show ((i:Int) % 20) = 0 by omega]; rfl]
        refine WL.no rfl <| WL.skip ?_
        refine WL.reg ?_
        refine WOL.bi (v:=zi ((i + 1:Nat):Int)) rfl rfl (by show some (Value.int .i64 (fwrap .i64 ((i:Int) + 1))) = _; rw [fwrap_i64 (by omega) (by omega)]; rfl) ?_
        refine WOL.mv rfl <| WOL.nil ?_
        exact fun r q => ⟨(dmg l l.length k a b).length - (i + 1),by omega,i + 1,by omega,rfl,rfl,(fun t ht h1 h2 => by
          by_cases e:t = i
          · subst e; exact h1 h20
          · exact hmk t (by omega) h1 h2),q.sub ⟨rfl,rfl,rfl,rfl,rfl,rfl,rfl,trivial⟩⟩
      · rw [show (((i:Int) % 20) != 0) = true from bne_iff_ne.2 (by omega)]
        refine WL.yes rfl <| WL.sr <| WOL.cl0 rfl ((k11 A _).mono ?_)
        rintro v' h4 ⟨rfl,rfl⟩
        refine WOL.as rfl <| WOL.nil ?_
        exact WL.ret (kto (er _) ⟨rfl,trivial⟩)
    · rw [show (((dmg l l.length k a b).getD i 0:Int) == 90) = false from beq_eq_false_iff_ne.2 (by omega)]
      refine WOL.skp (b:=false) rfl rfl <| WOL.skp (b:=false) rfl rfl <| WOL.skp (b:=false) rfl rfl <| WOL.pkf rfl rfl <| WOL.nil <| keep [(0,_),(5,_),(6,_),(13,_),(107,_),(108,_),(109,_),(120,_)] ⟨rfl,rfl,rfl,rfl,rfl,rfl,rfl,rfl,trivial⟩ ?_
      refine WL.no rfl <| WL.skip ?_
      refine WL.reg ?_
      refine WOL.bi (v:=zi ((i + 1:Nat):Int)) rfl rfl (by show some (Value.int .i64 (fwrap .i64 ((i:Int) + 1))) = _; rw [fwrap_i64 (by omega) (by omega)]; rfl) ?_
      refine WOL.mv rfl <| WOL.nil ?_
      exact fun r q => ⟨(dmg l l.length k a b).length - (i + 1),by omega,i + 1,by omega,rfl,rfl,(fun t ht h1 h2 => by
        by_cases e:t = i
        · subst e; exact h90 h2
        · exact hmk t (by omega) h1 h2),q.sub ⟨rfl,rfl,rfl,rfl,rfl,rfl,rfl,trivial⟩⟩
  · rw [show decide ((i:Int) < ((dmg l l.length k a b).length:Int)) = false from decide_eq_false (by omega)]
    refine WL.no rfl <| WL.exit ?_
    exact kto (e _ k a b kl al bl' bne (fun t h1 h2 => hmk t (by omega) h1) X2 O5' O6') ⟨rfl,rfl,rfl,rfl,trivial⟩
end
end Go.Tidy
namespace Go.Tidy
open Go Go.Proofs Tab
variable {tp:TProg}
def r1010c (rest:TCode):TCode:=.seq (.reg r1010_24) (.seq (.seq (.reg r1010_25) (.cond (.tmp 152) (.seq (.reg r1010_26) .ret) .skip)) (.seq (.seq (.reg r1010_27) (.block 4 (.loop (.seq (.reg r1010_28) (.seq (.cond (.tmp 156) .skip (.exit 4)) (.seq (.block 5 (.seq (.reg r1010_29) (.seq (.reg r1010_30) (.seq (.seq (.reg r1010_31) (.cond (.tmp 163) (.reg r1010_32) .skip)) (.seq (.reg r1010_33) (.cond (.tmp 171) (.seq (.reg r1010_34) .ret) .skip)))))) (.reg r1010_35))))))) rest))
theorem pick_lt {k i:Nat} (h:i < k):pickK k i = i:=by
 unfold pickK
 rw [show Nat.blt i k = true from Nat.ble_eq_true_of_le h]; rfl
theorem pick_ge {k i:Nat} (h:¬ i < k):pickK k i = i + 1:=by
 unfold pickK
 rw [show Nat.blt i k = false from ble_no (by omega)]; rfl
section
variable {h g:TH} {l:List Pkt} {v w5 w6:Value} {k a b:Nat}
set_option maxHeartbeats 4000000 in
set_option maxRecDepth 10000 in
theorem k1010c (H:Has tp) (X:HasX tp) (Y:HasY tp) (hV:PkV l) (hl:l.length ≤ 8) (s:SlL encP 5 h v l) (f:Free0 h.next h) (kl:k < l.length) (al:a < 20) (bl':b < 256) (bne:b ≠ (frI l k).getD a 0) (hmk:∀ i,i % 20 ≠ 0 → i < 20 * l.length → (dmg l l.length k a b).getD i 0 ≠ 90) (X1:HX h g) (s5:SlL encP 5 g w5 ((List.range l.length).map (sntP l))) (s6:SlL encY 1 g w6 (dmg l l.length k a b)) {rest:TCode} {Q:Exit → Regs → TH → Prop}
    (e:∀ g' w17,HX g g' → SlL encP 5 g' w17 ((skipK k l.length).map (gotP l)) → ∀ r,Kn [(0,v),(5,w5),(13,zi (k:Nat)),(17,w17)] r → W Tryz.prog tp false rest r g' Q) :
    ∀ r,Kn [(0,v),(5,w5),(6,w6),(13,zi (k:Nat))] r → W Tryz.prog tp false (r1010c rest) r g Q:=by
  unfold r1010c
  have dl:=dmg_len (l:=l) (m:=l.length) (k:=k) (a:=a) (b:=b)
  obtain ⟨E,hE,eL,eS⟩:=found_all hV kl al bl' bne hmk
  have lk:((skipK k l.length).map (gotP l)).length = l.length - 1:=by
    rw [List.length_map,skipK_len,ble_no (by omega)]
    rfl
  refine WL.sr <| WOL.bs0 u116 tp5 (by decide) (by decide) fun g1 N1 => WOL.mv rfl ?_
  obtain ⟨v2,g2,ap,X2,s2,b',rfl,_,F2⟩:=append_own u116 tp5 N1.at_ (s6.hx N1.hx) (by omega) (eY.all _)
  refine WOL.ap rfl rfl ap ?_
  have Y2:=N1.hx.trans X2
  refine WOL.cl1 rfl rfl ((k67 H X Y (dmg_byt bl') hE (by omega) s2 F2 (f.on (X1.trans Y2))).mono ?_)
  rintro w g3 ⟨X3,R3⟩
  rcases R3 with ⟨hbig,_⟩ | ⟨_,w17,w18,rfl,p17,p18⟩
  · omega
  rw [eL] at p17
  rw [eS] at p18
  have Y3:=Y2.trans X3
  have Z3:=X1.trans Y3
  refine WOL.mv rfl <| WOL.ex rfl rfl <| WOL.ex rfl rfl <| WOL.ex rfl rfl <| WOL.as rfl <| WOL.as rfl <| WOL.as rfl <| WOL.nil <| keep [(0,_),(5,_),(13,_),(17,_),(18,_),(19,_)] ⟨rfl,rfl,rfl,rfl,rfl,rfl,trivial⟩ ?_
  refine WL.seq <| WL.sr <| WOL.mv rfl ?_
  refine WOL.bi (v:=.bool false) rfl rfl rfl <| WOL.mv rfl <| WOL.now (b:=false) rfl rfl <| WOL.mv rfl <| WOL.now (b:=false) rfl rfl <| WOL.len rfl p17 u113 <| WOL.now (b:=false) rfl rfl <| WOL.mv rfl <| WOL.now (b:=false) rfl rfl <| WOL.len rfl (s.hx Z3) u1004 <| WOL.now (b:=false) rfl rfl ?_
  refine WOL.sub (m:=((l.length:Nat):Int)) (n:=1) rfl rfl (by omega) (by omega) <| WOL.now (b:=false) rfl rfl ?_
  refine WOL.bi (v:=.bool false) rfl rfl (by
    show some (Value.bool ((((skipK k l.length).map (gotP l)).length:Int) != ((l.length:Int) - 1))) = _
    rw [lk,show ((l.length - 1:Nat):Int) = (l.length:Int) - 1 by omega,bne_self_eq_false]) <| WOL.pkf rfl rfl <| WOL.mv rfl ?_
  refine WOL.now (b:=false) rfl rfl <| WOL.mv rfl <| WOL.now (b:=false) rfl rfl <| WOL.mv rfl <| WOL.now (b:=false) rfl rfl ?_
  refine WOL.bi (v:=zi ((20 * k:Nat):Int)) rfl rfl (by show some (Value.int .i64 (fwrap .i64 ((k:Int) * 20))) = _; rw [fwrap_i64 (by omega) (by omega)]; congr 2; omega) ?_
  refine WOL.now (b:=false) rfl rfl <| WOL.mv rfl <| WOL.now (b:=false) rfl rfl ?_
  refine WOL.add (m:=((k:Nat):Int)) (n:=1) rfl rfl (by omega) (by omega) <| WOL.now (b:=false) rfl rfl ?_
  refine WOL.bi (v:=zi ((20 * (k + 1):Nat):Int)) rfl rfl (by show some (Value.int .i64 (fwrap .i64 (((k:Int) + 1) * 20))) = _; rw [fwrap_i64 (by omega) (by omega)]; congr 2; omega) ?_
  refine WOL.now (b:=false) rfl rfl <| WOL.bd rfl bd48 <| WOL.now (b:=false) rfl rfl <| WOL.bs2 rfl u44 tp48 fun g4 N4 => WOL.now (b:=false) rfl rfl ?_
  have sp:SlL encS 2 g4 (.slice (some ⟨g3.next,0,none⟩) 1 1) [(((20 * k:Nat):Int),((20 * (k + 1):Nat):Int))]:=SlC.own (sz:=2) (m:=1) rfl N4.at_
  refine WOL.cl2 rfl rfl rfl ((k59 H (p18.hx N4.hx) sp (by simp)).mono ?_)
  rintro w g5 ⟨rfl,e5⟩
  replace e5:=e5.symm
  subst e5
  refine WOL.now (b:=false) rfl rfl <| WOL.nt rfl <| WOL.pkf rfl rfl <| WOL.nil <| keep [(0,_),(5,_),(13,_),(17,_),(152,_)] ⟨rfl,rfl,rfl,rfl,rfl,trivial⟩ ?_
  refine WL.no rfl <| WL.skip ?_
  have p4:=p17.hx N4.hx
  have Y4:=Y3.trans N4.hx
  refine WL.seq <| WL.sr <| WOL.mv rfl <| WOL.len rfl p4 u113 <| WOL.mv rfl <| WOL.nil <| keep [(0,_),(5,_),(13,_),(17,_),(153,_),(154,_),(155,_)] ⟨rfl,rfl,rfl,rfl,rfl,rfl,rfl,trivial⟩ ?_
  refine WL.block ?_
  refine WL.loop (fun q r g' => ∃ i:Nat,i ≤ ((skipK k l.length).map (gotP l)).length ∧ q = ((skipK k l.length).map (gotP l)).length - i ∧ HX g4 g' ∧ Kn [(0,v),(5,w5),(13,zi (k:Nat)),(17,w17),(153,w17),(154,zi (((skipK k l.length).map (gotP l)).length:Nat)),(155,zi (i:Nat))] r) ((skipK k l.length).map (gotP l)).length (fun r q => ⟨0,by omega,by omega,HX.refl _,q.sub ⟨rfl,rfl,rfl,rfl,rfl,rfl,rfl,trivial⟩⟩) ?_
  rintro q r g6 ⟨i,hi,rfl,X6,q⟩
  refine q.go ?_
  refine WL.sr <| WOL.bi (v:=.bool (decide ((i:Int) < (((skipK k l.length).map (gotP l)).length:Int)))) rfl rfl rfl <| WOL.nil <| keep [(0,_),(5,_),(13,_),(17,_),(153,_),(154,_),(155,_),(156,_)] ⟨rfl,rfl,rfl,rfl,rfl,rfl,rfl,rfl,trivial⟩ ?_
  refine WL.seq ?_
  by_cases hlt:i < ((skipK k l.length).map (gotP l)).length
  · rw [show decide ((i:Int) < (((skipK k l.length).map (gotP l)).length:Int)) = true from decide_eq_true (by omega)]
    have hsk:(skipK k l.length)[i]? = some (pickK k i):=skipK_at k l.length i (by rw [List.length_map] at hlt; exact hlt)
    have hp:((skipK k l.length).map (gotP l))[i]? = some (gotP l (pickK k i)):=by rw [List.getElem?_map,hsk]; rfl
    have pl:=(skipK_mem k l.length _ (List.mem_of_getElem? hsk)).1
    have hq:((List.range l.length).map (sntP l))[pickK k i]? = some (sntP l (pickK k i)):=by rw [List.getElem?_map,List.getElem?_range pl]; rfl
    obtain ⟨b1,o1,c1,x1,y1,e1,g1',g2',g3',g4',_⟩:=(p4.hx X6).at eP u113 tp111 hp .i64
    refine WL.yes rfl <| WL.skip ?_
    refine WL.seq <| WL.block ?_
    refine WL.sr <| WOL.mv rfl <| WOL.ix rfl rfl g1' <| WOL.ld rfl (load_row tp111 g2' g4' g3') ?_
    refine WOL.al tp111 fun g7 N7 => WOL.as rfl ?_
    have Z6:=(X1.trans Y4).trans X6
    refine WOL.sto (vs:=encP (gotP l (pickK k i))) rfl rfl tp111 N7.at_ rfl rfl (Nat.le_of_ble_eq_true rfl) rfl ((f.on Z6).hx N7.hx) (Nat.le_refl _) fun g8 P8 => ?_
    have X8:HX g6 g8:=P8.hx _ N7.hx (Nat.le_refl _)
    have A8:At g8 g6.next (.cells (encP (gotP l (pickK k i))) true true 92):=P8.at_
    refine WOL.nil <| keep [(0,_),(5,_),(13,_),(17,_),(20,_),(21,_),(153,_),(154,_),(155,_)] ⟨rfl,rfl,rfl,rfl,rfl,rfl,rfl,rfl,rfl,trivial⟩ ?_
    refine WL.sr <| WOL.mv rfl <| WOL.as rfl <| WOL.nil <| keep [(0,_),(5,_),(13,_),(17,_),(20,_),(21,_),(22,_),(153,_),(154,_),(155,_)] ⟨rfl,rfl,rfl,rfl,rfl,rfl,rfl,rfl,rfl,rfl,trivial⟩ ?_
    refine WL.seq <| WL.mono (Q':=fun x r g' => x = .normal ∧ g' = g8 ∧ Kn [(0,v),(5,w5),(13,zi (k:Nat)),(17,w17),(21,ptr g6.next),(22,zi (pickK k i:Nat)),(153,w17),(154,zi (((skipK k l.length).map (gotP l)).length:Nat)),(155,zi (i:Nat))] r) ?_ ?_
    · refine WL.sr <| WOL.mv rfl <| WOL.mv rfl ?_
      refine WOL.bi (v:=.bool (decide ((i:Int) ≥ (k:Int)))) rfl rfl rfl <| WOL.nil ?_
      by_cases hik:i < k
      · rw [show decide ((i:Int) ≥ (k:Int)) = false from decide_eq_false (by omega)]
        refine WL.no rfl <| WL.skip ?_
        rw [pick_lt hik]
        exact fun r q => ⟨rfl,rfl,q.sub ⟨rfl,rfl,rfl,rfl,rfl,rfl,rfl,rfl,rfl,trivial⟩⟩
      · rw [show decide ((i:Int) ≥ (k:Int)) = true from decide_eq_true (by omega)]
        refine WL.yes rfl <| WL.reg <| WOL.mv rfl ?_
        refine WOL.bi (v:=zi ((i + 1:Nat):Int)) rfl rfl (by show some (Value.int .i64 (fwrap .i64 ((i:Int) + 1))) = _; rw [fwrap_i64 (by omega) (by omega)]; rfl) ?_
        refine WOL.as rfl <| WOL.nil ?_
        rw [pick_ge hik]
        exact fun r q => ⟨rfl,rfl,q.sub ⟨rfl,rfl,rfl,rfl,rfl,rfl,rfl,rfl,rfl,trivial⟩⟩
    · rintro x r g' ⟨rfl,rfl,q⟩
      refine q.go ?_
      obtain ⟨b2,o2,c2,x2,y2,e2,k1,k2,k3,k4,_⟩:=(((s5.hx Y4).hx X6).hx X8).at eP u1004 tp1003 hq .i64
      obtain ⟨nn1,nn2,fx,fy,fz⟩:=got_snt hV (pickK k i)
      refine WL.sr <| WOL.ld rfl (load_row tp111 A8 rfl (Nat.le_of_ble_eq_true rfl)) <| WOL.mv rfl <| WOL.mv rfl <| WOL.ix rfl rfl k1 <| WOL.ld rfl (load_row tp1003 k2 k4 k3) ?_
      refine WOL.like1003 (s:=1) (c:=(cntN l (pickK k i):Int)) nn1 nn2 fx fy fz rfl rfl <| WOL.nil <| keep [(0,_),(5,_),(13,_),(17,_),(153,_),(154,_),(155,_),(171,_)] ⟨rfl,rfl,rfl,rfl,rfl,rfl,rfl,rfl,trivial⟩ ?_
      refine WL.no rfl <| WL.skip ?_
      refine WL.reg ?_
      refine WOL.bi (v:=zi ((i + 1:Nat):Int)) rfl rfl (by show some (Value.int .i64 (fwrap .i64 ((i:Int) + 1))) = _; rw [fwrap_i64 (by omega) (by omega)]; rfl) ?_
      refine WOL.mv rfl <| WOL.nil ?_
      exact fun r q => ⟨((skipK k l.length).map (gotP l)).length - (i + 1),by omega,i + 1,by omega,rfl,X6.trans X8,q.sub ⟨rfl,rfl,rfl,rfl,rfl,rfl,rfl,trivial⟩⟩
  · rw [show decide ((i:Int) < (((skipK k l.length).map (gotP l)).length:Int)) = false from decide_eq_false (by omega)]
    refine WL.no rfl <| WL.exit ?_
    exact kto (e g6 w17 (Y4.trans X6) (p4.hx X6)) ⟨rfl,rfl,rfl,rfl,trivial⟩
end
end Go.Tidy
namespace Go.Tidy
open Go Go.Proofs Tab
variable {tp:TProg}
def r1010d:TCode:=.seq (.reg r1010_36) (.seq (.seq (.reg r1010_37) (.cond (.tmp 181) (.seq (.reg r1010_38) .ret) .skip)) (.seq (.seq (.reg r1010_39) (.cond (.tmp 190) (.seq (.reg r1010_40) .ret) .skip)) (.seq (.reg r1010_41) .ret)))
section
variable {h g:TH} {l:List Pkt} {v w5 w17:Value} {k:Nat}
set_option maxHeartbeats 4000000 in
set_option maxRecDepth 10000 in
theorem k1010d (H:Has tp) (X:HasX tp) (A:Awk tp) (hV:PkV l) (hl:l.length ≤ 8) (s:SlL encP 5 g v l) (f:Free0 g.next g) (kl:k < l.length) (s5:SlL encP 5 g w5 ((List.range l.length).map (sntP l))) (s17:SlL encP 5 g w17 ((skipK k l.length).map (gotP l))) {Q:Exit → Regs → TH → Prop}
    (er:∀ g',∀ r,Kn [(4,.bool true)] r → Q .ret r g') :
    ∀ r,Kn [(0,v),(5,w5),(13,zi (k:Nat)),(17,w17)] r → W Tryz.prog tp false r1010d r g Q:=by
  unfold r1010d
  have lk:((skipK k l.length).map (gotP l)).length = l.length - 1:=by
    rw [List.length_map,skipK_len,ble_no (by omega)]
    rfl
  have hE:=got_err hV (skipK k l.length)
  have hz:lostE ((skipK k l.length).map (gotP l)).length ((skipK k l.length).map fun _ => 0) 1 = 0:=by
    unfold lostE chkE
    rw [show decide ((((skipK k l.length).map (gotP l)).length:Int) > 1024) = false from decide_eq_false (by omega),zeros_first]
    rfl
  have ll:=lost_list (l:=l) kl
  refine WL.sr <| WOL.mv rfl ?_
  refine WOL.cl1 rfl rfl ((k1020 H s17 (by omega) f).mono ?_)
  rintro w g1 ⟨X1,o1⟩
  refine WOL.cl1 rfl rfl ((k1013 H (o1.sl eP) (by omega) (f.on X1)).mono ?_)
  rintro w g2 ⟨X2,o2⟩
  have Y2:=X1.trans X2
  refine WOL.cl2 rfl rfl rfl ((k66 H X (o2.sl eP) hE (by omega) (f.on Y2)).mono ?_)
  rintro w g3 ⟨X3,w23,e,rfl,q⟩
  have Y3:=Y2.trans X3
  rcases q with ⟨q,_⟩ | ⟨_,q⟩
  · exact absurd hz q
  rw [ll] at q
  rcases q with ⟨_,rfl,o23⟩ | ⟨q,_⟩
  · refine WOL.mv rfl <| WOL.ex rfl rfl <| WOL.ex rfl rfl <| WOL.as rfl <| WOL.as rfl <| WOL.nil <| keep [(0,_),(5,_),(13,_),(23,_),(24,_)] ⟨rfl,rfl,rfl,rfl,rfl,trivial⟩ ?_
    refine WL.seq <| WL.sr <| WOL.mv rfl ?_
    refine WOL.bi (v:=.bool false) rfl rfl rfl <| WOL.nil <| keep [(0,_),(5,_),(13,_),(23,_),(181,_)] ⟨rfl,rfl,rfl,rfl,rfl,trivial⟩ ?_
    refine WL.no rfl <| WL.skip ?_
    have empty:∀ {Q':Exit → Regs → TH → Prop},(∀ g',∀ r,Kn [(4,.bool true)] r → Q' .ret r g') → (Nat.beq k 0 || Nat.beq k (l.length - 1)) = true → ∀ r,Kn [(23,w23)] r → W Tryz.prog tp false (.seq (.reg r1010_40) .ret) r g3 Q':=by
      intro Q' er' hb
      rw [hb] at o23
      replace o23:OwnL encI g2.next g3 w23 3 []:=o23
      refine WL.sr <| WOL.mv rfl <| WOL.len rfl (o23.sl eI) u29 ?_
      refine WOL.bi (v:=.bool true) rfl rfl rfl <| WOL.mv rfl <| WOL.now (b:=true) rfl rfl <| WOL.cl0 rfl ((k11 A _).mono ?_)
      rintro w g4 ⟨rfl,e4⟩
      replace e4:=e4.symm
      subst e4
      refine WOL.pkt rfl rfl <| WOL.as rfl <| WOL.nil ?_
      exact WL.ret (kto (er' _) ⟨rfl,trivial⟩)
    refine WL.seq <| WL.sr <| WOL.mv rfl ?_
    refine WOL.bi (v:=.bool ((k:Int) == 0)) rfl rfl rfl <| WOL.mv rfl ?_
    by_cases h0:k = 0
    · subst h0
      rw [show (((0:Nat):Int) == 0) = true from rfl]
      refine WOL.skp (b:=true) rfl rfl <| WOL.skp (b:=true) rfl rfl <| WOL.skp (b:=true) rfl rfl <| WOL.skp (b:=true) rfl rfl <| WOL.skp (b:=true) rfl rfl <| WOL.pkt rfl rfl <| WOL.nil <| keep [(0,_),(5,_),(13,_),(23,_),(190,_)] ⟨rfl,rfl,rfl,rfl,rfl,trivial⟩ ?_
      exact WL.yes rfl <| kto (empty (fun g' r q => er g' r q) rfl) ⟨rfl,trivial⟩
    · rw [show ((k:Int) == 0) = false from beq_eq_false_iff_ne.2 (by omega)]
      refine WOL.now (b:=false) rfl rfl <| WOL.mv rfl <| WOL.now (b:=false) rfl rfl <| WOL.mv rfl <| WOL.now (b:=false) rfl rfl <| WOL.len rfl (s.hx Y3) u1004 <| WOL.now (b:=false) rfl rfl ?_
      refine WOL.sub (m:=((l.length:Nat):Int)) (n:=1) rfl rfl (by omega) (by omega) <| WOL.now (b:=false) rfl rfl ?_
      refine WOL.bi (v:=.bool ((k:Int) == (l.length:Int) - 1)) rfl rfl rfl <| WOL.pkf rfl rfl <| WOL.nil <| keep [(0,_),(5,_),(13,_),(23,_),(190,_)] ⟨rfl,rfl,rfl,rfl,rfl,trivial⟩ ?_
      by_cases h1:k = l.length - 1
      · rw [show ((k:Int) == (l.length:Int) - 1) = true by rw [show (l.length:Int) - 1 = (k:Int) by omega]; exact beq_self_eq_true _]
        refine WL.yes rfl <| kto (empty (fun g' r q => er g' r q) ?_) ⟨rfl,trivial⟩
        rw [← h1,Nat.beq_refl,Bool.or_true]
      · rw [show ((k:Int) == (l.length:Int) - 1) = false from beq_eq_false_iff_ne.2 (by omega)]
        refine WL.no rfl <| WL.skip ?_
        rw [beqK_no h0,beqK_no h1] at o23
        replace o23:OwnL encI g2.next g3 w23 3 [(cntN l k:Int)]:=o23
        have hq:((List.range l.length).map (sntP l))[k]? = some (sntP l k):=by rw [List.getElem?_map,List.getElem?_range kl]; rfl
        obtain ⟨b2,o2',c2,x2,y2,e2,k1,k2,k3,k4,k5⟩:=(s5.hx Y3).at eP u1004 tp1003 hq .i64
        refine WL.sr <| WOL.mv rfl <| WOL.mv rfl <| WOL.mv rfl <| WOL.ix rfl rfl k1 <| WOL.fa rfl (fa_of fo1003_1) <| WOL.ld rfl (load_one tp3 k2 (k5 1 (by decide))) ?_
        refine WOL.bs1 rfl u29 tp3 rfl fun g4 N4 => ?_
        refine WOL.cl2 rfl rfl rfl ((k18 H ((ownI_ints o23).hx N4.hx) (lit_ints (c:=(cntN l k:Int)) N4.at_) (by simp)).mono ?_)
        rintro w g5 ⟨rfl,e5⟩
        replace e5:=e5.symm
        subst e5
        rw [decide_eq_true rfl]
        refine WOL.mv rfl <| WOL.now (b:=true) rfl rfl <| WOL.cl0 rfl ((k11 A _).mono ?_)
        rintro w g6 ⟨rfl,e6⟩
        replace e6:=e6.symm
        subst e6
        refine WOL.pkt rfl rfl <| WOL.as rfl <| WOL.nil ?_
        exact WL.ret (kto (er _) ⟨rfl,trivial⟩)
  · exfalso
    cases hb:(Nat.beq k 0 || Nat.beq k (l.length - 1)) with
    | true => rw [hb] at q; exact absurd q (by show ¬ 256 < 0; omega)
    | false => rw [hb] at q; exact absurd q (by show ¬ 256 < 1; omega)
end
theorem pkv_of {l:List Pkt} {E:List Int} (hE:PErr l E) (h0:firstNZ E = 0) (hb:∀ p,p ∈ l → p.2.2.1 < 4294967296 ∧ p.2.2.2.1 < 4294967296 ∧ p.2.2.2.2 < 4294967296):PkV l:=by
 intro p hp
 refine ⟨hb p hp,?_⟩
 obtain ⟨i,hi,rfl⟩:=List.getElem_of_mem hp
 have hiE:i < E.length:=hE.1 ▸ hi
 have q:=hE.2 i l[i] E[i] (List.getElem?_eq_getElem hi) (List.getElem?_eq_getElem hiE)
 rw [firstNZ_zero h0 E[i] (List.getElem_mem hiE)] at q
 obtain ⟨es,hS,hq⟩:=q
 have z:=firstNZ_zero hq.symm
 have z3:=firstNZ_zero (z (firstNZ es) (by simp))
 obtain ⟨hl,hs⟩:=hS
 match es,hl with
 | [e1,e2,e3],_ =>
  have a1:=hs 0 _ e1 rfl rfl
  have a2:=hs 1 _ e2 rfl rfl
  have a3:=hs 2 _ e3 rfl rfl
  rw [z3 e1 (by simp)] at a1
  rw [z3 e2 (by simp)] at a2
  rw [z3 e3 (by simp)] at a3
  exact ⟨a1,a2,a3⟩
section
variable {h:TH} {l:List Pkt} {v:Value} {n0 n1 n2:Nat}
set_option maxHeartbeats 4000000 in
set_option maxRecDepth 10000 in
theorem k1010 (H:Has tp) (X:HasX tp) (Y:HasY tp) (A:Awk tp) (hb:∀ p,p ∈ l → p.2.2.1 < 4294967296 ∧ p.2.2.2.1 < 4294967296 ∧ p.2.2.2.2 < 4294967296) (i0:n0 < 256) (i1:n1 < 256) (i2:n2 < 256) (s:SlL encP 5 h v l) (f:Free0 h.next h) :
    CallW Tryz.prog tp (.func (.func 11) #[] #[]) #[v,.agg #[.int .u8 (n0:Nat),.int .u8 (n1:Nat),.int .u8 (n2:Nat)]] h fun w _ => w = .bool true:=by
  refine CallW.fnL (H.fn 11 f1010 rfl rfl) ?_
  refine WL.sr <| WOL.box rfl fun h1 N1 => WOL.as rfl <| WOL.nil <| keep [(0,_),(3,_)] ⟨rfl,rfl,trivial⟩ ?_
  have n1':=N1.next
  have s1:=s.hx N1.hx
  have f1:=f.on N1.hx
  have A3:At h1 h.next (.cells [.int .u8 (n0:Nat),.int .u8 (n1:Nat),.int .u8 (n2:Nat)] true true 128):=N1.at_
  refine WL.seq <| WL.sr <| WOL.mv rfl <| WOL.len rfl s1 u1004 ?_
  refine WOL.bi (v:=.bool (decide ((l.length:Int) < 1))) rfl rfl rfl <| WOL.mv rfl ?_
  by_cases hm:0 < l.length
  · rw [show decide ((l.length:Int) < 1) = false from decide_eq_false (by omega)]
    refine WOL.now (b:=false) rfl rfl <| WOL.mv rfl <| WOL.now (b:=false) rfl rfl <| WOL.len rfl s1 u1004 <| WOL.now (b:=false) rfl rfl ?_
    refine WOL.bi (v:=.bool (decide ((l.length:Int) > 8))) rfl rfl rfl <| WOL.pkf rfl rfl <| WOL.mv rfl ?_
    by_cases hl:l.length ≤ 8
    · rw [show decide ((l.length:Int) > 8) = false from decide_eq_false (by omega)]
      obtain ⟨E,hE⟩:=perr_ex l
      refine WOL.now (b:=false) rfl rfl <| WOL.mv rfl <| WOL.now (b:=false) rfl rfl ?_
      refine WOL.cl1 rfl rfl ((k1015 H s1 hE (by omega)).mono ?_)
      rintro w h2 ⟨rfl,X2⟩
      refine WOL.now (b:=false) rfl rfl <| WOL.bi rfl rfl nzero <| WOL.pkf rfl rfl <| WOL.nil <| keep [(0,_),(3,_),(37,_)] ⟨rfl,rfl,rfl,trivial⟩ ?_
      rcases nz_cases (chkE l.length E) with hz | hz
      · rw [hz]
        refine WL.no rfl <| WL.skip ?_
        have hz':firstNZ E = 0:=by
          unfold chkE at hz
          rw [show decide ((l.length:Int) > 1024) = false from decide_eq_false (by omega)] at hz
          exact hz
        have hV:=pkv_of hE hz' hb
        have hc:0 ≤ (l.getD 0 noPk).2.1 ∧ (l.getD 0 noPk).2.1 < 65536:=by
          rw [List.getD_eq_getElem?_getD,List.getElem?_eq_getElem hm]
          have:=perr_ok hE hz' l[0] (List.getElem_mem hm)
          exact ⟨this.2.1,this.2.2.1⟩
        have s2:=s1.hx X2
        have f2:=f1.on X2
        have B3:=A3.hx X2
        refine WL.sr <| WOL.as rfl <| WOL.nil ?_
        refine WL.sr <| WOL.as rfl <| WOL.nil <| keep [(0,_),(3,_),(5,_),(6,_)] ⟨rfl,rfl,rfl,rfl,trivial⟩ ?_
        refine WL.seq <| k1010a H X Y hV hc hl s2 f2 fun g w5 w6 X3 O5 O6 ne => ?_
        show ∀ a,Kn [(0,v),(3,ptr h.next),(5,w5),(6,w6)] a → W Tryz.prog tp false (r1010b (r1010c r1010d)) a g _
        refine k1010b A i0 i1 i2 hl hm s2 f2 B3 X3 O5 O6 ne (fun g' k a b kl al bl' bne hmk X4 O5' O6' => ?_) fun g' r q => WL.end_ rfl rfl r q
        refine k1010c H X Y hV hl s2 f2 kl al bl' bne hmk X4 (O5'.sl eP) (O6'.sl eY) fun g5 w17 X5 s17 => ?_
        exact k1010d H X A hV hl (s2.hx (X4.trans X5)) (f2.on (X4.trans X5)) kl ((O5'.sl eP).hx X5) s17 fun g' r q => WL.end_ rfl rfl r q
      · rw [hz]
        refine WL.yes rfl <| WL.sr <| WOL.cl0 rfl ((k11 A _).mono ?_)
        rintro v h4 ⟨rfl,rfl⟩
        refine WOL.as rfl <| WOL.nil ?_
        exact WL.ret (WL.end_ rfl rfl)
    · rw [show decide ((l.length:Int) > 8) = true from decide_eq_true (by omega)]
      refine WOL.skp (b:=true) rfl rfl <| WOL.skp (b:=true) rfl rfl <| WOL.skp (b:=true) rfl rfl <| WOL.pkt rfl rfl <| WOL.nil <| keep [(37,_)] ⟨rfl,trivial⟩ ?_
      refine WL.yes rfl <| WL.sr <| WOL.cl0 rfl ((k11 A _).mono ?_)
      rintro v h4 ⟨rfl,rfl⟩
      refine WOL.as rfl <| WOL.nil ?_
      exact WL.ret (WL.end_ rfl rfl)
  · rw [show decide ((l.length:Int) < 1) = true from decide_eq_true (by omega)]
    refine WOL.skp (b:=true) rfl rfl <| WOL.skp (b:=true) rfl rfl <| WOL.skp (b:=true) rfl rfl <| WOL.pkt rfl rfl <| WOL.mv rfl <| WOL.skp (b:=true) rfl rfl <| WOL.skp (b:=true) rfl rfl <| WOL.skp (b:=true) rfl rfl <| WOL.pkt rfl rfl <| WOL.nil <| keep [(37,_)] ⟨rfl,trivial⟩ ?_
    refine WL.yes rfl <| WL.sr <| WOL.cl0 rfl ((k11 A _).mono ?_)
    rintro v h4 ⟨rfl,rfl⟩
    refine WOL.as rfl <| WOL.nil ?_
    exact WL.ret (WL.end_ rfl rfl)
end
abbrev PkW:={p:Pkt // p.2.2.1 < 4294967296 ∧ p.2.2.2.1 < 4294967296 ∧ p.2.2.2.2 < 4294967296}
theorem cat_val:∀ l:List PkW,cat (fun p:PkW => encP p.1) l = cat encP (l.map (·.1))
 | [] => rfl
 | x :: l => by
  show encP x.1 ++ cat (fun p:PkW => encP p.1) l = encP x.1 ++ cat encP (l.map (·.1))
  rw [cat_val l]
attribute [local irreducible] Ty valOf
set_option maxRecDepth 100000 in
theorem law1010:Law tpE 11 5 [86,128]:=by
 intro h us f ha
 match us,ha with
 | [x0,x1],⟨⟨p0,y0,e0⟩,⟨p1,y1,e1⟩,_⟩ =>
  obtain ⟨v,l,rfl,s,_⟩:=tyg_slice (enc:=fun p:PkW => encP p.1) (k:=5) ⟨fun _ => rfl,fun _ => rfl⟩ u1004 (fun p y => by obtain ⟨x,e,hx⟩:=ty_pkt y; exact ⟨⟨x,hx⟩,e⟩) y0
  have s':SlL encP 5 h v (l.map (·.1)):=by
   unfold SlL at s ⊢
   rw [← cat_val,List.length_map]
   exact s
  obtain ⟨a,b,c,rfl,ha,hb,hc⟩:=ty_threeU y1
  obtain ⟨a',rfl⟩:∃ n:Nat,a = (n:Int):=⟨a.toNat,by omega⟩
  obtain ⟨b',rfl⟩:∃ n:Nat,b = (n:Int):=⟨b.toNat,by omega⟩
  obtain ⟨c',rfl⟩:∃ n:Nat,c = (n:Int):=⟨c.toNat,by omega⟩
  have ev:valOf Tryz.prog 86 [v] = v:=by unfold valOf; rw [u1004]; rfl
  rw [ev] at e0
  rw [val_agg (.inr ⟨_,_,u94⟩)] at e1
  subst e0 e1
  refine k1010 hasE hasXE hasYE awkE (fun p hp => ?_) (by omega) (by omega) (by omega) s' f
  obtain ⟨q,_,rfl⟩:=List.mem_map.1 hp
  exact q.2
end Go.Tidy
